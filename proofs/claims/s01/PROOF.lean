import PyProof.Rows.All
import Wide.All
import OpenK.AllK
import Wide.FinOn
import Open.SpecLaws
import KE.OsHead
import KE.OsGo
import HandS.ForSpec
import HandS.Base
import HandS.Call
import HandS.Comp
import HandS.Ends
import HandS.Evl
import HandS.List
import HandS.SortKw
import HandS.Text
import HandS.Words
import PySem.Challenge.RW_justthisdeed_s01_answers
set_option Elab.async false
set_option linter.all false
set_option maxRecDepth 100000
set_option maxHeartbeats 8000000
namespace Jd
open Kp332

/-! ### sums -/
theorem sum_snoc (l : List Nat) (x : Nat) : Kp332.sum (l ++ [x]) = Kp332.sum l + x := by
  unfold Kp332.sum
  rw [List.foldl_append]
  rfl
theorem foldl_add (l : List Nat) : ∀ a : Nat, l.foldl (fun (a b : Nat) => a + b) a = a + l.foldl (fun (a b : Nat) => a + b) 0 := by
  induction l with
  | nil => intro a; rfl
  | cons x r ih =>
    intro a
    rw [List.foldl_cons, List.foldl_cons, ih (a + x), ih (0 + x)]
    omega
theorem sum_nil : Kp332.sum [] = 0 := rfl
/-- amounts of the deeds that p tells -/
def amt (p : Deed → Bool) (l : List Deed) : Nat := Kp332.sum ((l.filter p).map fun d => d.amount)
theorem amt_nil (p : Deed → Bool) : amt p [] = 0 := rfl
theorem amt_snoc (p : Deed → Bool) (l : List Deed) (d : Deed) : amt p (l ++ [d]) = amt p l + (if p d then d.amount else 0) := by
  unfold amt
  rw [List.filter_append, List.map_append]
  by_cases h : p d = true
  · rw [List.filter_cons, if_pos h, if_pos h, List.filter_nil]
    exact sum_snoc _ _
  · rw [List.filter_cons, if_neg h, if_neg h, List.filter_nil]
    show Kp332.sum (_ ++ []) = _
    rw [List.append_nil, Nat.add_zero]
theorem amt_congr {p q : Deed → Bool} {l : List Deed} (h : ∀ d ∈ l, p d = q d) : amt p l = amt q l := by
  unfold amt
  rw [List.filter_congr h]

/-! ### a list's places -/
theorem take_snoc {α : Type} {l : List α} {i : Nat} {x : α} (h : l[i]? = some x) : l.take (i + 1) = l.take i ++ [x] := by
  rw [List.take_add_one, h]
  rfl
theorem getD_some {α : Type} {l : List α} {i : Nat} {x d : α} (h : l[i]? = some x) : l.getD i d = x := by
  rw [List.getD_eq_getElem?_getD, h]
  rfl
theorem get_some {α : Type} {l : List α} {i : Nat} (h : i < l.length) : ∃ x, l[i]? = some x := ⟨l[i], List.getElem?_eq_getElem h⟩
theorem some_lt {α : Type} {l : List α} {i : Nat} {x : α} (h : l[i]? = some x) : i < l.length := (List.getElem?_eq_some_iff.mp h).1
theorem rule_at {h : House} {k : Nat} (hk : k < h.rules.length) : h.rules[k]? = some (ruleAt h k) := by
  obtain ⟨x, e⟩ := get_some hk
  rw [e, ruleAt, getD_some e]
theorem asked_at {h : House} {k : Nat} (hk : k < h.asked.length) : h.asked[k]? = some (askedAt h k) := by
  obtain ⟨x, e⟩ := get_some hk
  rw [e, askedAt, getD_some e]
theorem grant_at {h : House} {k : Nat} (hk : k < h.grants.length) : h.grants[k]? = some (grantAt h k) := by
  obtain ⟨x, e⟩ := get_some hk
  rw [e, grantAt, getD_some e]
theorem rule_of {h : House} {k : Nat} {r : Rule} (e : h.rules[k]? = some r) : ruleAt h k = r := getD_some e
theorem asked_of {h : House} {k : Nat} {r : Asked} (e : h.asked[k]? = some r) : askedAt h k = r := getD_some e
theorem grant_of {h : House} {k : Nat} {r : Grant} (e : h.grants[k]? = some r) : grantAt h k = r := getD_some e

/-! ### chains -/
/-- what is handed on comes from one that stood before -/
def Down (h : House) : Prop := ∀ (g p : Nat), g < h.grants.length → (grantAt h g).from_ = some p → p < g
theorem grant_out {h : House} {g : Nat} (hg : ¬ g < h.grants.length) : grantAt h g = ⟨0, 0, 0, 0, 0, 0, none, true⟩ := by
  unfold grantAt
  rw [List.getD_eq_getElem?_getD, List.getElem?_eq_none (by omega)]
  rfl
theorem Down.all {h : House} (d : Down h) {g p : Nat} (e : (grantAt h g).from_ = some p) : p < g ∧ g < h.grants.length := by
  by_cases hg : g < h.grants.length
  · exact ⟨d g p hg e, hg⟩
  · rw [grant_out hg] at e
    cases e
theorem chainUp_succ (h : House) (f g : Nat) : chainUp h (f + 1) g = g :: (match (grantAt h g).from_ with
    | some p => chainUp h f p
    | none => []) := rfl
theorem chainUp_fuel {h : House} (d : Down h) : ∀ (g f f' : Nat), g < f → g < f' → chainUp h f g = chainUp h f' g := by
  intro g
  induction g using Nat.strongRecOn with
  | _ g ih =>
    intro f f' hf hf'
    obtain ⟨a, rfl⟩ : ∃ a, f = a + 1 := ⟨f - 1, by omega⟩
    obtain ⟨b, rfl⟩ : ∃ b, f' = b + 1 := ⟨f' - 1, by omega⟩
    rw [chainUp_succ, chainUp_succ]
    cases e : (grantAt h g).from_ with
    | none => rfl
    | some p =>
      have := (d.all e).1
      show g :: chainUp h a p = g :: chainUp h b p
      rw [ih p (by omega) a b (by omega) (by omega)]
theorem chain_eq {h : House} (d : Down h) {g : Nat} (hg : g < h.grants.length) : Kp332.chain h g = g :: (match (grantAt h g).from_ with
    | some p => Kp332.chain h p
    | none => []) := by
  unfold Kp332.chain
  obtain ⟨a, ha⟩ : ∃ a, h.grants.length = a + 1 := ⟨h.grants.length - 1, by omega⟩
  rw [ha, chainUp_succ]
  cases e : (grantAt h g).from_ with
  | none => rfl
  | some p =>
    have := (d.all e).1
    show g :: chainUp h a p = g :: chainUp h (a + 1) p
    rw [chainUp_fuel d p a (a + 1) (by omega) (by omega)]
theorem chainUp_le {h : House} (d : Down h) : ∀ (f g i : Nat), i ∈ chainUp h f g → i ≤ g
  | 0, g, i, hi => by cases hi
  | f + 1, g, i, hi => by
    rw [chainUp_succ] at hi
    rcases List.mem_cons.mp hi with rfl | hi
    · exact Nat.le_refl _
    · cases e : (grantAt h g).from_ with
      | none =>
        rw [e] at hi
        cases hi
      | some p =>
        rw [e] at hi
        have h1 := chainUp_le d f p i hi
        have h2 := (d.all e).1
        omega
theorem chain_le {h : House} (d : Down h) {g i : Nat} (hi : i ∈ Kp332.chain h g) : i ≤ g := chainUp_le d _ _ _ hi
theorem chainUp_same {h h' : House} (e : ∀ g, (grantAt h' g).from_ = (grantAt h g).from_) : ∀ (f g : Nat), chainUp h' f g = chainUp h f g
  | 0, _ => rfl
  | f + 1, g => by
    rw [chainUp_succ, chainUp_succ, e g]
    cases (grantAt h g).from_ with
    | none => rfl
    | some p =>
      show g :: chainUp h' f p = g :: chainUp h f p
      rw [chainUp_same e f p]
/-- the same for the first ones -/
theorem chainUp_below {h h' : House} (d : Down h) (n : Nat) (e : ∀ g, g < n → (grantAt h' g).from_ = (grantAt h g).from_) : ∀ (f g : Nat), g < n → chainUp h' f g = chainUp h f g
  | 0, _, _ => rfl
  | f + 1, g, hg => by
    rw [chainUp_succ, chainUp_succ, e g hg]
    cases q : (grantAt h g).from_ with
    | none => rfl
    | some p =>
      have := (d.all q).1
      show g :: chainUp h' f p = g :: chainUp h f p
      rw [chainUp_below d n e f p (by omega)]
/-- grants that differ in nothing that a chain reads -/
theorem chain_same {h h' : House} (l : h'.grants.length = h.grants.length) (e : ∀ g, (grantAt h' g).from_ = (grantAt h g).from_) (g : Nat) : Kp332.chain h' g = Kp332.chain h g := by
  unfold Kp332.chain
  rw [l, chainUp_same e]
/-- one more standing yes -/
theorem grant_snoc {h : House} {x : Grant} {g : Nat} (hg : g < h.grants.length) : grantAt { h with grants := h.grants ++ [x] } g = grantAt h g := by
  unfold grantAt
  rw [List.getD_eq_getElem?_getD, List.getD_eq_getElem?_getD]
  show (h.grants ++ [x])[g]?.getD _ = _
  rw [List.getElem?_append_left hg]
theorem grant_new {h : House} {x : Grant} : grantAt { h with grants := h.grants ++ [x] } h.grants.length = x := by
  unfold grantAt
  rw [List.getD_eq_getElem?_getD]
  show (h.grants ++ [x])[h.grants.length]?.getD _ = _
  rw [List.getElem?_append_right (Nat.le_refl _), Nat.sub_self]
  rfl
theorem Down.snoc {h : House} (d : Down h) {x : Grant} (hx : ∀ p, x.from_ = some p → p < h.grants.length) : Down { h with grants := h.grants ++ [x] } := by
  intro g p hg e
  have hg' : g < h.grants.length + 1 := by
    have : g < (h.grants ++ [x]).length := hg
    rw [List.length_append] at this
    exact this
  by_cases hl : g < h.grants.length
  · rw [grant_snoc hl] at e
    exact d g p hl e
  · obtain rfl : g = h.grants.length := by omega
    rw [grant_new] at e
    exact hx p e
theorem chain_snoc {h : House} (d : Down h) {x : Grant} (hx : ∀ p, x.from_ = some p → p < h.grants.length) {g : Nat} (hg : g < h.grants.length) : Kp332.chain { h with grants := h.grants ++ [x] } g = Kp332.chain h g := by
  have d' := d.snoc hx
  unfold Kp332.chain
  have hl : ({ h with grants := h.grants ++ [x] } : House).grants.length = h.grants.length + 1 := by
    show (h.grants ++ [x]).length = _
    rw [List.length_append]
    rfl
  rw [hl, chainUp_fuel d' g (h.grants.length + 1) h.grants.length (by omega) hg]
  exact chainUp_below d h.grants.length (fun i hi => by rw [grant_snoc hi]) _ _ hg
theorem chain_new {h : House} (d : Down h) {x : Grant} (hx : ∀ p, x.from_ = some p → p < h.grants.length) : Kp332.chain { h with grants := h.grants ++ [x] } h.grants.length = h.grants.length :: (match x.from_ with
    | some p => Kp332.chain h p
    | none => []) := by
  have hl : h.grants.length < ({ h with grants := h.grants ++ [x] } : House).grants.length := by
    show _ < (h.grants ++ [x]).length
    rw [List.length_append]
    exact Nat.lt_succ_self _
  rw [chain_eq (d.snoc hx) hl, grant_new]
  cases e : x.from_ with
  | none => rfl
  | some p =>
    show _ :: Kp332.chain _ p = _ :: Kp332.chain h p
    rw [chain_snoc d hx (hx p e)]
theorem chain_ne {h : House} (d : Down h) {g : Nat} (hg : g < h.grants.length) : Kp332.chain h g ≠ [] := by
  rw [chain_eq d hg]
  simp
theorem chain_self {h : House} (d : Down h) {g : Nat} (hg : g < h.grants.length) : g ∈ Kp332.chain h g := by
  rw [chain_eq d hg]
  exact List.mem_cons_self
theorem chain_len {h : House} (d : Down h) : ∀ (g : Nat), g < h.grants.length → (Kp332.chain h g).length ≤ g + 1 := by
  intro g
  induction g using Nat.strongRecOn with
  | _ g ih =>
    intro hg
    rw [chain_eq d hg]
    cases e : (grantAt h g).from_ with
    | none => show 1 ≤ g + 1; omega
    | some p =>
      have hp := (d.all e).1
      have := ih p hp (by omega)
      show (Kp332.chain h p).length + 1 ≤ g + 1
      omega

/-! ### the least -/
theorem foldl_min (l : List Nat) : ∀ a : Nat, l.foldl min a ≤ a ∧ (∀ x ∈ l, l.foldl min a ≤ x) ∧ (l.foldl min a = a ∨ l.foldl min a ∈ l) := by
  induction l with
  | nil => intro a; exact ⟨Nat.le_refl _, fun x h => absurd h (by simp), .inl rfl⟩
  | cons y r ih =>
    intro a
    obtain ⟨h1, h2, h3⟩ := ih (min a y)
    rw [List.foldl_cons]
    refine ⟨by omega, fun x hx => ?_, ?_⟩
    · rcases List.mem_cons.mp hx with rfl | hx
      · omega
      · exact h2 x hx
    · rcases h3 with h3 | h3
      · rw [h3]
        by_cases q : a ≤ y
        · exact .inl (by omega)
        · refine .inr ?_
          have : min a y = y := by omega
          rw [this]
          exact List.mem_cons_self
      · exact .inr (List.mem_cons_of_mem _ h3)
theorem least_le {l : List Nat} {x : Nat} (h : x ∈ l) : least l ≤ x := (foldl_min l _).2.1 x h
theorem least_mem {l : List Nat} (h : l ≠ []) : least l ∈ l := by
  cases l with
  | nil => exact absurd rfl h
  | cons a r =>
    rcases (foldl_min (a :: r) ((a :: r).headD 0)).2.2 with e | e
    · unfold least
      rw [e]
      exact List.mem_cons_self
    · exact e
theorem least_unique {l : List Nat} {m : Nat} (h : m ∈ l) (h' : ∀ x ∈ l, m ≤ x) : least l = m :=
  Nat.le_antisymm (least_le h) (h' _ (least_mem (by rintro rfl; cases h)))
end Jd
namespace Jd
open Kp332

/-! ### sets -/
theorem setOf_fold (n : Nat) (f : Nat → Bool) : ∀ k : Nat, ((List.range n).foldl (fun (s k : Nat) => if f k then s ||| 2 ^ k else s) 0).testBit k = (decide (k < n) && f k) := by
  induction n with
  | zero => intro k; simp
  | succ n ih =>
    intro k
    rw [List.range_succ, List.foldl_append, List.foldl_cons, List.foldl_nil]
    by_cases hf : f n = true
    · rw [if_pos hf, Nat.testBit_or, ih k, Nat.testBit_two_pow]
      by_cases hk : n = k
      · subst hk
        simp [hf]
      · have : decide (k < n + 1) = decide (k < n) := by
          apply decide_eq_decide.mpr
          omega
        rw [this, decide_eq_false hk, Bool.or_false]
    · rw [if_neg hf, ih k]
      by_cases hk : n = k
      · subst hk
        simp [Bool.eq_false_iff.mpr hf]
      · have : decide (k < n + 1) = decide (k < n) := by
          apply decide_eq_decide.mpr
          omega
        rw [this]
theorem setOf_bit (n : Nat) (f : Nat → Bool) (k : Nat) : (setOf n f).testBit k = (decide (k < n) && f k) := setOf_fold n f k
theorem setOf_succ (n : Nat) (f : Nat → Bool) : setOf (n + 1) f = if f n then setOf n f ||| 2 ^ n else setOf n f := by
  unfold setOf
  rw [List.range_succ, List.foldl_append, List.foldl_cons, List.foldl_nil]
theorem lt_of_bits {n s : Nat} (h : ∀ k, n ≤ k → s.testBit k = false) : s < 2 ^ n := Nat.lt_pow_two_of_testBit s h
theorem bits_of_lt {n s k : Nat} (h : s < 2 ^ n) (hk : n ≤ k) : s.testBit k = false := Nat.testBit_lt_two_pow (Nat.lt_of_lt_of_le h (Nat.pow_le_pow_right (by decide) hk))
theorem setOf_lt (n : Nat) (f : Nat → Bool) : setOf n f < 2 ^ n := lt_of_bits fun k hk => by
  rw [setOf_bit, decide_eq_false (by omega)]
  rfl
theorem is_setOf {n s : Nat} {f : Nat → Bool} (h : ∀ k, s.testBit k = (decide (k < n) && f k)) : s = setOf n f := Nat.eq_of_testBit_eq fun k => by rw [h, setOf_bit]
theorem setOf_congr {n : Nat} {f g : Nat → Bool} (h : ∀ k, k < n → f k = g k) : setOf n f = setOf n g := is_setOf fun k => by
  rw [setOf_bit]
  by_cases hk : k < n
  · rw [h k hk]
  · rw [decide_eq_false hk]
    rfl
theorem or_lt {n a b : Nat} (ha : a < 2 ^ n) (hb : b < 2 ^ n) : a ||| b < 2 ^ n := Nat.or_lt_two_pow ha hb
theorem bit_lt {n p : Nat} (h : p < n) : 2 ^ p < 2 ^ n := Nat.pow_lt_pow_right (by decide) h
/-- how many bits -/
def pop : Nat → Nat → Nat
  | 0, _ => 0
  | f + 1, s => s % 2 + pop f (s / 2)
theorem size_pop : ∀ (n s : Nat), size n s = pop n s
  | 0, s => rfl
  | n + 1, s => by
    have ih := size_pop n (s / 2)
    unfold size at ih ⊢
    rw [List.range_succ_eq_map, List.filter_cons, List.filter_map, List.length_eq_length_of_map s ih] <;> rfl
where
  List.length_eq_length_of_map {n : Nat} (s : Nat) (ih : ((List.range n).filter fun k => (s / 2).testBit k).length = pop n (s / 2)) :
    (if s.testBit 0 = true then 0 :: List.map Nat.succ (List.filter ((fun k => s.testBit k) ∘ Nat.succ) (List.range n)) else List.map Nat.succ (List.filter ((fun k => s.testBit k) ∘ Nat.succ) (List.range n))).length = pop (n + 1) s := by
    have e : ((fun k => s.testBit k) ∘ Nat.succ) = fun k => (s / 2).testBit k := by
      funext k
      show s.testBit (k + 1) = _
      rw [Nat.testBit_succ]
    have z : s.testBit 0 = decide (s % 2 = 1) := Nat.testBit_zero s
    show _ = s % 2 + pop n (s / 2)
    rw [e, z]
    by_cases h : s % 2 = 1
    · rw [if_pos (decide_eq_true h), List.length_cons, List.length_map, ih, h]
      omega
    · rw [if_neg (by simpa using h), List.length_map, ih]
      omega
theorem pop_zero : ∀ n : Nat, pop n 0 = 0
  | 0 => rfl
  | n + 1 => by
    show 0 % 2 + pop n (0 / 2) = 0
    rw [Nat.zero_div, pop_zero n]
theorem size_le (n s : Nat) : size n s ≤ n := by
  unfold size
  have := List.length_filter_le (fun k => s.testBit k) (List.range n)
  rw [List.length_range] at this
  exact this
end Jd
namespace Jd
open Kp332

/-! ### numbers as sets: the program's way -/
theorem xor_sub_and (n m : Nat) : n ^^^ (n &&& m) = n - (n &&& m) := by
  have key : ∀ a b : Nat, (a ^^^ b) + 2 * (a &&& b) = a + b := by
    intro a
    induction a using Nat.strongRecOn with
    | _ a ih =>
      intro b
      by_cases h0 : a = 0
      · subst h0
        simp
      · have ih' := ih (a / 2) (by omega) (b / 2)
        rw [← Nat.xor_div_two, ← Nat.and_div_two] at ih'
        have o1 := @Nat.xor_mod_two_eq_one a b
        have a1 := @Nat.and_mod_two_eq_one a b
        omega
  have e : n &&& (n &&& m) = n &&& m := by
    rw [← Nat.and_assoc, Nat.and_self]
  have q := key n (n &&& m)
  rw [e] at q
  omega
theorem bit_andNot (n m k : Nat) : (n - (n &&& m)).testBit k = (n.testBit k && !m.testBit k) := by
  rw [← xor_sub_and, Nat.testBit_xor, Nat.testBit_and]
  cases n.testBit k <;> cases m.testBit k <;> rfl
theorem bit_or_pow (s p k : Nat) : (s ||| 2 ^ p).testBit k = (s.testBit k || decide (p = k)) := by
  rw [Nat.testBit_or, Nat.testBit_two_pow]
/-- the roots of those that hold, put to a set -/
theorem uses_bits (l : List Nat) (c : Nat → Bool) (rt : Nat → Nat) : ∀ (s k : Nat), (l.foldl (fun (s g : Nat) => if c g then s ||| 2 ^ rt g else s) s).testBit k = (s.testBit k || l.any fun g => c g && rt g == k) := by
  induction l with
  | nil => intro s k; simp
  | cons g r ih =>
    intro s k
    rw [List.foldl_cons, ih, List.any_cons]
    by_cases h : c g = true
    · rw [if_pos h, bit_or_pow, h]
      have : (rt g == k) = decide (rt g = k) := by
        by_cases e : rt g = k
        · subst e; simp
        · simp [e]
      rw [this, Bool.true_and, Bool.or_assoc]
    · rw [if_neg h, Bool.eq_false_iff.mpr h, Bool.false_and, Bool.false_or]
/-- who counts, as the program tells it -/
theorem counts_is {h : House} {a : Asked} {more : Nat} (hm : (ruleAt h a.kind).may < 2 ^ h.n) :
    Kp332.counts h a more =
      ((a.uses.foldl (fun (s g : Nat) => if holds h a g then s ||| 2 ^ root h g else s) (a.yes ||| more)) &&& (ruleAt h a.kind).may) -
        (((a.uses.foldl (fun (s g : Nat) => if holds h a g then s ||| 2 ^ root h g else s) (a.yes ||| more)) &&& (ruleAt h a.kind).may) &&& 2 ^ a.asker) := by
  refine (is_setOf fun k => ?_).symm
  rw [bit_andNot, Nat.testBit_and, uses_bits, Nat.testBit_or, Nat.testBit_two_pow]
  by_cases hk : k < h.n
  · rw [decide_eq_true hk, Bool.true_and]
    have e : (k != a.asker) = !decide (a.asker = k) := by
      by_cases q : a.asker = k
      · subst q; simp
      · have q' : ¬ k = a.asker := fun z => q z.symm
        simp [q, q']
    rw [e]
    cases (a.yes.testBit k) <;> cases (more.testBit k) <;> cases ((ruleAt h a.kind).may.testBit k) <;> cases (decide (a.asker = k)) <;> cases (a.uses.any fun g => holds h a g && root h g == k) <;> rfl
  · rw [decide_eq_false hk, bits_of_lt hm (by omega), Bool.false_and, Bool.and_false, Bool.false_and]
theorem counts_lt {h : House} {a : Asked} {more : Nat} : Kp332.counts h a more < 2 ^ h.n := setOf_lt _ _
/-- more said yes, told at once -/
theorem counts_more {h : House} {a : Asked} {s : Nat} : Kp332.counts h { a with yes := a.yes ||| s } 0 = Kp332.counts h a s := by
  refine setOf_congr fun p _ => ?_
  show (p != a.asker && (ruleAt h a.kind).may.testBit p && ((a.yes ||| s).testBit p || (0 : Nat).testBit p || a.uses.any fun g => holds h { a with yes := a.yes ||| s } g && root h g == p)) = _
  rw [Nat.testBit_or, Nat.zero_testBit, Bool.or_false]
  rfl

/-! ### the most -/
/-- the greatest of what f tells, 0 of none -/
def best (f : Nat → Nat) (c : Nat → Bool) : Nat → Nat
  | 0 => 0
  | n + 1 => if c n then max (best f c n) (f n) else best f c n
theorem le_best (f : Nat → Nat) (c : Nat → Bool) (m : Nat) (hm : 0 < m) : ∀ n : Nat, m ≤ best f c n ↔ ∃ g, g < n ∧ c g = true ∧ m ≤ f g
  | 0 => ⟨fun h => absurd h (by show ¬ m ≤ 0; omega), fun ⟨g, h, _⟩ => absurd h (Nat.not_lt_zero g)⟩
  | n + 1 => by
    have ih := le_best f c m hm n
    show m ≤ (if c n then max (best f c n) (f n) else best f c n) ↔ _
    constructor
    · intro h
      by_cases hc : c n = true
      · rw [if_pos hc] at h
        by_cases q : m ≤ best f c n
        · obtain ⟨g, h1, h2⟩ := ih.mp q
          exact ⟨g, by omega, h2⟩
        · exact ⟨n, by omega, hc, by omega⟩
      · rw [if_neg hc] at h
        obtain ⟨g, h1, h2⟩ := ih.mp h
        exact ⟨g, by omega, h2⟩
    · rintro ⟨g, h1, h2, h3⟩
      by_cases e : g = n
      · subst e
        rw [if_pos h2]
        omega
      · have q := ih.mpr ⟨g, by omega, h2, h3⟩
        by_cases hc : c n = true
        · rw [if_pos hc]
          omega
        · rw [if_neg hc]
          exact q
theorem best_is (f : Nat → Nat) (c : Nat → Bool) : ∀ n : Nat, best f c n = 0 ∨ ∃ g, g < n ∧ c g = true ∧ best f c n = f g
  | 0 => .inl rfl
  | n + 1 => by
    have ih := best_is f c n
    show (if c n then max (best f c n) (f n) else best f c n) = 0 ∨ ∃ g, g < n + 1 ∧ c g = true ∧ (if c n then max (best f c n) (f n) else best f c n) = f g
    have old : best f c n = 0 ∨ ∃ g, g < n + 1 ∧ c g = true ∧ best f c n = f g := ih.imp id fun ⟨g, h1, h2⟩ => ⟨g, by omega, h2⟩
    by_cases hc : c n = true
    · rw [if_pos hc]
      by_cases q : best f c n ≤ f n
      · exact .inr ⟨n, by omega, hc, by omega⟩
      · have e : max (best f c n) (f n) = best f c n := by omega
        rw [e]
        exact old
    · rw [if_neg hc]
      exact old
/-- in a falling list the place k holds at least m just where more than k do -/
theorem nth_count (m : Nat) : ∀ (ys : List Nat) (k : Nat), ys.Pairwise (fun a b => b ≤ a) → (k < ys.countP (fun y => decide (m ≤ y)) ↔ ∃ y, ys[k]? = some y ∧ m ≤ y)
  | [], k, _ => ⟨fun h => absurd h (by simp), fun ⟨y, h, _⟩ => by simp at h⟩
  | y :: r, k, hp => by
    obtain ⟨h1, h2⟩ := List.pairwise_cons.mp hp
    by_cases hy : m ≤ y
    · rw [List.countP_cons_of_pos (by simpa using hy)]
      cases k with
      | zero => exact ⟨fun _ => ⟨y, rfl, hy⟩, fun _ => by omega⟩
      | succ k =>
        have ih := nth_count m r k h2
        rw [List.getElem?_cons_succ]
        exact ⟨fun h => ih.mp (by omega), fun h => by have := ih.mpr h; omega⟩
    · rw [List.countP_cons_of_neg (by simpa using hy)]
      have z : r.countP (fun y => decide (m ≤ y)) = 0 := by
        rw [List.countP_eq_zero]
        intro b hb
        have := h1 b hb
        simp
        omega
      rw [z]
      refine ⟨fun h => absurd h (Nat.not_lt_zero _), fun ⟨b, hb, hm⟩ => ?_⟩
      cases k with
      | zero =>
        have : y = b := Option.some.inj hb
        omega
      | succ k =>
        rw [List.getElem?_cons_succ] at hb
        have := h1 b (List.mem_of_getElem? hb)
        omega
/-- the greatest try that fits -/
theorem tries_max (ok : Nat → Bool) : ∀ (l : List Nat) (m0 : Nat),
    (m0 ≤ l.foldl (fun (m t : Nat) => if ok t && decide (m < t) then t else m) m0) ∧
    (∀ t ∈ l, ok t = true → t ≤ l.foldl (fun (m t : Nat) => if ok t && decide (m < t) then t else m) m0) ∧
    (l.foldl (fun (m t : Nat) => if ok t && decide (m < t) then t else m) m0 = m0 ∨ (l.foldl (fun (m t : Nat) => if ok t && decide (m < t) then t else m) m0 ∈ l ∧ ok (l.foldl (fun (m t : Nat) => if ok t && decide (m < t) then t else m) m0) = true))
  | [], m0 => ⟨Nat.le_refl _, fun t h => absurd h (by simp), .inl rfl⟩
  | x :: r, m0 => by
    rw [List.foldl_cons]
    obtain ⟨h1, h2, h3⟩ := tries_max ok r (if ok x && decide (m0 < x) then x else m0)
    by_cases c : (ok x && decide (m0 < x)) = true
    · rw [if_pos c] at h1 h2 h3 ⊢
      rw [Bool.and_eq_true, decide_eq_true_eq] at c
      refine ⟨by omega, fun t ht hk => ?_, .inr ?_⟩
      · rcases List.mem_cons.mp ht with rfl | ht
        · exact h1
        · exact h2 t ht hk
      · rcases h3 with e | ⟨e, k⟩
        · rw [e]
          exact ⟨List.mem_cons_self, c.1⟩
        · exact ⟨List.mem_cons_of_mem _ e, k⟩
    · rw [if_neg c] at h1 h2 h3 ⊢
      refine ⟨h1, fun t ht hk => ?_, ?_⟩
      · rcases List.mem_cons.mp ht with rfl | ht
        · have : ¬ m0 < t := fun q => c (by rw [hk, decide_eq_true q]; rfl)
          omega
        · exact h2 t ht hk
      · exact h3.imp id fun ⟨e, k⟩ => ⟨List.mem_cons_of_mem _ e, k⟩
end Jd
namespace Jd
open Kp332

def mcnd (h : House) (q k p g : Nat) : Bool := decide ((grantAt h g).kind = k) && decide ((grantAt h g).taker = q) && decide (root h g = p)
def mval (h : House) (g : Nat) : Nat := min (grantAt h g).each (room h g)
def mfrom (h : House) (q k p : Nat) : Nat := best (mval h) (mcnd h q k p) h.grants.length
def mper (h : House) (q k p : Nat) : Bool := p != q && (ruleAt h k).may.testBit p
def mlist (h : House) (q k : Nat) : List Nat := ((List.range h.n).filter (mper h q k)).map (mfrom h q k)
theorem room_pos {h : House} {g : Nat} (hp : 0 < room h g) : living h g = true := by
  unfold room at hp
  by_cases c : living h g = true
  · exact c
  · rw [if_neg c] at hp
    exact absurd hp (Nat.lt_irrefl _)
theorem by_count {h : House} {q k m : Nat} (hm : 0 < m) : byGrants h q k m = (mlist h q k).countP (fun y => decide (m ≤ y)) := by
  have e1 : ∀ F : Nat → Bool, size h.n (setOf h.n F) = (List.range h.n).countP F := fun F => by
    unfold size
    rw [List.countP_eq_length_filter]
    congr 1
    refine List.filter_congr fun p hp => ?_
    rw [setOf_bit, decide_eq_true (List.mem_range.mp hp), Bool.true_and]
  unfold byGrants mlist
  rw [e1, List.countP_map, List.countP_filter]
  refine List.countP_congr fun p hp => ?_
  have hb := le_best (mval h) (mcnd h q k p) m hm h.grants.length
  have e2 : ((List.range h.grants.length).any fun g => (grantAt h g).taker == q && (grantAt h g).kind == k && root h g == p && decide (m ≤ (grantAt h g).each) && living h g && decide (m ≤ room h g)) = decide (m ≤ mfrom h q k p) := by
    by_cases c : m ≤ mfrom h q k p
    · rw [decide_eq_true c]
      obtain ⟨g, h1, h2, h3⟩ := hb.mp c
      refine List.any_eq_true.mpr ⟨g, List.mem_range.mpr h1, ?_⟩
      unfold mcnd at h2
      unfold mval at h3
      simp only [Bool.and_eq_true, decide_eq_true_eq] at h2
      obtain ⟨⟨a, b⟩, c'⟩ := h2
      have l : living h g = true := room_pos (by omega)
      simp only [a, b, c', l, beq_self_eq_true, Bool.true_and, Bool.and_true, Bool.and_eq_true, decide_eq_true_eq]
      omega
    · rw [decide_eq_false c]
      refine List.any_eq_false.mpr fun g hg => ?_
      intro z
      apply c
      simp only [Bool.and_eq_true, decide_eq_true_eq, beq_iff_eq] at z
      obtain ⟨⟨⟨⟨⟨a, b⟩, c'⟩, d⟩, l⟩, r⟩ := z
      refine hb.mpr ⟨g, List.mem_range.mp hg, ?_, ?_⟩
      · unfold mcnd
        rw [decide_eq_true a, decide_eq_true b, decide_eq_true c']
        rfl
      · unfold mval
        omega
  rw [e2]
  unfold mper
  constructor
  · intro z
    simp only [Bool.and_eq_true, decide_eq_true_eq, Function.comp_apply] at z ⊢
    exact ⟨z.2, z.1⟩
  · intro z
    simp only [Bool.and_eq_true, decide_eq_true_eq, Function.comp_apply] at z ⊢
    exact ⟨z.2, z.1⟩
/-- the program's way -/
def mbs (h : House) (q k : Nat) (ys : List Nat) : Nat := if (ruleAt h k).need = 0 then (ruleAt h k).day else if ys.length < (ruleAt h k).need then 0 else ys.getD ((ruleAt h k).need - 1) 0
theorem most_is {h : House} {q k : Nat} {ys : List Nat} (hp : ys.Perm (mlist h q k)) (hs : ys.Pairwise (fun a b => b ≤ a)) :
    Kp332.most h q k = min (max (ruleAt h k).free (mbs h q k ys)) (left h k) := by
  have hl : left h k ≤ (ruleAt h k).day := Nat.sub_le _ _
  -- a try above 0 fits just where it's at most the program's
  have fit : ∀ t, 0 < t → t ≤ left h k → ((decide (t ≤ (ruleAt h k).free) || decide ((ruleAt h k).need ≤ byGrants h q k t)) = true ↔ t ≤ max (ruleAt h k).free (mbs h q k ys)) := fun t ht htl => by
    rw [Bool.or_eq_true, decide_eq_true_eq, decide_eq_true_eq]
    have key : (ruleAt h k).need ≤ byGrants h q k t ↔ (t ≤ mbs h q k ys ∨ (ruleAt h k).need = 0) := by
      unfold mbs
      by_cases z : (ruleAt h k).need = 0
      · rw [if_pos z, z]
        exact ⟨fun _ => .inr rfl, fun _ => Nat.zero_le _⟩
      · rw [if_neg z, by_count ht, ← hp.countP_eq]
        obtain ⟨j, hj⟩ : ∃ j, (ruleAt h k).need = j + 1 := ⟨(ruleAt h k).need - 1, by omega⟩
        rw [hj]
        have nc := nth_count t ys j hs
        constructor
        · intro c
          obtain ⟨y, hy, hty⟩ := nc.mp (by omega)
          have := some_lt hy
          rw [if_neg (by omega), Nat.add_sub_cancel, getD_some hy]
          exact .inl hty
        · intro c
          rcases c with c | c
          · by_cases q1 : ys.length < j + 1
            · rw [if_pos q1] at c
              omega
            · rw [if_neg q1, Nat.add_sub_cancel] at c
              obtain ⟨y, hy⟩ := get_some (l := ys) (i := j) (by omega)
              rw [getD_some hy] at c
              have := nc.mpr ⟨y, hy, c⟩
              omega
          · omega
    rw [key]
    constructor
    · rintro (c | c | c)
      · omega
      · omega
      · have : mbs h q k ys = (ruleAt h k).day := if_pos c
        omega
    · intro c
      by_cases q1 : t ≤ (ruleAt h k).free
      · exact .inl q1
      · exact .inr (.inl (by omega))
  unfold Kp332.most
  show List.foldl (fun (m t : Nat) => if (decide (t ≤ (ruleAt h k).free) || decide ((ruleAt h k).need ≤ byGrants h q k t)) && decide (m < t) then t else m) 0 _ = _
  obtain ⟨_, h2, h3⟩ := tries_max (fun t => decide (t ≤ (ruleAt h k).free) || decide ((ruleAt h k).need ≤ byGrants h q k t))
    (((ruleAt h k).free :: left h k :: MOST :: (List.range h.grants.length).flatMap fun g => [(grantAt h g).each, room h g]).map fun t => min t (left h k)) 0
  generalize hM : List.foldl (fun (m t : Nat) => if (decide (t ≤ (ruleAt h k).free) || decide ((ruleAt h k).need ≤ byGrants h q k t)) && decide (m < t) then t else m) 0
    (((ruleAt h k).free :: left h k :: MOST :: (List.range h.grants.length).flatMap fun g => [(grantAt h g).each, room h g]).map fun t => min t (left h k)) = M at h2 h3 ⊢
  -- above
  have up : M ≤ min (max (ruleAt h k).free (mbs h q k ys)) (left h k) := by
    rcases h3 with e | ⟨e, ok⟩
    · omega
    · obtain ⟨t, _, et⟩ := List.mem_map.mp e
      by_cases z : M = 0
      · omega
      · have := (fit M (by omega) (by omega)).mp ok
        omega
  -- met
  have meet : ∀ t, t ∈ ((ruleAt h k).free :: left h k :: MOST :: (List.range h.grants.length).flatMap fun g => [(grantAt h g).each, room h g]) → min t (left h k) ≤ max (ruleAt h k).free (mbs h q k ys) → min t (left h k) ≤ M := fun t ht hle => by
    by_cases z : min t (left h k) = 0
    · omega
    · exact h2 _ (List.mem_map.mpr ⟨t, ht, rfl⟩) ((fit _ (by omega) (by omega)).mpr hle)
  refine Nat.le_antisymm up ?_
  by_cases c1 : left h k ≤ max (ruleAt h k).free (mbs h q k ys)
  · have := meet (left h k) (by simp) (by omega)
    omega
  · by_cases c2 : mbs h q k ys ≤ (ruleAt h k).free
    · have := meet (ruleAt h k).free (by simp) (by omega)
      omega
    · -- the place of the list: from one standing yes
      have z : ¬ (ruleAt h k).need = 0 := fun z => by
        have : mbs h q k ys = (ruleAt h k).day := if_pos z
        omega
      have em : mbs h q k ys = if ys.length < (ruleAt h k).need then 0 else ys.getD ((ruleAt h k).need - 1) 0 := if_neg z
      by_cases q1 : ys.length < (ruleAt h k).need
      · rw [if_pos q1] at em
        omega
      · rw [if_neg q1] at em
        obtain ⟨y, hy⟩ := get_some (l := ys) (i := (ruleAt h k).need - 1) (by omega)
        rw [getD_some hy] at em
        have my : y ∈ mlist h q k := hp.mem_iff.mp (List.mem_of_getElem? hy)
        obtain ⟨p, _, ep⟩ := List.mem_map.mp my
        rcases best_is (mval h) (mcnd h q k p) h.grants.length with e0 | ⟨g, hg, _, eg⟩
        · have : mfrom h q k p = 0 := e0
          omega
        · have e1 : y = mval h g := ep.symm.trans eg
          unfold mval at e1
          have inl : ∀ t, t ∈ [(grantAt h g).each, room h g] → t ∈ ((ruleAt h k).free :: left h k :: MOST :: (List.range h.grants.length).flatMap fun g => [(grantAt h g).each, room h g]) := fun t ht =>
            List.mem_cons_of_mem _ (List.mem_cons_of_mem _ (List.mem_cons_of_mem _ (List.mem_flatMap.mpr ⟨g, List.mem_range.mpr hg, ht⟩)))
          by_cases q2 : (grantAt h g).each ≤ room h g
          · have := meet _ (inl (grantAt h g).each (by simp)) (by omega)
            omega
          · have := meet _ (inl (room h g) (by simp)) (by omega)
            omega
end Jd
namespace Jd
open Kp332
structure Wf (h : House) : Prop where
  n8 : h.n ≤ 8
  rl : h.rules.length ≤ 4
  may : ∀ k, k < h.rules.length → (ruleAt h k).may < 2 ^ h.n
  need : ∀ k, k < h.rules.length → (ruleAt h k).need ≤ 3
  al : h.asked.length ≤ 12
  akind : ∀ r, r < h.asked.length → (askedAt h r).kind < h.rules.length
  aasker : ∀ r, r < h.asked.length → (askedAt h r).asker < h.n
  ayes : ∀ r, r < h.asked.length → (askedAt h r).yes < 2 ^ h.n
  ause : ∀ r, r < h.asked.length → ∀ g ∈ (askedAt h r).uses, g < h.grants.length
  ausel : ∀ r, r < h.asked.length → (askedAt h r).uses.length ≤ 3
  gl : h.grants.length ≤ 10
  down : Down h
  giver : ∀ g, g < h.grants.length → (grantAt h g).giver < h.n
  taker : ∀ g, g < h.grants.length → (grantAt h g).taker < h.n
  done : ∀ d ∈ h.done, d.asked < h.asked.length ∧ (askedAt h d.asked).kind = d.kind ∧ (askedAt h d.asked).asker = d.asker ∧ (askedAt h d.asked).x = d.x ∧ (askedAt h d.asked).amount = d.amount ∧ (askedAt h d.asked).uses = d.uses ∧ (askedAt h d.asked).state = 1
  dn : (h.done.map (·.asked)).Nodup
  room : ∀ g, g < h.grants.length → drawn h g ≤ (grantAt h g).total
theorem nodup_len {l : List Nat} {n : Nat} (nd : l.Nodup) (h : ∀ x ∈ l, x < n) : l.length ≤ n := by
  have hs : l ⊆ List.range n := fun x hx => List.mem_range.mpr (h x hx)
  have := nd.length_le_of_subset hs
  rwa [List.length_range] at this
theorem Wf.dl {h : House} (w : Wf h) : h.done.length ≤ 12 := by
  have h1 := nodup_len w.dn (n := h.asked.length) (fun x hx => by
    obtain ⟨d, hd, rfl⟩ := List.mem_map.mp hx
    exact (w.done d hd).1)
  rw [List.length_map] at h1
  exact Nat.le_trans h1 w.al
def deedAt (h : House) (i : Nat) : Deed := h.done.getD i ⟨0, 0, 0, 0, 0, 0, 0, []⟩
theorem deed_at {h : House} {k : Nat} (hk : k < h.done.length) : h.done[k]? = some (deedAt h k) := by
  obtain ⟨x, e⟩ := get_some hk
  rw [e, deedAt, getD_some e]
theorem deed_of {h : House} {k : Nat} {r : Deed} (e : h.done[k]? = some r) : deedAt h k = r := getD_some e
theorem Wf.deed {h : House} (w : Wf h) {i : Nat} (hi : i < h.done.length) : (deedAt h i).asked < h.asked.length ∧ (askedAt h (deedAt h i).asked).kind = (deedAt h i).kind ∧ (askedAt h (deedAt h i).asked).asker = (deedAt h i).asker ∧ (askedAt h (deedAt h i).asked).x = (deedAt h i).x ∧ (askedAt h (deedAt h i).asked).amount = (deedAt h i).amount ∧ (askedAt h (deedAt h i).asked).uses = (deedAt h i).uses ∧ (askedAt h (deedAt h i).asked).state = 1 :=
  w.done _ (List.mem_of_getElem? (deed_at hi))
end Jd
namespace Jd
open Kp332
theorem drawn_same {h h' : House} (hc : ∀ i, Kp332.chain h' i = Kp332.chain h i) (hd : h'.done = h.done) (g : Nat) : drawn h' g = drawn h g := by
  unfold drawn
  rw [hd]
  have : (fun (d : Deed) => d.uses.any fun i => (Kp332.chain h' i).contains g) = fun (d : Deed) => d.uses.any fun i => (Kp332.chain h i).contains g := by
    funext d
    congr 1
    funext i
    rw [hc]
  rw [this]
theorem chain_day {h : House} {t : Nat} (i : Nat) : Kp332.chain { h with day := t } i = Kp332.chain h i := chain_same (h := h) (h' := { h with day := t }) rfl (fun _ => rfl) i
theorem chain_rules {h : House} {t : List Rule} (i : Nat) : Kp332.chain { h with rules := t } i = Kp332.chain h i := chain_same (h := h) (h' := { h with rules := t }) rfl (fun _ => rfl) i
theorem chain_asked {h : House} {t : List Asked} (i : Nat) : Kp332.chain { h with asked := t } i = Kp332.chain h i := chain_same (h := h) (h' := { h with asked := t }) rfl (fun _ => rfl) i
theorem chain_done {h : House} {t : List Deed} (i : Nat) : Kp332.chain { h with done := t } i = Kp332.chain h i := chain_same (h := h) (h' := { h with done := t }) rfl (fun _ => rfl) i
theorem Wf.tick {h : House} (w : Wf h) (t : Nat) : Wf { h with day := t } :=
  ⟨w.n8, w.rl, w.may, w.need, w.al, w.akind, w.aasker, w.ayes, w.ause, w.ausel, w.gl, w.down, w.giver, w.taker, w.done, w.dn, fun g hg => by
    rw [drawn_same (h := h) (h' := { h with day := t }) (fun i => chain_day i) rfl]
    exact w.room g hg⟩
theorem getD_set {α : Type} {l : List α} {r k : Nat} {x d : α} (hr : r < l.length) : (l.set r x).getD k d = if k = r then x else l.getD k d := by
  rw [List.getD_eq_getElem?_getD, List.getD_eq_getElem?_getD]
  by_cases h : k = r
  · subst h
    rw [List.getElem?_set_self hr, if_pos rfl]
    rfl
  · rw [List.getElem?_set_ne (fun q => h q.symm), if_neg h]
theorem getD_snoc {α : Type} {l : List α} {k : Nat} {x d : α} (hk : k < l.length + 1) : (l ++ [x]).getD k d = if k = l.length then x else l.getD k d := by
  rw [List.getD_eq_getElem?_getD, List.getD_eq_getElem?_getD]
  by_cases h : k = l.length
  · subst h
    rw [if_pos rfl, List.getElem?_append_right (Nat.le_refl _), Nat.sub_self]
    rfl
  · rw [if_neg h, List.getElem?_append_left (by omega)]
theorem askedAt_set {h : House} {r k : Nat} {a : Asked} (hr : r < h.asked.length) : askedAt (setAsked h r a) k = if k = r then a else askedAt h k := getD_set hr
theorem askedAt_snoc {h : House} {k : Nat} {a : Asked} (hk : k < h.asked.length + 1) : askedAt { h with asked := h.asked ++ [a] } k = if k = h.asked.length then a else askedAt h k := getD_snoc hk
theorem ruleAt_set {h : House} {r k : Nat} {a : Rule} (hr : r < h.rules.length) : ruleAt { h with rules := h.rules.set r a } k = if k = r then a else ruleAt h k := getD_set hr
theorem ruleAt_snoc {h : House} {k : Nat} {a : Rule} (hk : k < h.rules.length + 1) : ruleAt { h with rules := h.rules ++ [a] } k = if k = h.rules.length then a else ruleAt h k := getD_snoc hk
theorem grantAt_set {h : House} {r k : Nat} {a : Grant} (hr : r < h.grants.length) : grantAt { h with grants := h.grants.set r a } k = if k = r then a else grantAt h k := getD_set hr
theorem len_snoc {α : Type} (l : List α) (x : α) : (l ++ [x]).length = l.length + 1 := by rw [List.length_append]; rfl
theorem Wf.setAsked {h : House} (w : Wf h) {r : Nat} {a : Asked} (hr : r < h.asked.length) (hs : (askedAt h r).state ≠ 1) (h1 : a.kind < h.rules.length) (h2 : a.asker < h.n) (h3 : a.yes < 2 ^ h.n) (h4 : ∀ g ∈ a.uses, g < h.grants.length) (h5 : a.uses.length ≤ 3) : Wf (setAsked h r a) := by
  have el : (Kp332.setAsked h r a).asked.length = h.asked.length := by
    show (h.asked.set r a).length = _
    rw [List.length_set]
  have ep : ∀ {P : Asked → Prop}, P a → ∀ k, P (askedAt h k) → P (askedAt (Kp332.setAsked h r a) k) := fun {P} pa k pk => by
    rw [askedAt_set hr]
    split
    · exact pa
    · exact pk
  refine ⟨w.n8, w.rl, w.may, w.need, by rw [el]; exact w.al, fun k hk => ep (P := fun x => x.kind < h.rules.length) h1 k (w.akind k (by rwa [el] at hk)), fun k hk => ep (P := fun x => x.asker < h.n) h2 k (w.aasker k (by rwa [el] at hk)), fun k hk => ep (P := fun x => x.yes < 2 ^ h.n) h3 k (w.ayes k (by rwa [el] at hk)),
    fun k hk => ep (P := fun x => ∀ g ∈ x.uses, g < h.grants.length) h4 k (w.ause k (by rwa [el] at hk)), fun k hk => ep (P := fun x => x.uses.length ≤ 3) h5 k (w.ausel k (by rwa [el] at hk)), w.gl, w.down, w.giver, w.taker, fun d hd => ?_, w.dn, fun g hg => ?_⟩
  · have q := w.done d hd
    rw [el, askedAt_set hr, if_neg (fun z => hs (by rw [← z]; exact q.2.2.2.2.2.2))]
    exact q
  · rw [drawn_same (h := h) (h' := Kp332.setAsked h r a) (fun i => chain_asked i) rfl]
    exact w.room g hg
theorem Wf.ask {h : House} (w : Wf h) {a : Asked} (hl : h.asked.length < 12) (h1 : a.kind < h.rules.length) (h2 : a.asker < h.n) (h3 : a.yes < 2 ^ h.n) (h4 : ∀ g ∈ a.uses, g < h.grants.length) (h5 : a.uses.length ≤ 3) : Wf { h with asked := h.asked ++ [a] } := by
  have el : (h.asked ++ [a]).length = h.asked.length + 1 := len_snoc _ _
  have ep : ∀ {P : Asked → Prop}, P a → ∀ k, k < (h.asked ++ [a]).length → (k < h.asked.length → P (askedAt h k)) → P (askedAt { h with asked := h.asked ++ [a] } k) := fun {P} pa k hk pk => by
    rw [askedAt_snoc (by omega)]
    split
    · exact pa
    · exact pk (by omega)
  refine ⟨w.n8, w.rl, w.may, w.need, by show (h.asked ++ [a]).length ≤ 12; omega, fun k hk => ep (P := fun x => x.kind < h.rules.length) h1 k hk (w.akind k), fun k hk => ep (P := fun x => x.asker < h.n) h2 k hk (w.aasker k), fun k hk => ep (P := fun x => x.yes < 2 ^ h.n) h3 k hk (w.ayes k),
    fun k hk => ep (P := fun x => ∀ g ∈ x.uses, g < h.grants.length) h4 k hk (w.ause k), fun k hk => ep (P := fun x => x.uses.length ≤ 3) h5 k hk (w.ausel k), w.gl, w.down, w.giver, w.taker, fun d hd => ?_, w.dn, fun g hg => ?_⟩
  · have q := w.done d hd
    rw [askedAt_snoc (by omega), if_neg (by omega)]
    exact ⟨by show _ < (h.asked ++ [a]).length; omega, q.2⟩
  · rw [drawn_same (h := h) (h' := { h with asked := h.asked ++ [a] }) (fun i => chain_asked i) rfl]
    exact w.room g hg
theorem Wf.rule {h : House} (w : Wf h) {a : Rule} (hl : h.rules.length < 4) (h1 : a.may < 2 ^ h.n) (h2 : a.need ≤ 3) : Wf { h with rules := h.rules ++ [a] } := by
  have el : (h.rules ++ [a]).length = h.rules.length + 1 := len_snoc _ _
  have ep : ∀ {P : Rule → Prop}, P a → ∀ k, k < (h.rules ++ [a]).length → (k < h.rules.length → P (ruleAt h k)) → P (ruleAt { h with rules := h.rules ++ [a] } k) := fun {P} pa k hk pk => by
    rw [ruleAt_snoc (by omega)]
    split
    · exact pa
    · exact pk (by omega)
  refine ⟨w.n8, by show (h.rules ++ [a]).length ≤ 4; omega, fun k hk => ep (P := fun x => x.may < 2 ^ h.n) h1 k hk (w.may k), fun k hk => ep (P := fun x => x.need ≤ 3) h2 k hk (w.need k), w.al, fun r hr => ?_, w.aasker, w.ayes, w.ause, w.ausel, w.gl, w.down, w.giver, w.taker, w.done, w.dn, fun g hg => ?_⟩
  · show (askedAt h r).kind < (h.rules ++ [a]).length
    have := w.akind r hr
    omega
  · rw [drawn_same (h := h) (h' := { h with rules := h.rules ++ [a] }) (fun i => chain_rules i) rfl]
    exact w.room g hg
theorem Wf.rerule {h : House} (w : Wf h) {k : Nat} {a : Rule} (hk : k < h.rules.length) (h1 : a.may < 2 ^ h.n) (h2 : a.need ≤ 3) : Wf { h with rules := h.rules.set k a } := by
  have el : (h.rules.set k a).length = h.rules.length := List.length_set ..
  have ep : ∀ {P : Rule → Prop}, P a → ∀ i, P (ruleAt h i) → P (ruleAt { h with rules := h.rules.set k a } i) := fun {P} pa i pi => by
    rw [ruleAt_set hk]
    split
    · exact pa
    · exact pi
  refine ⟨w.n8, by show (h.rules.set k a).length ≤ 4; rw [el]; exact w.rl, fun i hi => ep (P := fun x => x.may < 2 ^ h.n) h1 i (w.may i (by rw [← el]; exact hi)), fun i hi => ep (P := fun x => x.need ≤ 3) h2 i (w.need i (by rw [← el]; exact hi)), w.al, fun r hr => ?_, w.aasker, w.ayes, w.ause, w.ausel, w.gl, w.down, w.giver, w.taker, w.done, w.dn, fun g hg => ?_⟩
  · show (askedAt h r).kind < (h.rules.set k a).length
    rw [el]
    exact w.akind r hr
  · rw [drawn_same (h := h) (h' := { h with rules := h.rules.set k a }) (fun i => chain_rules i) rfl]
    exact w.room g hg
theorem drawn_new {h : House} (w : Wf h) {x : Grant} (hx : ∀ p, x.from_ = some p → p < h.grants.length) (g : Nat) : drawn { h with grants := h.grants ++ [x] } g = drawn h g := by
  show amt _ h.done = amt _ h.done
  refine amt_congr fun d hd => ?_
  have q := w.done d hd
  have hu : ∀ i ∈ d.uses, i < h.grants.length := fun i hi => w.ause _ q.1 i (by rw [q.2.2.2.2.2.1]; exact hi)
  rw [Bool.eq_iff_iff, List.any_eq_true, List.any_eq_true]
  constructor
  · rintro ⟨i, hi, e⟩
    exact ⟨i, hi, by rwa [chain_snoc w.down hx (hu i hi)] at e⟩
  · rintro ⟨i, hi, e⟩
    exact ⟨i, hi, by rw [chain_snoc w.down hx (hu i hi)]; exact e⟩
theorem drawn_out {h : House} (w : Wf h) {g : Nat} (hg : h.grants.length ≤ g) : drawn h g = 0 := by
  show amt _ h.done = 0
  have : amt (fun d => d.uses.any fun i => (Kp332.chain h i).contains g) h.done = amt (fun _ => false) h.done := amt_congr fun d hd => by
    have q := w.done d hd
    rw [List.any_eq_false]
    intro i hi e
    have h1 := w.ause _ q.1 i (by rw [q.2.2.2.2.2.1]; exact hi)
    have h2 := chain_le w.down (List.contains_iff_mem.mp e)
    omega
  rw [this]
  unfold amt
  rw [List.filter_eq_nil_iff.mpr (fun _ _ => by simp)]
  rfl
theorem Wf.grant {h : House} (w : Wf h) {x : Grant} (hl : h.grants.length < 10) (h1 : x.giver < h.n) (h2 : x.taker < h.n) (hx : ∀ p, x.from_ = some p → p < h.grants.length) : Wf { h with grants := h.grants ++ [x] } := by
  have el : (h.grants ++ [x]).length = h.grants.length + 1 := len_snoc _ _
  have ep : ∀ {P : Grant → Prop}, P x → ∀ k, k < (h.grants ++ [x]).length → (k < h.grants.length → P (grantAt h k)) → P (grantAt { h with grants := h.grants ++ [x] } k) := fun {P} pa k hk pk => by
    by_cases q : k < h.grants.length
    · rw [grant_snoc q]
      exact pk q
    · obtain rfl : k = h.grants.length := by omega
      rw [grant_new]
      exact pa
  refine ⟨w.n8, w.rl, w.may, w.need, w.al, w.akind, w.aasker, w.ayes, fun r hr g hg => ?_, w.ausel, by show (h.grants ++ [x]).length ≤ 10; omega, w.down.snoc hx, fun k hk => ep (P := fun y => y.giver < h.n) h1 k hk (w.giver k), fun k hk => ep (P := fun y => y.taker < h.n) h2 k hk (w.taker k), w.done, w.dn, fun g hg => ?_⟩
  · have := w.ause r hr g hg
    show g < (h.grants ++ [x]).length
    omega
  · rw [drawn_new w hx]
    have hg : g < (h.grants ++ [x]).length := hg
    by_cases q : g < h.grants.length
    · rw [grant_snoc q]
      exact w.room g q
    · rw [drawn_out w (by omega)]
      exact Nat.zero_le _
theorem back_from {h : House} {g : Nat} {x : Grant} (hg : g < h.grants.length) (hx : x.from_ = (grantAt h g).from_) (i : Nat) : (grantAt { h with grants := h.grants.set g x } i).from_ = (grantAt h i).from_ := by
  rw [grantAt_set hg]
  split
  · rename_i e
    subst e
    exact hx
  · rfl
theorem chain_back {h : House} {g : Nat} {x : Grant} (hg : g < h.grants.length) (hx : x.from_ = (grantAt h g).from_) (i : Nat) : Kp332.chain { h with grants := h.grants.set g x } i = Kp332.chain h i :=
  chain_same (by show (h.grants.set g x).length = _; rw [List.length_set]) (back_from hg hx) i
def backed (a : Grant) : Grant := { a with back := true }
theorem Wf.revoke {h : House} (w : Wf h) {g : Nat} (hg : g < h.grants.length) : Wf { h with grants := h.grants.set g (backed (grantAt h g)) } := by
  have el : (h.grants.set g (backed (grantAt h g))).length = h.grants.length := List.length_set ..
  have ep : ∀ {P : Grant → Prop}, P (backed (grantAt h g)) → ∀ i, P (grantAt h i) → P (grantAt { h with grants := h.grants.set g (backed (grantAt h g)) } i) := fun {P} pa i pi => by
    rw [grantAt_set hg]
    split
    · exact pa
    · exact pi
  refine ⟨w.n8, w.rl, w.may, w.need, w.al, w.akind, w.aasker, w.ayes, fun r hr i hi => ?_, w.ausel, by show (h.grants.set g _).length ≤ 10; rw [el]; exact w.gl, fun i p hi e => ?_, fun i hi => ep (P := fun y => y.giver < h.n) (w.giver g hg) i (w.giver i (by rw [← el]; exact hi)), fun i hi => ep (P := fun y => y.taker < h.n) (w.taker g hg) i (w.taker i (by rw [← el]; exact hi)), w.done, w.dn, fun i hi => ?_⟩
  · show i < (h.grants.set g _).length
    rw [el]
    exact w.ause r hr i hi
  · rw [back_from (x := backed (grantAt h g)) hg rfl] at e
    exact w.down i p (by rw [← el]; exact hi) e
  · rw [drawn_same (h := h) (h' := { h with grants := h.grants.set g (backed (grantAt h g)) }) (fun i => chain_back (x := backed (grantAt h g)) hg rfl i) rfl]
    have hi' : i < h.grants.length := by rw [← el]; exact hi
    rw [grantAt_set hg]
    split
    · rename_i e
      subst e
      exact w.room i hi'
    · exact w.room i hi'
theorem Wf.deedDone {h : House} (w : Wf h) {d : Deed} (h1 : d.asked < h.asked.length) (h2 : (askedAt h d.asked).kind = d.kind ∧ (askedAt h d.asked).asker = d.asker ∧ (askedAt h d.asked).x = d.x ∧ (askedAt h d.asked).amount = d.amount ∧ (askedAt h d.asked).uses = d.uses ∧ (askedAt h d.asked).state = 1) (h3 : d.asked ∉ h.done.map (·.asked))
    (h4 : ∀ i ∈ d.uses, ∀ g ∈ Kp332.chain h i, drawn h g + d.amount ≤ (grantAt h g).total) : Wf { h with done := h.done ++ [d] } := by
  refine ⟨w.n8, w.rl, w.may, w.need, w.al, w.akind, w.aasker, w.ayes, w.ause, w.ausel, w.gl, w.down, w.giver, w.taker, fun e he => ?_, ?_, fun g hg => ?_⟩
  · rcases List.mem_append.mp he with he | he
    · exact w.done e he
    · obtain rfl := List.mem_singleton.mp he
      exact ⟨h1, h2⟩
  · show ((h.done ++ [d]).map (·.asked)).Nodup
    rw [List.map_append]
    refine List.nodup_append.mpr ⟨w.dn, by simp, ?_⟩
    intro a ha b hb e
    obtain rfl := List.mem_singleton.mp hb
    rw [e] at ha
    exact h3 ha
  · have e : drawn { h with done := h.done ++ [d] } g = amt (fun d => d.uses.any fun i => (Kp332.chain h i).contains g) (h.done ++ [d]) := by
      show amt _ (h.done ++ [d]) = _
      refine amt_congr fun e _ => ?_
      congr 1
      funext i
      rw [chain_done]
    rw [e, amt_snoc]
    have w1 : amt (fun d => d.uses.any fun i => (Kp332.chain h i).contains g) h.done ≤ (grantAt h g).total := w.room g hg
    show amt _ h.done + _ ≤ (grantAt h g).total
    split
    · rename_i q
      obtain ⟨i, hi, e⟩ := List.any_eq_true.mp q
      exact h4 i hi g (List.contains_iff_mem.mp e)
    · omega
theorem Wf.start {n : Nat} (hn : n ≤ 8) : Wf ⟨n, [], [], [], [], 0⟩ := by
  refine ⟨hn, by show 0 ≤ 4; omega, ?_, ?_, by show 0 ≤ 12; omega, ?_, ?_, ?_, ?_, ?_, by show 0 ≤ 10; omega, ?_, ?_, ?_, ?_, List.nodup_nil, ?_⟩
  all_goals first | (intro k hk; exact absurd hk (Nat.not_lt_zero _)) | (intro k p hk; exact absurd hk (Nat.not_lt_zero _)) | (intro d hd; cases hd)
/-- what holds of a use leaves room for it -/
theorem holds_room {h : House} {a : Asked} (w : Wf h) {g i : Nat} (hi : i < h.grants.length) (q : holds h a i = true) (hg : g ∈ Kp332.chain h i) : drawn h g + a.amount ≤ (grantAt h g).total := by
  unfold holds at q
  rw [Bool.and_eq_true, Bool.and_eq_true, decide_eq_true_iff, decide_eq_true_iff] at q
  obtain ⟨⟨_, q1⟩, q2⟩ := q
  unfold Kp332.room at q2
  rw [if_pos q1] at q2
  have h1 := least_le (List.mem_map.mpr ⟨g, hg, rfl⟩ : (grantAt h g).total - drawn h g ∈ (Kp332.chain h i).map fun i => (grantAt h i).total - drawn h i)
  have h2 := w.room g (Nat.lt_of_le_of_lt (chain_le w.down hg) hi)
  omega
end Jd
namespace Jd
open Kp332
/-- a call by its place and its numbers -/
inductive CN : Nat → List Nat → Kp332.Call → Prop where
  | c0 (x0 : Nat) : CN 0 [x0] (.begin_ x0)
  | c1 (x0 x1 x2 x3 x4 : Nat) : CN 1 [x0, x1, x2, x3, x4] (.rule x0 x1 x2 x3 x4)
  | c2 (x0 x1 x2 x3 x4 x5 : Nat) : CN 2 [x0, x1, x2, x3, x4, x5] (.rerule x0 x1 x2 x3 x4 x5)
  | c3 (x0 x1 x2 x3 : Nat) : CN 3 [x0, x1, x2, x3] (.ask x0 x1 x2 x3)
  | c4 (x0 x1 x2 : Nat) : CN 4 [x0, x1, x2] (.change x0 x1 x2)
  | c5 (x0 x1 x2 x3 : Nat) : CN 5 [x0, x1, x2, x3] (.yes x0 x1 x2 x3)
  | c6 (x0 x1 : Nat) : CN 6 [x0, x1] (.no x0 x1)
  | c7 (x0 : Nat) : CN 7 [x0] (.withdraw x0)
  | c8 (x0 x1 x2 x3 x4 x5 : Nat) : CN 8 [x0, x1, x2, x3, x4, x5] (.grant x0 x1 x2 x3 x4 x5)
  | c9 (x0 x1 x2 x3 x4 : Nat) : CN 9 [x0, x1, x2, x3, x4] (.hand x0 x1 x2 x3 x4)
  | c10 (x0 : Nat) : CN 10 [x0] (.revoke x0)
  | c11 (x0 x1 : Nat) : CN 11 [x0, x1] (.use x0 x1)
  | c12 (x0 : Nat) : CN 12 [x0] (.do_ x0)
  | c13 (x0 : Nat) : CN 13 [x0] (.could x0)
  | c14 (x0 : Nat) : CN 14 [x0] (.lacks x0)
  | c15 (x0 : Nat) : CN 15 [x0] (.counts x0)
  | c16 (x0 : Nat) : CN 16 [x0] (.maySay x0)
  | c17 (x0 : Nat) : CN 17 [x0] (.can x0)
  | c18 (x0 : Nat) : CN 18 [x0] (.tick x0)
  | c19 (x0 : Nat) : CN 19 [x0] (.lives x0)
  | c20 (x0 : Nat) : CN 20 [x0] (.room x0)
  | c21 (x0 : Nat) : CN 21 [x0] (.root x0)
  | c22 (x0 : Nat) : CN 22 [x0] (.under x0)
  | c23 (x0 : Nat) : CN 23 [x0] (.chain x0)
  | c24 (x0 : Nat) : CN 24 [x0] (.drawn x0)
  | c25 (x0 : Nat) : CN 25 [x0] (.left x0)
  | c26 (x0 x1 : Nat) : CN 26 [x0, x1] (.most x0 x1)
  | c27 (x0 x1 x2 : Nat) : CN 27 [x0, x1, x2] (.sum x0 x1 x2)
  | c28 (x0 x1 : Nat) : CN 28 [x0, x1] (.ifYes x0 x1)
  | c29 (x0 : Nat) : CN 29 [x0] (.log x0)
  | c30 : CN 30 [] (.done)
  | c31 (x0 : Nat) : CN 31 [x0] (.asked x0)
  | c32 (x0 : Nat) : CN 32 [x0] (.grantIs x0)
  | c33 (x0 : Nat) : CN 33 [x0] (.ruleIs x0)
  | c34 : CN 34 [] (.today)
def LEN : List Int := [1, 5, 6, 4, 3, 4, 2, 1, 6, 5, 1, 2, 1, 1, 1, 1, 1, 1, 1, 1, 1, 1, 1, 1, 1, 1, 2, 3, 2, 1, 0, 1, 1, 1, 0]
theorem CN.le {n : Nat} {a : List Nat} {c : Kp332.Call} (h : CN n a c) : n ≤ 34 := by cases h <;> decide
theorem nonneg {z : Int} (h : Kp332Neutral.natural z = true) : 0 ≤ z := by
  unfold Kp332Neutral.natural at h
  rw [Bool.and_eq_true, decide_eq_true_eq] at h
  exact h.1
theorem cast_toNat {z : Int} (h : 0 ≤ z) : ((z.toNat : Nat) : Int) = z := Int.toNat_of_nonneg h
/-- what one call's place asks -/
def OneCall (p : Int) (n : Nat) : Prop := 0 ≤ p ∧ p ≤ 34 ∧ LEN[p.toNat]? = some (n : Int) ∧ ∀ args : List Int, args.length = n → PyKp332.whole [p :: args] = [p :: args] ∧ (Kp332Neutral.asked1 [p :: args] = true → ∃ (ns : List Nat) (c : Kp332.Call), args = ns.map (fun (n : Nat) => (n : Int)) ∧ CN p.toNat ns c ∧ Kp332Neutral.callOf [p :: args] = some c)
theorem one0 : OneCall 0 1 := ⟨by decide, by decide, rfl, fun args hl => by
  match args, hl with
  | [x0], _ =>
    refine ⟨rfl, fun ha => ?_⟩
    have ha : (Kp332Neutral.natural x0) = true := ha
    have h0 := ha
    exact ⟨[x0.toNat], .begin_ x0.toNat, by simp only [List.map]; rw [cast_toNat (nonneg h0)], .c0 _, rfl⟩⟩
theorem one1 : OneCall 1 5 := ⟨by decide, by decide, rfl, fun args hl => by
  match args, hl with
  | [x0, x1, x2, x3, x4], _ =>
    refine ⟨rfl, fun ha => ?_⟩
    have ha : (Kp332Neutral.natural x0 && (Kp332Neutral.natural x1 && (Kp332Neutral.natural x2 && (Kp332Neutral.natural x3 && (Kp332Neutral.natural x4))))) = true := ha
    simp only [Bool.and_eq_true] at ha
    obtain ⟨h0, h1, h2, h3, h4⟩ := ha
    exact ⟨[x0.toNat, x1.toNat, x2.toNat, x3.toNat, x4.toNat], .rule x0.toNat x1.toNat x2.toNat x3.toNat x4.toNat, by simp only [List.map]; rw [cast_toNat (nonneg h0), cast_toNat (nonneg h1), cast_toNat (nonneg h2), cast_toNat (nonneg h3), cast_toNat (nonneg h4)], .c1 _ _ _ _ _, rfl⟩⟩
theorem one2 : OneCall 2 6 := ⟨by decide, by decide, rfl, fun args hl => by
  match args, hl with
  | [x0, x1, x2, x3, x4, x5], _ =>
    refine ⟨rfl, fun ha => ?_⟩
    have ha : (Kp332Neutral.natural x0 && (Kp332Neutral.natural x1 && (Kp332Neutral.natural x2 && (Kp332Neutral.natural x3 && (Kp332Neutral.natural x4 && (Kp332Neutral.natural x5)))))) = true := ha
    simp only [Bool.and_eq_true] at ha
    obtain ⟨h0, h1, h2, h3, h4, h5⟩ := ha
    exact ⟨[x0.toNat, x1.toNat, x2.toNat, x3.toNat, x4.toNat, x5.toNat], .rerule x0.toNat x1.toNat x2.toNat x3.toNat x4.toNat x5.toNat, by simp only [List.map]; rw [cast_toNat (nonneg h0), cast_toNat (nonneg h1), cast_toNat (nonneg h2), cast_toNat (nonneg h3), cast_toNat (nonneg h4), cast_toNat (nonneg h5)], .c2 _ _ _ _ _ _, rfl⟩⟩
theorem one3 : OneCall 3 4 := ⟨by decide, by decide, rfl, fun args hl => by
  match args, hl with
  | [x0, x1, x2, x3], _ =>
    refine ⟨rfl, fun ha => ?_⟩
    have ha : (Kp332Neutral.natural x0 && (Kp332Neutral.natural x1 && (Kp332Neutral.natural x2 && (Kp332Neutral.natural x3)))) = true := ha
    simp only [Bool.and_eq_true] at ha
    obtain ⟨h0, h1, h2, h3⟩ := ha
    exact ⟨[x0.toNat, x1.toNat, x2.toNat, x3.toNat], .ask x0.toNat x1.toNat x2.toNat x3.toNat, by simp only [List.map]; rw [cast_toNat (nonneg h0), cast_toNat (nonneg h1), cast_toNat (nonneg h2), cast_toNat (nonneg h3)], .c3 _ _ _ _, rfl⟩⟩
theorem one4 : OneCall 4 3 := ⟨by decide, by decide, rfl, fun args hl => by
  match args, hl with
  | [x0, x1, x2], _ =>
    refine ⟨rfl, fun ha => ?_⟩
    have ha : (Kp332Neutral.natural x0 && (Kp332Neutral.natural x1 && (Kp332Neutral.natural x2))) = true := ha
    simp only [Bool.and_eq_true] at ha
    obtain ⟨h0, h1, h2⟩ := ha
    exact ⟨[x0.toNat, x1.toNat, x2.toNat], .change x0.toNat x1.toNat x2.toNat, by simp only [List.map]; rw [cast_toNat (nonneg h0), cast_toNat (nonneg h1), cast_toNat (nonneg h2)], .c4 _ _ _, rfl⟩⟩
theorem one5 : OneCall 5 4 := ⟨by decide, by decide, rfl, fun args hl => by
  match args, hl with
  | [x0, x1, x2, x3], _ =>
    refine ⟨rfl, fun ha => ?_⟩
    have ha : (Kp332Neutral.natural x0 && (Kp332Neutral.natural x1 && (Kp332Neutral.natural x2 && (Kp332Neutral.natural x3)))) = true := ha
    simp only [Bool.and_eq_true] at ha
    obtain ⟨h0, h1, h2, h3⟩ := ha
    exact ⟨[x0.toNat, x1.toNat, x2.toNat, x3.toNat], .yes x0.toNat x1.toNat x2.toNat x3.toNat, by simp only [List.map]; rw [cast_toNat (nonneg h0), cast_toNat (nonneg h1), cast_toNat (nonneg h2), cast_toNat (nonneg h3)], .c5 _ _ _ _, rfl⟩⟩
theorem one6 : OneCall 6 2 := ⟨by decide, by decide, rfl, fun args hl => by
  match args, hl with
  | [x0, x1], _ =>
    refine ⟨rfl, fun ha => ?_⟩
    have ha : (Kp332Neutral.natural x0 && (Kp332Neutral.natural x1)) = true := ha
    simp only [Bool.and_eq_true] at ha
    obtain ⟨h0, h1⟩ := ha
    exact ⟨[x0.toNat, x1.toNat], .no x0.toNat x1.toNat, by simp only [List.map]; rw [cast_toNat (nonneg h0), cast_toNat (nonneg h1)], .c6 _ _, rfl⟩⟩
theorem one7 : OneCall 7 1 := ⟨by decide, by decide, rfl, fun args hl => by
  match args, hl with
  | [x0], _ =>
    refine ⟨rfl, fun ha => ?_⟩
    have ha : (Kp332Neutral.natural x0) = true := ha
    have h0 := ha
    exact ⟨[x0.toNat], .withdraw x0.toNat, by simp only [List.map]; rw [cast_toNat (nonneg h0)], .c7 _, rfl⟩⟩
theorem one8 : OneCall 8 6 := ⟨by decide, by decide, rfl, fun args hl => by
  match args, hl with
  | [x0, x1, x2, x3, x4, x5], _ =>
    refine ⟨rfl, fun ha => ?_⟩
    have ha : (Kp332Neutral.natural x0 && (Kp332Neutral.natural x1 && (Kp332Neutral.natural x2 && (Kp332Neutral.natural x3 && (Kp332Neutral.natural x4 && (Kp332Neutral.natural x5)))))) = true := ha
    simp only [Bool.and_eq_true] at ha
    obtain ⟨h0, h1, h2, h3, h4, h5⟩ := ha
    exact ⟨[x0.toNat, x1.toNat, x2.toNat, x3.toNat, x4.toNat, x5.toNat], .grant x0.toNat x1.toNat x2.toNat x3.toNat x4.toNat x5.toNat, by simp only [List.map]; rw [cast_toNat (nonneg h0), cast_toNat (nonneg h1), cast_toNat (nonneg h2), cast_toNat (nonneg h3), cast_toNat (nonneg h4), cast_toNat (nonneg h5)], .c8 _ _ _ _ _ _, rfl⟩⟩
theorem one9 : OneCall 9 5 := ⟨by decide, by decide, rfl, fun args hl => by
  match args, hl with
  | [x0, x1, x2, x3, x4], _ =>
    refine ⟨rfl, fun ha => ?_⟩
    have ha : (Kp332Neutral.natural x0 && (Kp332Neutral.natural x1 && (Kp332Neutral.natural x2 && (Kp332Neutral.natural x3 && (Kp332Neutral.natural x4))))) = true := ha
    simp only [Bool.and_eq_true] at ha
    obtain ⟨h0, h1, h2, h3, h4⟩ := ha
    exact ⟨[x0.toNat, x1.toNat, x2.toNat, x3.toNat, x4.toNat], .hand x0.toNat x1.toNat x2.toNat x3.toNat x4.toNat, by simp only [List.map]; rw [cast_toNat (nonneg h0), cast_toNat (nonneg h1), cast_toNat (nonneg h2), cast_toNat (nonneg h3), cast_toNat (nonneg h4)], .c9 _ _ _ _ _, rfl⟩⟩
theorem one10 : OneCall 10 1 := ⟨by decide, by decide, rfl, fun args hl => by
  match args, hl with
  | [x0], _ =>
    refine ⟨rfl, fun ha => ?_⟩
    have ha : (Kp332Neutral.natural x0) = true := ha
    have h0 := ha
    exact ⟨[x0.toNat], .revoke x0.toNat, by simp only [List.map]; rw [cast_toNat (nonneg h0)], .c10 _, rfl⟩⟩
theorem one11 : OneCall 11 2 := ⟨by decide, by decide, rfl, fun args hl => by
  match args, hl with
  | [x0, x1], _ =>
    refine ⟨rfl, fun ha => ?_⟩
    have ha : (Kp332Neutral.natural x0 && (Kp332Neutral.natural x1)) = true := ha
    simp only [Bool.and_eq_true] at ha
    obtain ⟨h0, h1⟩ := ha
    exact ⟨[x0.toNat, x1.toNat], .use x0.toNat x1.toNat, by simp only [List.map]; rw [cast_toNat (nonneg h0), cast_toNat (nonneg h1)], .c11 _ _, rfl⟩⟩
theorem one12 : OneCall 12 1 := ⟨by decide, by decide, rfl, fun args hl => by
  match args, hl with
  | [x0], _ =>
    refine ⟨rfl, fun ha => ?_⟩
    have ha : (Kp332Neutral.natural x0) = true := ha
    have h0 := ha
    exact ⟨[x0.toNat], .do_ x0.toNat, by simp only [List.map]; rw [cast_toNat (nonneg h0)], .c12 _, rfl⟩⟩
theorem one13 : OneCall 13 1 := ⟨by decide, by decide, rfl, fun args hl => by
  match args, hl with
  | [x0], _ =>
    refine ⟨rfl, fun ha => ?_⟩
    have ha : (Kp332Neutral.natural x0) = true := ha
    have h0 := ha
    exact ⟨[x0.toNat], .could x0.toNat, by simp only [List.map]; rw [cast_toNat (nonneg h0)], .c13 _, rfl⟩⟩
theorem one14 : OneCall 14 1 := ⟨by decide, by decide, rfl, fun args hl => by
  match args, hl with
  | [x0], _ =>
    refine ⟨rfl, fun ha => ?_⟩
    have ha : (Kp332Neutral.natural x0) = true := ha
    have h0 := ha
    exact ⟨[x0.toNat], .lacks x0.toNat, by simp only [List.map]; rw [cast_toNat (nonneg h0)], .c14 _, rfl⟩⟩
theorem one15 : OneCall 15 1 := ⟨by decide, by decide, rfl, fun args hl => by
  match args, hl with
  | [x0], _ =>
    refine ⟨rfl, fun ha => ?_⟩
    have ha : (Kp332Neutral.natural x0) = true := ha
    have h0 := ha
    exact ⟨[x0.toNat], .counts x0.toNat, by simp only [List.map]; rw [cast_toNat (nonneg h0)], .c15 _, rfl⟩⟩
theorem one16 : OneCall 16 1 := ⟨by decide, by decide, rfl, fun args hl => by
  match args, hl with
  | [x0], _ =>
    refine ⟨rfl, fun ha => ?_⟩
    have ha : (Kp332Neutral.natural x0) = true := ha
    have h0 := ha
    exact ⟨[x0.toNat], .maySay x0.toNat, by simp only [List.map]; rw [cast_toNat (nonneg h0)], .c16 _, rfl⟩⟩
theorem one17 : OneCall 17 1 := ⟨by decide, by decide, rfl, fun args hl => by
  match args, hl with
  | [x0], _ =>
    refine ⟨rfl, fun ha => ?_⟩
    have ha : (Kp332Neutral.natural x0) = true := ha
    have h0 := ha
    exact ⟨[x0.toNat], .can x0.toNat, by simp only [List.map]; rw [cast_toNat (nonneg h0)], .c17 _, rfl⟩⟩
theorem one18 : OneCall 18 1 := ⟨by decide, by decide, rfl, fun args hl => by
  match args, hl with
  | [x0], _ =>
    refine ⟨rfl, fun ha => ?_⟩
    have ha : (Kp332Neutral.natural x0) = true := ha
    have h0 := ha
    exact ⟨[x0.toNat], .tick x0.toNat, by simp only [List.map]; rw [cast_toNat (nonneg h0)], .c18 _, rfl⟩⟩
theorem one19 : OneCall 19 1 := ⟨by decide, by decide, rfl, fun args hl => by
  match args, hl with
  | [x0], _ =>
    refine ⟨rfl, fun ha => ?_⟩
    have ha : (Kp332Neutral.natural x0) = true := ha
    have h0 := ha
    exact ⟨[x0.toNat], .lives x0.toNat, by simp only [List.map]; rw [cast_toNat (nonneg h0)], .c19 _, rfl⟩⟩
theorem one20 : OneCall 20 1 := ⟨by decide, by decide, rfl, fun args hl => by
  match args, hl with
  | [x0], _ =>
    refine ⟨rfl, fun ha => ?_⟩
    have ha : (Kp332Neutral.natural x0) = true := ha
    have h0 := ha
    exact ⟨[x0.toNat], .room x0.toNat, by simp only [List.map]; rw [cast_toNat (nonneg h0)], .c20 _, rfl⟩⟩
theorem one21 : OneCall 21 1 := ⟨by decide, by decide, rfl, fun args hl => by
  match args, hl with
  | [x0], _ =>
    refine ⟨rfl, fun ha => ?_⟩
    have ha : (Kp332Neutral.natural x0) = true := ha
    have h0 := ha
    exact ⟨[x0.toNat], .root x0.toNat, by simp only [List.map]; rw [cast_toNat (nonneg h0)], .c21 _, rfl⟩⟩
theorem one22 : OneCall 22 1 := ⟨by decide, by decide, rfl, fun args hl => by
  match args, hl with
  | [x0], _ =>
    refine ⟨rfl, fun ha => ?_⟩
    have ha : (Kp332Neutral.natural x0) = true := ha
    have h0 := ha
    exact ⟨[x0.toNat], .under x0.toNat, by simp only [List.map]; rw [cast_toNat (nonneg h0)], .c22 _, rfl⟩⟩
theorem one23 : OneCall 23 1 := ⟨by decide, by decide, rfl, fun args hl => by
  match args, hl with
  | [x0], _ =>
    refine ⟨rfl, fun ha => ?_⟩
    have ha : (Kp332Neutral.natural x0) = true := ha
    have h0 := ha
    exact ⟨[x0.toNat], .chain x0.toNat, by simp only [List.map]; rw [cast_toNat (nonneg h0)], .c23 _, rfl⟩⟩
theorem one24 : OneCall 24 1 := ⟨by decide, by decide, rfl, fun args hl => by
  match args, hl with
  | [x0], _ =>
    refine ⟨rfl, fun ha => ?_⟩
    have ha : (Kp332Neutral.natural x0) = true := ha
    have h0 := ha
    exact ⟨[x0.toNat], .drawn x0.toNat, by simp only [List.map]; rw [cast_toNat (nonneg h0)], .c24 _, rfl⟩⟩
theorem one25 : OneCall 25 1 := ⟨by decide, by decide, rfl, fun args hl => by
  match args, hl with
  | [x0], _ =>
    refine ⟨rfl, fun ha => ?_⟩
    have ha : (Kp332Neutral.natural x0) = true := ha
    have h0 := ha
    exact ⟨[x0.toNat], .left x0.toNat, by simp only [List.map]; rw [cast_toNat (nonneg h0)], .c25 _, rfl⟩⟩
theorem one26 : OneCall 26 2 := ⟨by decide, by decide, rfl, fun args hl => by
  match args, hl with
  | [x0, x1], _ =>
    refine ⟨rfl, fun ha => ?_⟩
    have ha : (Kp332Neutral.natural x0 && (Kp332Neutral.natural x1)) = true := ha
    simp only [Bool.and_eq_true] at ha
    obtain ⟨h0, h1⟩ := ha
    exact ⟨[x0.toNat, x1.toNat], .most x0.toNat x1.toNat, by simp only [List.map]; rw [cast_toNat (nonneg h0), cast_toNat (nonneg h1)], .c26 _ _, rfl⟩⟩
theorem one27 : OneCall 27 3 := ⟨by decide, by decide, rfl, fun args hl => by
  match args, hl with
  | [x0, x1, x2], _ =>
    refine ⟨rfl, fun ha => ?_⟩
    have ha : (Kp332Neutral.natural x0 && (Kp332Neutral.natural x1 && (Kp332Neutral.natural x2))) = true := ha
    simp only [Bool.and_eq_true] at ha
    obtain ⟨h0, h1, h2⟩ := ha
    exact ⟨[x0.toNat, x1.toNat, x2.toNat], .sum x0.toNat x1.toNat x2.toNat, by simp only [List.map]; rw [cast_toNat (nonneg h0), cast_toNat (nonneg h1), cast_toNat (nonneg h2)], .c27 _ _ _, rfl⟩⟩
theorem one28 : OneCall 28 2 := ⟨by decide, by decide, rfl, fun args hl => by
  match args, hl with
  | [x0, x1], _ =>
    refine ⟨rfl, fun ha => ?_⟩
    have ha : (Kp332Neutral.natural x0 && (Kp332Neutral.natural x1)) = true := ha
    simp only [Bool.and_eq_true] at ha
    obtain ⟨h0, h1⟩ := ha
    exact ⟨[x0.toNat, x1.toNat], .ifYes x0.toNat x1.toNat, by simp only [List.map]; rw [cast_toNat (nonneg h0), cast_toNat (nonneg h1)], .c28 _ _, rfl⟩⟩
theorem one29 : OneCall 29 1 := ⟨by decide, by decide, rfl, fun args hl => by
  match args, hl with
  | [x0], _ =>
    refine ⟨rfl, fun ha => ?_⟩
    have ha : (Kp332Neutral.natural x0) = true := ha
    have h0 := ha
    exact ⟨[x0.toNat], .log x0.toNat, by simp only [List.map]; rw [cast_toNat (nonneg h0)], .c29 _, rfl⟩⟩
theorem one30 : OneCall 30 0 := ⟨by decide, by decide, rfl, fun args hl => by
  match args, hl with
  | [], _ =>
    refine ⟨rfl, fun ha => ?_⟩
    exact ⟨[], .done, by rfl, .c30, rfl⟩⟩
theorem one31 : OneCall 31 1 := ⟨by decide, by decide, rfl, fun args hl => by
  match args, hl with
  | [x0], _ =>
    refine ⟨rfl, fun ha => ?_⟩
    have ha : (Kp332Neutral.natural x0) = true := ha
    have h0 := ha
    exact ⟨[x0.toNat], .asked x0.toNat, by simp only [List.map]; rw [cast_toNat (nonneg h0)], .c31 _, rfl⟩⟩
theorem one32 : OneCall 32 1 := ⟨by decide, by decide, rfl, fun args hl => by
  match args, hl with
  | [x0], _ =>
    refine ⟨rfl, fun ha => ?_⟩
    have ha : (Kp332Neutral.natural x0) = true := ha
    have h0 := ha
    exact ⟨[x0.toNat], .grantIs x0.toNat, by simp only [List.map]; rw [cast_toNat (nonneg h0)], .c32 _, rfl⟩⟩
theorem one33 : OneCall 33 1 := ⟨by decide, by decide, rfl, fun args hl => by
  match args, hl with
  | [x0], _ =>
    refine ⟨rfl, fun ha => ?_⟩
    have ha : (Kp332Neutral.natural x0) = true := ha
    have h0 := ha
    exact ⟨[x0.toNat], .ruleIs x0.toNat, by simp only [List.map]; rw [cast_toNat (nonneg h0)], .c33 _, rfl⟩⟩
theorem one34 : OneCall 34 0 := ⟨by decide, by decide, rfl, fun args hl => by
  match args, hl with
  | [], _ =>
    refine ⟨rfl, fun ha => ?_⟩
    exact ⟨[], .today, by rfl, .c34, rfl⟩⟩
theorem one_call {p : Int} {n k : Nat} (hs : PyKp332.shape p = some (n, k)) : k = 0 ∧ OneCall p n := by
  unfold PyKp332.shape at hs
  by_cases h0 : p = 0
  · rw [if_pos h0] at hs
    cases hs
    subst h0
    exact ⟨rfl, one0⟩
  rw [if_neg h0] at hs
  by_cases h1 : p = 1
  · rw [if_pos h1] at hs
    cases hs
    subst h1
    exact ⟨rfl, one1⟩
  rw [if_neg h1] at hs
  by_cases h2 : p = 2
  · rw [if_pos h2] at hs
    cases hs
    subst h2
    exact ⟨rfl, one2⟩
  rw [if_neg h2] at hs
  by_cases h3 : p = 3
  · rw [if_pos h3] at hs
    cases hs
    subst h3
    exact ⟨rfl, one3⟩
  rw [if_neg h3] at hs
  by_cases h4 : p = 4
  · rw [if_pos h4] at hs
    cases hs
    subst h4
    exact ⟨rfl, one4⟩
  rw [if_neg h4] at hs
  by_cases h5 : p = 5
  · rw [if_pos h5] at hs
    cases hs
    subst h5
    exact ⟨rfl, one5⟩
  rw [if_neg h5] at hs
  by_cases h6 : p = 6
  · rw [if_pos h6] at hs
    cases hs
    subst h6
    exact ⟨rfl, one6⟩
  rw [if_neg h6] at hs
  by_cases h7 : p = 7
  · rw [if_pos h7] at hs
    cases hs
    subst h7
    exact ⟨rfl, one7⟩
  rw [if_neg h7] at hs
  by_cases h8 : p = 8
  · rw [if_pos h8] at hs
    cases hs
    subst h8
    exact ⟨rfl, one8⟩
  rw [if_neg h8] at hs
  by_cases h9 : p = 9
  · rw [if_pos h9] at hs
    cases hs
    subst h9
    exact ⟨rfl, one9⟩
  rw [if_neg h9] at hs
  by_cases h10 : p = 10
  · rw [if_pos h10] at hs
    cases hs
    subst h10
    exact ⟨rfl, one10⟩
  rw [if_neg h10] at hs
  by_cases h11 : p = 11
  · rw [if_pos h11] at hs
    cases hs
    subst h11
    exact ⟨rfl, one11⟩
  rw [if_neg h11] at hs
  by_cases h12 : p = 12
  · rw [if_pos h12] at hs
    cases hs
    subst h12
    exact ⟨rfl, one12⟩
  rw [if_neg h12] at hs
  by_cases h13 : p = 13
  · rw [if_pos h13] at hs
    cases hs
    subst h13
    exact ⟨rfl, one13⟩
  rw [if_neg h13] at hs
  by_cases h14 : p = 14
  · rw [if_pos h14] at hs
    cases hs
    subst h14
    exact ⟨rfl, one14⟩
  rw [if_neg h14] at hs
  by_cases h15 : p = 15
  · rw [if_pos h15] at hs
    cases hs
    subst h15
    exact ⟨rfl, one15⟩
  rw [if_neg h15] at hs
  by_cases h16 : p = 16
  · rw [if_pos h16] at hs
    cases hs
    subst h16
    exact ⟨rfl, one16⟩
  rw [if_neg h16] at hs
  by_cases h17 : p = 17
  · rw [if_pos h17] at hs
    cases hs
    subst h17
    exact ⟨rfl, one17⟩
  rw [if_neg h17] at hs
  by_cases h18 : p = 18
  · rw [if_pos h18] at hs
    cases hs
    subst h18
    exact ⟨rfl, one18⟩
  rw [if_neg h18] at hs
  by_cases h19 : p = 19
  · rw [if_pos h19] at hs
    cases hs
    subst h19
    exact ⟨rfl, one19⟩
  rw [if_neg h19] at hs
  by_cases h20 : p = 20
  · rw [if_pos h20] at hs
    cases hs
    subst h20
    exact ⟨rfl, one20⟩
  rw [if_neg h20] at hs
  by_cases h21 : p = 21
  · rw [if_pos h21] at hs
    cases hs
    subst h21
    exact ⟨rfl, one21⟩
  rw [if_neg h21] at hs
  by_cases h22 : p = 22
  · rw [if_pos h22] at hs
    cases hs
    subst h22
    exact ⟨rfl, one22⟩
  rw [if_neg h22] at hs
  by_cases h23 : p = 23
  · rw [if_pos h23] at hs
    cases hs
    subst h23
    exact ⟨rfl, one23⟩
  rw [if_neg h23] at hs
  by_cases h24 : p = 24
  · rw [if_pos h24] at hs
    cases hs
    subst h24
    exact ⟨rfl, one24⟩
  rw [if_neg h24] at hs
  by_cases h25 : p = 25
  · rw [if_pos h25] at hs
    cases hs
    subst h25
    exact ⟨rfl, one25⟩
  rw [if_neg h25] at hs
  by_cases h26 : p = 26
  · rw [if_pos h26] at hs
    cases hs
    subst h26
    exact ⟨rfl, one26⟩
  rw [if_neg h26] at hs
  by_cases h27 : p = 27
  · rw [if_pos h27] at hs
    cases hs
    subst h27
    exact ⟨rfl, one27⟩
  rw [if_neg h27] at hs
  by_cases h28 : p = 28
  · rw [if_pos h28] at hs
    cases hs
    subst h28
    exact ⟨rfl, one28⟩
  rw [if_neg h28] at hs
  by_cases h29 : p = 29
  · rw [if_pos h29] at hs
    cases hs
    subst h29
    exact ⟨rfl, one29⟩
  rw [if_neg h29] at hs
  by_cases h30 : p = 30
  · rw [if_pos h30] at hs
    cases hs
    subst h30
    exact ⟨rfl, one30⟩
  rw [if_neg h30] at hs
  by_cases h31 : p = 31
  · rw [if_pos h31] at hs
    cases hs
    subst h31
    exact ⟨rfl, one31⟩
  rw [if_neg h31] at hs
  by_cases h32 : p = 32
  · rw [if_pos h32] at hs
    cases hs
    subst h32
    exact ⟨rfl, one32⟩
  rw [if_neg h32] at hs
  by_cases h33 : p = 33
  · rw [if_pos h33] at hs
    cases hs
    subst h33
    exact ⟨rfl, one33⟩
  rw [if_neg h33] at hs
  by_cases h34 : p = 34
  · rw [if_pos h34] at hs
    cases hs
    subst h34
    exact ⟨rfl, one34⟩
  rw [if_neg h34] at hs
  cases hs
theorem calls_nil (f : Nat) : PyFlat.calls PyKp332.shape f [] = some [] := by
  cases f <;> rfl
theorem calls_cons {f : Nat} {p : Int} {r : List Int} {cs : List (List (List Int))} (h : PyFlat.calls PyKp332.shape f (p :: r) = some cs) : ∃ n cs' f', OneCall p n ∧ n ≤ r.length ∧ cs = [p :: r.take n] :: cs' ∧ PyFlat.calls PyKp332.shape f' (r.drop n) = some cs' := by
  cases f with
  | zero => cases h
  | succ f =>
    have h : (match PyFlat.call PyKp332.shape (p :: r) with
      | none => none
      | some (c, t) => match PyFlat.calls PyKp332.shape f t with
        | none => none
        | some cs => some (c :: cs)) = some cs := h
    have hc : PyFlat.call PyKp332.shape (p :: r) = (match PyKp332.shape p with
      | none => none
      | some (n, k) => if r.length < n then none else match PyFlat.rows k (r.drop n) with
        | none => none
        | some (xs, t) => some ((p :: r.take n) :: xs, t)) := rfl
    cases hs : PyKp332.shape p with
    | none =>
      rw [hc, hs] at h
      cases h
    | some nk =>
      obtain ⟨n, k⟩ := nk
      obtain ⟨rfl, oc⟩ := one_call hs
      rw [hs] at hc
      by_cases hl : r.length < n
      · have hc : PyFlat.call PyKp332.shape (p :: r) = none := by
          rw [hc]
          show (if r.length < n then none else _) = none
          rw [if_pos hl]
        rw [hc] at h
        cases h
      · have hc : PyFlat.call PyKp332.shape (p :: r) = some ([p :: r.take n], r.drop n) := by
          rw [hc]
          show (if r.length < n then none else _) = _
          rw [if_neg hl]
          rfl
        rw [hc] at h
        have h : (match PyFlat.calls PyKp332.shape f (r.drop n) with
          | none => none
          | some cs => some ([p :: r.take n] :: cs)) = some cs := h
        cases e : PyFlat.calls PyKp332.shape f (r.drop n) with
        | none =>
          rw [e] at h
          cases h
        | some cs' =>
          rw [e] at h
          cases h
          exact ⟨n, cs', f, oc, by omega, rfl, e⟩
theorem whole_id : ∀ (k : Nat) (l : List Int) (f : Nat) (cs : List (List (List Int))), l.length ≤ k → PyFlat.calls PyKp332.shape f l = some cs → cs.map PyKp332.whole = cs := by
  intro k
  induction k with
  | zero =>
    intro l f cs hl h
    match l, hl with
    | [], _ =>
      rw [calls_nil] at h
      cases h
      rfl
  | succ k ih =>
    intro l f cs hl h
    match l, hl with
    | [], _ =>
      rw [calls_nil] at h
      cases h
      rfl
    | p :: r, hl =>
      obtain ⟨n, cs', f', oc, hn, rfl, h'⟩ := calls_cons h
      have hl' : r.length ≤ k := by rw [List.length_cons] at hl; omega
      rw [List.map_cons, ih (r.drop n) f' cs' (by rw [List.length_drop]; omega) h', (oc.2.2.2 (r.take n) (by rw [List.length_take]; omega)).1]
theorem told_cons (x : List Int) (xs : List (List Int)) : PyFlat.told (x :: xs) = ((x.length : Int) :: x) ++ PyFlat.told xs := rfl
theorem played_cons (st : Kp332.State) (c : List (List Int)) (cs : List (List (List Int))) : PyFlat.played Kp332Neutral.step st (c :: cs) = (Kp332Neutral.step st c).2 :: PyFlat.played Kp332Neutral.step (Kp332Neutral.step st c).1 cs := rfl
/-- a call's answer as it's told -/
def answ (st : Kp332.State) (c : Kp332.Call) : List Int := (Kp332.step st c).2.num :: (Kp332.step st c).2.nums
theorem step_of {st : Kp332.State} {c : List (List Int)} {x : Kp332.Call} (h : Kp332Neutral.callOf c = some x) : Kp332Neutral.step st c = ((Kp332.step st x).1, answ st x) := by
  unfold Kp332Neutral.step
  rw [h]
  rfl
theorem asked_parts {l : List Int} (h : PyKp332.answers_asked l = true) : ∃ cs, PyFlat.calls PyKp332.shape l.length l = some cs ∧ (∀ c ∈ cs, Kp332Neutral.asked1 c = true) ∧ PyKp332.answers l = PyFlat.told (PyFlat.played Kp332Neutral.step none cs) ∧ (PyKp332.answers l).length ≤ 10000000 := by
  unfold PyKp332.answers_asked at h
  cases e : PyFlat.calls PyKp332.shape l.length l with
  | none =>
    rw [e] at h
    cases h
  | some cs =>
    rw [e] at h
    simp only [Bool.and_eq_true] at h
    obtain ⟨⟨⟨⟨h1, h2⟩, h3⟩, h4⟩, h5⟩ := h
    have hw : cs.map PyKp332.whole = cs := whole_id _ l _ cs (Nat.le_refl _) e
    rw [hw] at h4
    refine ⟨cs, rfl, ?_, ?_, by simpa [PyFlat.short] using h5⟩
    · unfold Kp332Neutral.asked at h4
      simp only [Bool.and_eq_true] at h4
      exact List.all_eq_true.mp h4.2.2
    · have : PyKp332.calls l = some cs := by
        unfold PyKp332.calls
        rw [e]
        show some (cs.map PyKp332.whole) = _
        rw [hw]
      unfold PyKp332.answers
      rw [this]
      rfl
end Jd
namespace Jd
open Kp332
theorem step_n {h h2 : House} {c : Kp332.Call} (hc : ∀ n, c ≠ .begin_ n) (e : (Kp332.step (some h) c).1 = some h2) : h2.n = h.n := by
  cases c
  case begin_ n => exact absurd rfl (hc n)
  all_goals
    simp only [Kp332.step, ofR, askG] at e
    (repeat' split at e) <;> first | (cases e; rfl) | (simp only [Option.some.injEq] at e; subst e; rfl)
/-- the state as the book has it -/
def stOf (h : House) : Kp332.State := if h.n = 0 then none else some h
theorem step_none {c : Kp332.Call} (hc : ∀ n, c ≠ .begin_ n) : Kp332.step none c = (none, say (-11)) := by
  cases c
  case begin_ n => exact absurd rfl (hc n)
  all_goals rfl
end Jd
namespace Jd
open Kp332
theorem nums_nil {h : House} {n : Nat} {a : List Nat} {c : Kp332.Call} (hc : CN n a c) (h0 : n ≠ 0 ∧ n ≠ 22 ∧ n ≠ 23 ∧ n ≠ 29 ∧ n ≠ 31 ∧ n ≠ 32 ∧ n ≠ 33) : (Kp332.step (some h) c).2.nums = [] := by
  cases hc <;> first | (exfalso; omega) | skip
  all_goals
    simp only [Kp332.step, ofR, askG]
    (repeat' split) <;> rfl
theorem CN.nb {n : Nat} {a : List Nat} {c : Kp332.Call} (hc : CN n a c) (h0 : n ≠ 0) : ∀ k, c ≠ .begin_ k := by
  cases hc <;> first | exact absurd rfl h0 | (intro k e; cases e)
theorem drop_cons {l : List Int} {i : Nat} (h : i < l.length) : ∃ p r, l.drop i = p :: r ∧ l[i]? = some p ∧ r = l.drop (i + 1) := by
  refine ⟨l[i], l.drop (i + 1), List.drop_eq_getElem_cons h, List.getElem?_eq_getElem h, rfl⟩
end Jd
namespace Jd
open PySem PySem.Spec PyProof.Rows L2 Evl

section
variable {X : Cx}
def WE (X : Cx) (e : Expr) : TE := fun σ H Q => ∀ (pins : List (Addr × Obj)) (s : Shared), Inv X pins σ H s → wpAny (model X.prog X.w) X.A (eval e X.env) (EP X pins σ Q) X.xe s
def WT (X : Cx) (e : Expr) : TT := fun σ H Q => ∀ (pins : List (Addr × Obj)) (s : Shared), Inv X pins σ H s → wpAny (model X.prog X.w) X.A (isTrue e X.env (eval e X.env)) (TP X pins σ Q) X.xe s
def WW (X : Cx) (e : Expr) : TT := fun σ H Q => ∀ (wh : Sem Value) (pins : List (Addr × Obj)) (s : Shared), Inv X pins σ H s → wpAny (model X.prog X.w) X.A (isTrue e X.env wh) (TP X pins σ Q) X.xe s
def WA (X : Cx) (es : List Expr) : TA := fun σ H Q => ∀ (pos : Pos) (pins : List (Addr × Obj)) (s : Shared), Inv X pins σ H s → wpAny (model X.prog X.w) X.A (spliced (backTo pos (starEach es X.env))) (AP X pins σ Q) X.xe s
def WS (X : Cx) (sts : List Stmt) : TS := fun D σ H => ∀ (pins : List (Addr × Obj)) (s : Shared), Inv X pins σ H s → wpAny (model X.prog X.w) X.A (execs sts X.env) (SP X pins D) X.xe s
theorem we_pe {e : Expr} : PE X e (WE X e) := ⟨fun pins s _ _ _ I h => h pins s I⟩
theorem wt_pt {e : Expr} : PT X e (WT X e) := ⟨fun pins s _ _ _ I h => h pins s I⟩
theorem ww_pw {e : Expr} : PW X e (WW X e) := ⟨fun wh pins s _ _ _ I h => h wh pins s I⟩
theorem wa_pa {es : List Expr} : PA X es (WA X es) := ⟨fun pos pins s _ _ _ I h => h pos pins s I⟩
theorem ws_ps {sts : List Stmt} : PSs X sts (WS X sts) := ⟨fun pins s _ _ _ I h => h pins s I⟩
abbrev EV (X : Cx) (e : Expr) (σ : L2.St) (H : Hp) (v : V) : Prop := Ev (WE X e) σ H v
abbrev EL (X : Cx) (e : Expr) (σ : L2.St) (H : Hp) (xs : List V) : Prop := EvL (WE X e) σ H xs
abbrev EU (X : Cx) (e : Expr) (σ : L2.St) (H : Hp) (xs : List V) : Prop := EvU (WE X e) σ H xs
abbrev EA (X : Cx) (es : List Expr) (σ : L2.St) (H : Hp) (vs : List V) : Prop := EvA (WA X es) σ H vs
def ET (X : Cx) (e : Expr) (σ : L2.St) (H : Hp) (P : Prop) : Prop := ∃ b : Bool, (b = true ↔ P) ∧ EvT (WT X e) σ H b
def EW (X : Cx) (e : Expr) (σ : L2.St) (H : Hp) (P : Prop) : Prop := ∃ b : Bool, (b = true ↔ P) ∧ EvT (WW X e) σ H b
def EB (X : Cx) (e : Expr) (σ : L2.St) (H : Hp) (P : Prop) : Prop := ∃ b : Bool, (b = true ↔ P) ∧ EV X e σ H (.bl b)
def BS (X : Cx) (sts : List Stmt) (D : Ends) (σ : L2.St) (H : Hp) : Prop := ∀ H1, Ex H H1 → WS X sts D σ H1
variable {σ : L2.St} {H : Hp} {e a b c : Expr} {v x y z : V} {pos : Pos} {i j : Int} {es : List Expr} {vs : List V}
theorem ev_of {t : TE} (h : PE X e t) (q : Ev t σ H v) : EV X e σ H v := fun H1 e1 Q k pins s I => h.run pins s σ H1 Q I (q H1 e1 Q k)
theorem el_of {t : TE} (h : PE X e t) (q : EvL t σ H vs) : EL X e σ H vs := fun H1 e1 Q k pins s I => h.run pins s σ H1 Q I (q H1 e1 Q k)
theorem eu_of {t : TE} (h : PE X e t) (q : EvU t σ H vs) : EU X e σ H vs := fun H1 e1 Q k pins s I => h.run pins s σ H1 Q I (q H1 e1 Q k)
theorem et_of {t : TT} {b : Bool} (h : PT X e t) (q : EvT t σ H b) : EvT (WT X e) σ H b := fun H1 e1 Q k pins s I => h.run pins s σ H1 Q I (q H1 e1 Q k)
theorem ew_of {t : TT} {b : Bool} (h : PW X e t) (q : EvT t σ H b) : EvT (WW X e) σ H b := fun H1 e1 Q k wh pins s I => h.run wh pins s σ H1 Q I (q H1 e1 Q k)
theorem ea_of {t : TA} (h : PA X es t) (q : EvA t σ H vs) : EA X es σ H vs := fun H1 e1 Q k pos pins s I => h.run pos pins s σ H1 Q I (q H1 e1 Q k)

/-- what is known of the text one stands in -/
structure XC (X : Cx) (N : List Str) (sc : Scope) (k : Nat) : Prop where
  n : X.N = N
  loc : ∀ x, sc.names.lookup x = some .local → X.env.scope.names.lookup x = some .local
  cel : ∀ x, sc.names.lookup x = some .cell ∨ sc.names.lookup x = some .free → X.env.scope.names.lookup x = some .cell ∨ X.env.scope.names.lookup x = some .free
  cll : ∀ x, sc.names.lookup x = some .cell → X.env.scope.names.lookup x = some .cell
  gl0 : ∀ x, sc.names.lookup x = some .globalImplicit → X.env.scope.names.lookup x = some .globalImplicit
  r : Room k X.A
  c : X.calm = true
  nd : N.Nodup
  xe : X.xe = fun _ _ => False
theorem XC.mk' {X : Cx} {N : List Str} {sc : Scope} {k : Nat} (n : X.N = N) (s : X.env.scope = sc) (r : Room k X.A) (c : X.calm = true) (nd : N.Nodup) (xe : X.xe = fun _ _ => False) : XC X N sc k :=
  ⟨n, fun x h => by rw [s]; exact h, fun x h => by rw [s]; exact h, fun x h => by rw [s]; exact h, fun x h => by rw [s]; exact h, r, c, nd, xe⟩
theorem lk_rel {env : Env} : ∀ {names : List (Str × NameKind)} {x : Str} {k : NameKind}, names.lookup x = some k →
    (names.map fun (n, k) => if (k == NameKind.free && env.scope.kind == .function && env.kindOf n == some .cell) then (n, NameKind.cell) else (n, k)).lookup x = some k ∨
    (k = .free ∧ (names.map fun (n, k) => if (k == NameKind.free && env.scope.kind == .function && env.kindOf n == some .cell) then (n, NameKind.cell) else (n, k)).lookup x = some .cell)
  | [], _, _, h => by simp at h
  | (n, k) :: r, x, k', h => by
    have ih := @lk_rel env r x k'
    rw [List.map_cons]
    show List.lookup x ((if (k == NameKind.free && env.scope.kind == .function && env.kindOf n == some .cell) = true then (n, NameKind.cell) else (n, k)) :: _) = _ ∨ _ ∧ List.lookup x ((if (k == NameKind.free && env.scope.kind == .function && env.kindOf n == some .cell) = true then (n, NameKind.cell) else (n, k)) :: _) = _
    cases hx : x == n with
    | true =>
      simp only [List.lookup_cons, hx] at h
      cases h
      by_cases hc : (k == NameKind.free && env.scope.kind == .function && env.kindOf n == some .cell) = true
      · right
        rw [if_pos hc]
        simp only [Bool.and_eq_true, beq_iff_eq] at hc
        exact ⟨hc.1.1, by simp [List.lookup_cons, hx]⟩
      · left
        rw [if_neg hc]
        simp [List.lookup_cons, hx]
    | false =>
      simp only [List.lookup_cons, hx] at h
      by_cases hc : (k == NameKind.free && env.scope.kind == .function && env.kindOf n == some .cell) = true
      · rw [if_pos hc]; simp only [List.lookup_cons, hx]; exact ih h
      · rw [if_neg hc]; simp only [List.lookup_cons, hx]; exact ih h
theorem XC.blk {X : Cx} {N : List Str} {sc : Scope} {k : Nat} (C : XC X N sc k) (scope : Scope) (s : Shared) (H0 : Hp) (Ca : Addr) (cl : List (Str × Addr)) (fp : List Addr) : XC (X.blk s H0 scope (compEnvC scope cl Ca X.env) fp) N scope k where
  n := C.n
  loc := fun x h => (lk_rel (env := X.env) h).resolve_right fun z => nomatch z.1
  cll := fun x h => (lk_rel (env := X.env) h).resolve_right fun z => nomatch z.1
  gl0 := fun x h => (lk_rel (env := X.env) h).resolve_right fun z => nomatch z.1
  cel := fun x h => h.elim (fun h => Or.inl ((lk_rel (env := X.env) h).resolve_right fun z => nomatch z.1)) fun h => (lk_rel (env := X.env) h).elim Or.inr fun z => Or.inl z.2
  r := C.r
  c := C.c
  nd := C.nd
  xe := rfl
variable {N : List Str} {sc : Scope} {k : Nat} {xn : Str}
theorem XC.po (C : XC X N sc k) : PassesOwn (model X.prog X.w) X.A X.env X.xe := by
  rw [C.xe]
  exact PassesOwn.never
/-- a local name -/
theorem XC.lv (C : XC X N sc k) (i : Nat) (hN : N[i]? = some xn := by rfl) (hv : Vis sc xn := by first | exact Or.inl rfl | exact Or.inr (Or.inl rfl) | exact Or.inr (Or.inr rfl)) (hσ : σ[i]? = some (some v) := by rfl)
    (hd : (xn == ("__debug__" : Str)) = false := by decide) (hcd : (xn == ("__classdict__" : Str)) = false := by decide) : EV X (.Name xn pos) σ H v :=
  ev_of (pe_var (i := i) (by rw [C.n]; exact hN) (hv.elim (fun h => Or.inl (C.loc _ h)) fun h => Or.inr (C.cel _ h)) hd hcd) (Evl.ev_var hσ)
def MgI (X : Cx) (x : Str) (i : Int) : Prop := ∃ t, X.mg x = some (.int i t)
def GlS (sc : Scope) (x : Str) : Prop := sc.names.lookup x = some .globalImplicit
theorem XC.gl (C : XC X N sc k) (h : GlS sc xn) : Gl X xn := C.gl0 _ h
/-- a constant of the module -/
theorem XC.g (C : XC X N sc k) (hm : MgI X xn i) (hg : GlS sc xn := by rfl) (hd : (xn == ("__debug__" : Str)) = false := by decide) : EV X (.Name xn pos) σ H (.int i) := by
  obtain ⟨t, hm⟩ := hm
  exact ev_of (pe_glob (v := .int i) (C.gl hg) hm ⟨t, rfl⟩ hd) ev_c
theorem x_int {j : Nat} : EV X (.Constant (.int i) j pos) σ H (.int i) := ev_of pe_int ev_c
theorem x_bl {w : Bool} {j : Nat} : EV X (.Constant (.bool w) j pos) σ H (.bl w) := ev_of pe_bl ev_c
theorem x_add (ha : EV X a σ H (.int i)) (hb : EV X b σ H (.int j)) : EV X (.BinOp a .Add b pos) σ H (.int (i + j)) := ev_of (pe_op op_add we_pe we_pe) (ev_op ha hb rv_I0)
theorem x_sub (ha : EV X a σ H (.int i)) (hb : EV X b σ H (.int j)) : EV X (.BinOp a .Sub b pos) σ H (.int (i - j)) := ev_of (pe_op op_sub we_pe we_pe) (ev_op ha hb rv_I0)
theorem x_shl (ha : EV X a σ H (.int i)) (hb : EV X b σ H (.int j)) (hc : CPow i j) : EV X (.BinOp a .LShift b pos) σ H (.int (i * 2 ^ j.toNat)) := ev_of (pe_op op_shl we_pe we_pe) (ev_op ha hb (rv_I hc))
theorem x_shr (ha : EV X a σ H (.int i)) (hb : EV X b σ H (.int j)) (hc : 0 ≤ j) : EV X (.BinOp a .RShift b pos) σ H (.int (i / 2 ^ j.toNat)) := ev_of (pe_op op_shr we_pe we_pe) (ev_op ha hb (rv_I (C := fun _ j => 0 ≤ j) hc))
theorem x_and (ha : EV X a σ H (.int i)) (hb : EV X b σ H (.int j)) : EV X (.BinOp a .BitAnd b pos) σ H (.int (Builtin.bitAnd i j)) := ev_of (pe_op op_and we_pe we_pe) (ev_op ha hb rv_I0)
theorem x_or (ha : EV X a σ H (.int i)) (hb : EV X b σ H (.int j)) : EV X (.BinOp a .BitOr b pos) σ H (.int (Builtin.bitOr i j)) := ev_of (pe_op op_or we_pe we_pe) (ev_op ha hb rv_I0)
theorem x_neg (ha : EV X a σ H (.int i)) : EV X (.UnaryOp .USub a pos) σ H (.int (-i)) := ev_of (pe_un un_neg we_pe) (ev_un ha ru_neg)
theorem x_inv (ha : EV X a σ H (.int i)) : EV X (.UnaryOp .Invert a pos) σ H (.int (Builtin.bitNot i)) := ev_of (pe_un un_inv we_pe) (ev_un ha fun H1 _ _ q => ⟨i, rfl, q H1 (Ex.refl H1)⟩)
theorem x_is (h : EV X a σ H v) (hv : v = z) : EV X a σ H z := hv ▸ h
theorem x_nat {n : Nat} (h : EV X a σ H (.int i)) (hv : i = (n : Int)) : EV X a σ H (.int (n : Int)) := hv ▸ h
/-! comparisons of ints as values and as tests -/
theorem b_lt (ha : EV X a σ H (.int i)) (hb : EV X b σ H (.int j)) : EB X (.Compare a [.Lt] [b] pos) σ H (i < j) := ⟨_, decide_eq_true_iff, ev_of (pe_cmpR op_lt we_pe we_pe (nomark _)) (ev_op ha hb rv_I0)⟩
theorem b_le (ha : EV X a σ H (.int i)) (hb : EV X b σ H (.int j)) : EB X (.Compare a [.LtE] [b] pos) σ H (i ≤ j) := ⟨_, decide_eq_true_iff, ev_of (pe_cmpR op_le we_pe we_pe (nomark _)) (ev_op ha hb rv_I0)⟩
theorem b_gt (ha : EV X a σ H (.int i)) (hb : EV X b σ H (.int j)) : EB X (.Compare a [.Gt] [b] pos) σ H (j < i) := ⟨_, decide_eq_true_iff, ev_of (pe_cmpR op_gt we_pe we_pe (nomark _)) (ev_op ha hb rv_I0)⟩
theorem b_ge (ha : EV X a σ H (.int i)) (hb : EV X b σ H (.int j)) : EB X (.Compare a [.GtE] [b] pos) σ H (j ≤ i) := ⟨_, decide_eq_true_iff, ev_of (pe_cmpR op_ge we_pe we_pe (nomark _)) (ev_op ha hb rv_I0)⟩
theorem vint {i j : Int} : V.int i = V.int j ↔ i = j := ⟨fun h => V.int.inj h, fun h => h ▸ rfl⟩
theorem b_eq (ha : EV X a σ H (.int i)) (hb : EV X b σ H (.int j)) : EB X (.Compare a [.Eq] [b] pos) σ H (i = j) := ⟨_, decide_eq_true_iff.trans vint, ev_of (pe_cmpR op_eq we_pe we_pe (nomark _)) (ev_op ha hb (rv_eq rfl))⟩
theorem t_lt (ha : EV X a σ H (.int i)) (hb : EV X b σ H (.int j)) : ET X (.Compare a [.Lt] [b] pos) σ H (i < j) := ⟨_, decide_eq_true_iff, et_of (pt_cmpR op_lt we_pe we_pe (nomark _)) (et_test (ev_op ha hb rv_I0))⟩
theorem t_le (ha : EV X a σ H (.int i)) (hb : EV X b σ H (.int j)) : ET X (.Compare a [.LtE] [b] pos) σ H (i ≤ j) := ⟨_, decide_eq_true_iff, et_of (pt_cmpR op_le we_pe we_pe (nomark _)) (et_test (ev_op ha hb rv_I0))⟩
theorem t_gt (ha : EV X a σ H (.int i)) (hb : EV X b σ H (.int j)) : ET X (.Compare a [.Gt] [b] pos) σ H (j < i) := ⟨_, decide_eq_true_iff, et_of (pt_cmpR op_gt we_pe we_pe (nomark _)) (et_test (ev_op ha hb rv_I0))⟩
theorem t_ge (ha : EV X a σ H (.int i)) (hb : EV X b σ H (.int j)) : ET X (.Compare a [.GtE] [b] pos) σ H (j ≤ i) := ⟨_, decide_eq_true_iff, et_of (pt_cmpR op_ge we_pe we_pe (nomark _)) (et_test (ev_op ha hb rv_I0))⟩
theorem t_eq (ha : EV X a σ H (.int i)) (hb : EV X b σ H (.int j)) : ET X (.Compare a [.Eq] [b] pos) σ H (i = j) := ⟨_, decide_eq_true_iff.trans vint, et_of (pt_cmpR op_eq we_pe we_pe (nomark _)) (et_test (ev_op ha hb (rv_eq rfl)))⟩
theorem t_ne (ha : EV X a σ H (.int i)) (hb : EV X b σ H (.int j)) : ET X (.Compare a [.NotEq] [b] pos) σ H (i ≠ j) := ⟨_, by
  rw [Bool.not_eq_true', decide_eq_false_iff_not, vint], et_of (pt_cmpR op_ne we_pe we_pe (nomark _)) (et_test (ev_op ha hb (rv_ne rfl)))⟩
/-- membership in a list of ints -/
theorem inV_int {i : Int} : ∀ {ns : List Int}, inV (.int i) (ns.map V.int) = true ↔ i ∈ ns := by
  intro ns
  unfold inV
  rw [List.any_eq_true]
  constructor
  · rintro ⟨w, hw, he⟩
    obtain ⟨n, hn, rfl⟩ := List.mem_map.mp hw
    have : n = i ∨ i = n := by
      simp [eqV] at he
      omega
    rcases this with rfl | rfl <;> exact hn
  · intro h
    exact ⟨.int i, List.mem_map.mpr ⟨i, h, rfl⟩, by simp [eqV]⟩
theorem flat_ints (ns : List Int) : (ns.map V.int).all flatV = true := by
  rw [List.all_map, List.all_eq_true]
  intro n _
  rfl
theorem t_inL {p : Addr} {ns : List Int} (ha : EV X a σ H (.int i)) (hb : EV X b σ H (.ref p)) (h : SqL X.K H p (ns.map V.int)) (hm : behindInMarks .In b = false := by rfl) : ET X (.Compare a [.In] [b] pos) σ H (i ∈ ns) :=
  ⟨_, inV_int, et_of (pt_cmpR op_in_seq we_pe we_pe hm) (et_test (ev_op ha hb (rv_isL h rfl (flat_ints _))))⟩
theorem t_inU {ns : List Int} (ha : EV X a σ H (.int i)) (hb : EU X b σ H (ns.map V.int)) (hm : behindInMarks .In b = false := by rfl) : ET X (.Compare a [.In] [b] pos) σ H (i ∈ ns) :=
  ⟨_, inV_int, et_of (pt_cmpR op_in_seq we_pe we_pe hm) (et_test (ev_inU ha hb rfl (flat_ints _)))⟩
/-! tests -/
variable {P Q : Prop}
theorem EB.t (h : EB X e σ H P) (he : ∀ whole, isTrue e X.env whole = (do let v ← whole; standAt e.pos; holding [v] (truthy v)) := by intro _; rfl) : ET X e σ H P := by
  obtain ⟨w, hw, h⟩ := h
  exact ⟨w, hw, et_of (pt_val we_pe he) (et_B h)⟩
theorem EB.of {w : Bool} (h : EV X e σ H (.bl w)) : EB X e σ H (w = true) := ⟨w, Iff.rfl, h⟩
theorem EB.is {P' : Prop} (h : EB X e σ H P) (hp : P ↔ P') : EB X e σ H P' := by
  obtain ⟨w, hw, h⟩ := h
  exact ⟨w, hw.trans hp, h⟩
theorem ET.is {P' : Prop} (h : ET X e σ H P) (hp : P ↔ P') : ET X e σ H P' := by
  obtain ⟨w, hw, h⟩ := h
  exact ⟨w, hw.trans hp, h⟩
theorem EB.vl {w : Bool} (h : EB X e σ H P) (hp : P ↔ w = true) : EV X e σ H (.bl w) := by
  obtain ⟨w', hw, h⟩ := h
  have : w' = w := Bool.eq_iff_iff.mpr (hw.trans hp)
  exact this ▸ h
theorem t_not (h : ET X a σ H P) : ET X (.UnaryOp .Not a pos) σ H (¬ P) := by
  obtain ⟨w, hw, h⟩ := h
  exact ⟨!w, by rw [← hw]; cases w <;> simp, et_of (pt_not wt_pt) (et_not h)⟩
theorem w_and1 (h : ET X a σ H P) : EW X (.BoolOp .And [a] pos) σ H P := by
  obtain ⟨w, hw, h⟩ := h
  exact ⟨w, hw, ew_of (pw_and1 wt_pt) h⟩
theorem w_or1 (h : ET X a σ H P) : EW X (.BoolOp .Or [a] pos) σ H P := by
  obtain ⟨w, hw, h⟩ := h
  exact ⟨w, hw, ew_of (pw_or1 wt_pt) h⟩
theorem w_and {rest : List Expr} (h : ET X a σ H P) (h2 : P → EW X (.BoolOp .And (b :: rest) pos) σ H Q) : EW X (.BoolOp .And (a :: b :: rest) pos) σ H (P ∧ Q) := by
  obtain ⟨w, hw, h⟩ := h
  by_cases hp : P
  · obtain ⟨w2, hw2, h2⟩ := h2 hp
    exact ⟨w && w2, by rw [Bool.and_eq_true, hw, hw2], ew_of (pw_and wt_pt ww_pw) (et_and h fun _ => h2)⟩
  · have e1 : w = false := by cases w <;> simp_all
    subst e1
    exact ⟨false && false, by simp [hp], ew_of (pw_and wt_pt ww_pw) (et_and h fun q => nomatch q)⟩
theorem w_or {rest : List Expr} (h : ET X a σ H P) (h2 : ¬ P → EW X (.BoolOp .Or (b :: rest) pos) σ H Q) : EW X (.BoolOp .Or (a :: b :: rest) pos) σ H (P ∨ Q) := by
  obtain ⟨w, hw, h⟩ := h
  by_cases hp : P
  · have e1 : w = true := hw.mpr hp
    subst e1
    exact ⟨true || true, by simp [hp], ew_of (pw_or wt_pt ww_pw) (et_or h fun q => nomatch q)⟩
  · obtain ⟨w2, hw2, h2⟩ := h2 hp
    exact ⟨w || w2, by rw [Bool.or_eq_true, hw, hw2], ew_of (pw_or wt_pt ww_pw) (et_or h fun _ => h2)⟩
theorem EW.t (h : EW X e σ H P) : ET X e σ H P := by
  obtain ⟨w, hw, h⟩ := h
  exact ⟨w, hw, et_of ww_pw.pt h⟩
theorem b_one {op : BoolOp} (h : EB X a σ H P) : EB X (.BoolOp op [a] pos) σ H P := by
  obtain ⟨w, hw, h⟩ := h
  exact ⟨w, hw, ev_of (pe_one we_pe) h⟩
theorem b_and {rest : List Expr} (h : EB X a σ H P) (h2 : P → EB X (.BoolOp .And (b :: rest) pos) σ H Q) : EB X (.BoolOp .And (a :: b :: rest) pos) σ H (P ∧ Q) := by
  obtain ⟨w, hw, h⟩ := h
  by_cases hp : P
  · obtain ⟨w2, hw2, h2⟩ := h2 hp
    exact ⟨w && w2, by rw [Bool.and_eq_true, hw, hw2], ev_of (pe_and we_pe we_pe) (ev_andV h fun _ => h2)⟩
  · have e1 : w = false := by cases w <;> simp_all
    subst e1
    exact ⟨false && false, by simp [hp], ev_of (pe_and we_pe we_pe) (ev_andV h fun q => nomatch q)⟩
/-! objects and lists -/
theorem x_fld {p C dx : Addr} {fs : List (Str × V)} {f : Str} (he : EV X e σ H (.ref p)) (hc : Cls X.K C) (hn : NoAttr X.K C f) (hp : H p = some (.ins C dx fs)) (hl : fs.lookup f = some v) (hb : attributeBase e f X.env (eval e X.env) = eval e X.env := by rfl) : EV X (.Attribute e f pos) σ H v :=
  ev_of (pe_fld we_pe hb) fun H1 e1 Q q => he H1 e1 _ fun H2 e2 => ⟨p, C, dx, fs, v, rfl, (e1.trans e2) p _ hp, hc, hn, hl, q H2 e2⟩
theorem x_ixL {p : Addr} {xs : List V} (ha : EV X a σ H (.ref p)) (hb : EV X b σ H (.int i)) (h : SqL X.K H p xs) (hv : atI xs i = some v) (hs : PlainIx b := by exact fun _ _ => rfl) : EV X (.Subscript a b pos) σ H v :=
  ev_of (pe_ix ix_list we_pe we_pe hs) (ev_op ha hb (rv_ixL h hv))
theorem x_ixT {p : Addr} {xs : List V} (ha : EV X a σ H (.ref p)) (hb : EV X b σ H (.int i)) (h : SqT X.K H p xs) (hv : atI xs i = some v) (hs : PlainIx b := by exact fun _ _ => rfl) : EV X (.Subscript a b pos) σ H v :=
  ev_of (pe_ix ix_tup we_pe we_pe hs) (ev_op ha hb (rv_ixT h hv))
theorem x_ixLN {xs : List V} (ha : EL X a σ H xs) (hb : EV X b σ H (.int i)) (hv : atI xs i = some v) (hs : PlainIx b := by exact fun _ _ => rfl) : EV X (.Subscript a b pos) σ H v :=
  ev_of (pe_ix ix_list we_pe we_pe hs) (ev_opL1 ha (fun H1 e1 => hb.mono e1) fun p H1 hp _ => rv_ixL (SqL.of hp) hv)
def notStar : Expr → Bool
  | .Starred .. => false
  | _ => true
theorem star_cons {env : Env} {e : Expr} {es : List Expr} (h : notStar e = true) : starEach (e :: es) env = (false, eval e env) :: starEach es env := by
  cases e <;> first | rfl | cases h
theorem a_nil : EA X [] σ H [] := ea_of pa_nil ea_nil
theorem a_cons (h : EV X e σ H v) (hr : EA X es σ H vs) (hs : starEach (e :: es) X.env = (false, eval e X.env) :: starEach es X.env := by exact star_cons rfl) : EA X (e :: es) σ H (v :: vs) := ea_of (pa_cons we_pe wa_pa hs) (ea_cons h hr)
theorem l_lst (h : EA X es σ H vs) (hl : vs.length ≤ 100000) : EL X (.List es pos) σ H vs := el_of (pe_lst wa_pa) fun H1 e Q q =>
  h H1 e _ fun H2 e2 => ⟨sz_of hl, fun p hp => q p _ (fresh_back e2 hp) (e2.trans (Ex.new hp)) upd_same⟩
theorem u_tup {x1} (h : EA X es σ H vs) (hl : vs.length ≤ 100000) : EU X (.Tuple es x1 pos) σ H vs := eu_of (pe_tup wa_pa) (eu_tup h hl)
/-- list + list, the left one new -/
theorem l_cat {xs ys : List V} {p : Addr} (ha : EL X a σ H xs) (hb : EV X b σ H (.ref p)) (h : H p = some (.lst ys)) (hl : xs.length + ys.length ≤ 100000) : EL X (.BinOp a .Add b pos) σ H (xs ++ ys) := el_of (pe_op op_cat we_pe we_pe) fun H1 e1 Q q =>
  ha H1 e1 _ fun p1 H2 hp1 e2 h2 => hb H2 (e1.trans e2) _ fun H3 e3 => ⟨p1, p, xs, ys, rfl, rfl, e3 _ _ h2, ((e1.trans e2).trans e3) _ _ h, sz_of hl, fun p2 hp2 => q p2 _ (fresh_back (e2.trans e3) hp2) ((e2.trans e3).trans (Ex.new hp2)) upd_same⟩
theorem l_catL {xs ys : List V} (ha : EL X a σ H xs) (hb : EL X b σ H ys) (hl : xs.length + ys.length ≤ 100000) : EL X (.BinOp a .Add b pos) σ H (xs ++ ys) := el_of (pe_op op_cat we_pe we_pe) fun H1 e1 Q q =>
  ha H1 e1 _ fun p1 H2 hp1 e2 h2 => hb H2 (e1.trans e2) _ fun p3 H3 hp3 e3 h3 => ⟨p1, p3, xs, ys, rfl, rfl, e3 _ _ h2, h3, sz_of hl, fun p2 hp2 => q p2 _ (fresh_back (e2.trans e3) hp2) ((e2.trans e3).trans (Ex.new hp2)) upd_same⟩
theorem l_cat2 {xs ys : List V} {p : Addr} (ha : EV X a σ H (.ref p)) (h : H p = some (.lst xs)) (hb : EL X b σ H ys) (hl : xs.length + ys.length ≤ 100000) : EL X (.BinOp a .Add b pos) σ H (xs ++ ys) := el_of (pe_op op_cat we_pe we_pe) fun H1 e1 Q q =>
  ha H1 e1 _ fun H2 e2 => hb H2 (e1.trans e2) _ fun p3 H3 hp3 e3 h3 => ⟨p, p3, xs, ys, rfl, rfl, ((e1.trans e2).trans e3) _ _ h, h3, sz_of hl, fun p2 hp2 => q p2 _ (fresh_back (e2.trans e3) hp2) ((e2.trans e3).trans (Ex.new hp2)) upd_same⟩
theorem EL.is {xs ys : List V} (h : EL X a σ H xs) (e : xs = ys) : EL X a σ H ys := e ▸ h
theorem EV.mono' {H' : Hp} (h : EV X a σ H v) (e1 : Ex H H') : EV X a σ H' v := Ev.mono e1 h
end

section
variable {X : Cx} {N : List Str} {sc : Scope} {k : Nat} {σ : L2.St} {H : Hp} {e a b c : Expr} {v x y z : V} {pos : Pos} {i j : Int} {es : List Expr} {vs : List V} {xn : Str} {P Q : Prop}
/-! ### calls of one's own defs -/
def Callee (X : Cx) (x : Str) (k : Nat) (sp : Sp) : Prop := ∃ (f : Addr) (fd : FuncData) (ps : List Str), FnOk X.prog X.w X.K X.mg X.base CX0 k f fd ps sp ∧ X.mg x = some (.ref f) ∧ PySem.W.keepIn X.K (.ref f) = true ∧ Binds X.K fd ps []
def spV (φ : List V → Hp → V → Prop) : Sp := fun vs H Q _ => ∃ v, φ vs H v ∧ ∀ H1, Ex H H1 → Q v H1
def spL (φ : List V → Hp → List V → Prop) : Sp := fun vs H Q _ => ∃ xs, φ vs H xs ∧ ∀ p H1, H p = none → Ex H H1 → H1 p = some (.lst xs) → Q (.ref p) H1
theorem XC.pc {sp : Sp} (C : XC X N sc k) (f : Callee X xn k sp) {t : TA} (ha : PA X (e :: es) t) (hg : GlS sc xn) (hdb : (xn == ("__debug__" : Str)) = false)
    (he : starEach (e :: es) X.env = (false, eval e X.env) :: starEach es X.env) (hpl : (backTo pos (starEach es X.env)).any (·.1) = false) {p : Pos} : PE X (.Call (.Name xn p) (e :: es) [] pos) (tCall sp [] E0 t) := by
  obtain ⟨f, fd, ps, F, hm, hk, hb⟩ := f
  exact pe_call F C.r (C.gl hg) hm hk hb .nil pass0 ha hdb he hpl
theorem XC.call {φ : List V → Hp → V → Prop} (C : XC X N sc k) (f : Callee X xn k (spV φ)) {p : Pos} (ha : EA X (e :: es) σ H vs) (hφ : ∀ H1, Ex H H1 → φ vs H1 v) (hg : GlS sc xn := by rfl) (hdb : (xn == ("__debug__" : Str)) = false := by decide)
    (he : starEach (e :: es) X.env = (false, eval e X.env) :: starEach es X.env := by exact star_cons rfl) (hpl : (backTo pos (starEach es X.env)).any (·.1) = false := by rfl) : EV X (.Call (.Name xn p) (e :: es) [] pos) σ H v :=
  ev_of (C.pc f wa_pa hg hdb he hpl) (ev_call ha fun H1 e1 Q q E => ⟨v, by rw [List.append_nil]; exact hφ H1 e1, q⟩)
theorem XC.callL {φ : List V → Hp → List V → Prop} {xs : List V} (C : XC X N sc k) (f : Callee X xn k (spL φ)) {p : Pos} (ha : EA X (e :: es) σ H vs) (hφ : ∀ H1, Ex H H1 → φ vs H1 xs) (hg : GlS sc xn := by rfl) (hdb : (xn == ("__debug__" : Str)) = false := by decide)
    (he : starEach (e :: es) X.env = (false, eval e X.env) :: starEach es X.env := by exact star_cons rfl) (hpl : (backTo pos (starEach es X.env)).any (·.1) = false := by rfl) : EL X (.Call (.Name xn p) (e :: es) [] pos) σ H xs :=
  el_of (C.pc f wa_pa hg hdb he hpl) (el_call ha fun H1 e1 Q q E => ⟨xs, by rw [List.append_nil]; exact hφ H1 e1, q⟩)
/-! ### built-ins -/
abbrev NoMg (X : Cx) (x : Str) : Prop := X.mg x = none
theorem XC.len {p : Addr} {xs : List V} (C : XC X N sc k) (hm : NoMg X "len") {pn : Pos} (ha : EV X e σ H (.ref p)) (h : SqL X.K H p xs) (hg : GlS sc "len" := by rfl) (he : starEach [e] X.env = [(false, eval e X.env)] := by rfl) : EV X (.Call (.Name "len" pn) [e] [] pos) σ H (.int (xs.length : Int)) :=
  ev_of (pe_callB call_len_seq (C.gl hg) hm PySem.boot_len (pa_cons we_pe pa_nil he) (he := he)) (Evl.ev_len ha h)
theorem XC.lenN {xs : List V} (C : XC X N sc k) (hm : NoMg X "len") {pn : Pos} (ha : EL X e σ H xs) (hg : GlS sc "len" := by rfl) (he : starEach [e] X.env = [(false, eval e X.env)] := by rfl) : EV X (.Call (.Name "len" pn) [e] [] pos) σ H (.int (xs.length : Int)) :=
  ev_of (pe_callB call_len_seq (C.gl hg) hm PySem.boot_len (pa_cons we_pe pa_nil he) (he := he)) (Evl.ev_lenN ha)
theorem XC.max2 (C : XC X N sc k) (hm : NoMg X "max") {pn : Pos} (ha : EV X a σ H (.int i)) (hb : EV X b σ H (.int j)) (hg : GlS sc "max" := by rfl) (he : starEach [a, b] X.env = [(false, eval a X.env), (false, eval b X.env)] := by rfl) (he2 : starEach [b] X.env = [(false, eval b X.env)] := by rfl) (hpl : (backTo pos (starEach [b] X.env)).any (·.1) = false := by rfl) :
    EV X (.Call (.Name "max" pn) [a, b] [] pos) σ H (.int (max i j)) := x_is
  (ev_of (pe_callB (call_max2 C.c) (C.gl hg) hm (by decide +kernel) (pa_cons we_pe (pa_cons we_pe pa_nil he2) (by rw [he, he2])) (he := by rw [he, he2]) (hpl := hpl)) (Evl.ev_max2 ha hb)) (by
    show V.int (if j > i then j else i) = V.int (max i j)
    congr 1
    rw [Int.max_def]
    split <;> split <;> omega)
theorem XC.min2 (C : XC X N sc k) (hm : NoMg X "min") {pn : Pos} (ha : EV X a σ H (.int i)) (hb : EV X b σ H (.int j)) (hg : GlS sc "min" := by rfl) (he : starEach [a, b] X.env = [(false, eval a X.env), (false, eval b X.env)] := by rfl) (he2 : starEach [b] X.env = [(false, eval b X.env)] := by rfl) (hpl : (backTo pos (starEach [b] X.env)).any (·.1) = false := by rfl) :
    EV X (.Call (.Name "min" pn) [a, b] [] pos) σ H (.int (min i j)) := x_is
  (ev_of (pe_callB (call_min2 C.c) (C.gl hg) hm (by decide +kernel) (pa_cons we_pe (pa_cons we_pe pa_nil he2) (by rw [he, he2])) (he := by rw [he, he2]) (hpl := hpl)) (v := .int (if j < i then j else i)) (fun H1 e Q q =>
  ha H1 e _ fun H2 e2 => hb H2 (e.trans e2) _ fun H3 e3 => ⟨i, j, rfl, q H3 (e2.trans e3)⟩)) (by
    show V.int (if j < i then j else i) = V.int (min i j)
    congr 1
    rw [Int.min_def]
    split <;> split <;> omega)
/-- min of a new list of ints -/
theorem XC.minL {ns : List Int} {m : Int} (C : XC X N sc k) (hm : NoMg X "min") {pn : Pos} (ha : EL X e σ H (ns.map V.int)) (h1 : m ∈ ns) (h2 : ∀ y ∈ ns, m ≤ y) (hg : GlS sc "min" := by rfl) (he : starEach [e] X.env = [(false, eval e X.env)] := by rfl) : EV X (.Call (.Name "min" pn) [e] [] pos) σ H (.int m) :=
  ev_of (pe_callB (cr_min C.c) (C.gl hg) hm (by decide +kernel) (pa_cons we_pe pa_nil he) (he := he)) (fun H1 e1 Q q => ha H1 e1 _ fun p H2 hp e2 h => ⟨p, ns, rfl, SqL.of h, List.length_pos_of_mem h1, fun m' hm' hy => by
    have : m' = m := Int.le_antisymm (hy m h1) (h2 m' hm')
    exact this ▸ q H2 e2⟩)
/-! ### comprehensions -/
def WB (X : Cx) (scope : Scope) (e : Expr) : TE := fun σ H Q => ∀ (s : Shared) (H0 : Hp) (C : Addr) (cl : List (Str × Addr)) (fp : List Addr), WE (X.blk s H0 scope (compEnvC scope cl C X.env) fp) e σ H Q
def WBT (X : Cx) (scope : Scope) (e : Expr) : TT := fun σ H Q => ∀ (s : Shared) (H0 : Hp) (C : Addr) (cl : List (Str × Addr)) (fp : List Addr), WT (X.blk s H0 scope (compEnvC scope cl C X.env) fp) e σ H Q
def tIfs (X : Cx) (scope : Scope) : List Expr → TT
  | [] => tYes
  | c :: _ => WBT X scope c
/-- a context within a comprehension of X's -/
structure XB (X Y : Cx) : Prop where
  same : ∃ s H0 scope cl C fp, Y = X.blk s H0 scope (compEnvC scope cl C X.env) fp
theorem XB.callee {Y : Cx} {sp : Sp} (h : XB X Y) (f : Callee X xn k sp) : Callee Y xn k sp := by
  obtain ⟨s, H0, scope, cl, C, fp, rfl⟩ := h.same
  exact f
theorem XB.kk {Y : Cx} (h : XB X Y) : Y.K = X.K := by
  obtain ⟨s, H0, scope, cl, C, fp, rfl⟩ := h.same
  rfl
theorem XB.mg {Y : Cx} (h : XB X Y) : Y.mg = X.mg := by
  obtain ⟨s, H0, scope, cl, C, fp, rfl⟩ := h.same
  rfl
/-- over range(n), one test or none -/
theorem XC.lcR {elt : Expr} {ifs : List Expr} {scope : Scope} {on : Str} {oi : Nat} {n : Nat} {f : Nat → Bool} {g : Nat → V} {lp tp p2 : Pos} (C : XC X N sc k) (hm : NoMg X "range") (ha : EV X a σ H (.int (n : Int))) (hn : n ≤ 40000) (ok : blkC N sc scope [(on, oi)] = true)
    (ho : N[oi]? = some on) (hl : scope.names.lookup on = some .local) (hw : ∀ x, wipe ((wipe σ [oi]).set oi (some x)) [oi] = wipe σ [oi])
    (ht : ∀ Y, XB X Y → XC Y N scope k → ∀ (i : Nat) H1, Ex H H1 → i < n → ∀ c ∈ ifs, ET Y c ((wipe σ [oi]).set oi (some (.int (i : Int)))) H1 (f i = true)) (h1 : ifs.length = 1 ∨ (ifs = [] ∧ ∀ i, f i = true))
    (hv : ∀ Y, XB X Y → XC Y N scope k → ∀ (i : Nat) H1, Ex H H1 → i < n → f i = true → EV Y elt ((wipe σ [oi]).set oi (some (.int (i : Int)))) H1 (g i))
    (hg : GlS sc "range" := by rfl) (he : starEach [a] X.env = [(false, eval a X.env)] := by rfl) : EL X (.ListComp elt [⟨.Name on tp, .Call (.Name "range" p2) [a] [] lp, ifs, 0⟩] scope pos) σ H (given n f g) := by
  have blk := blkOk_by ok
  have xc := fun s H0 Ca cl fp => C.blk scope s H0 Ca cl fp
  have hA : EA X [a] σ H [.int (n : Int)] := a_cons ha a_nil he
  have blkX : BlkOk X.N X.env.scope scope [(on, oi)] := by
    rw [C.n]
    exact ⟨blk.kind, blk.uniq, blk.ix, fun y hy e => C.cel _ (blk.free y hy e), blk.own⟩
  have key : EvL (tLc (iRng1 (WA X [a])) (gName oi) (tIfs X scope ifs) (WB X scope elt) [oi]) σ H (given n f g) := by
    have := el_lcR1 (t := (tIfs X scope ifs)) (te := WB X scope elt) (σ := σ) (H := H) (ta := WA X [a]) (j := oi) (vs := [oi]) (n := (n : Int)) f g hA (by omega) hw (fun i H1 e1 hi => by
      rcases h1 with h1 | ⟨rfl, h1⟩
      · match ifs, h1 with
        | [c], _ =>
          intro H2 e2 Q q s H0 Ca cl fp
          obtain ⟨w, hw', hE⟩ := ht _ ⟨s, H0, scope, cl, Ca, fp, rfl⟩ (xc s H0 Ca cl fp) i H1 e1 (by omega) c (List.mem_singleton.mpr rfl)
          have ew : w = f i := Bool.eq_iff_iff.mpr hw'
          exact hE H2 e2 Q (fun H3 e3 => ew ▸ q H3 e3)
      · intro H2 e2 Q q
        show Q true H2
        exact h1 i ▸ q H2 (Ex.refl H2)) (fun i H1 e1 hi hf => by
        intro H2 e2 Q q s H0 Ca cl fp
        exact hv _ ⟨s, H0, scope, cl, Ca, fp, rfl⟩ (xc s H0 Ca cl fp) i H1 e1 (by omega) hf H2 e2 Q q)
    rwa [Int.toNat_natCast] at this
  refine el_of (pe_lc (own := [(on, oi)]) (g := gName oi) (wi := iRng1 (WA X [a])) (tt := (tIfs X scope ifs)) (te := WB X scope elt) C.c (by rw [C.n]; exact C.nd) (pi_range1 (C.gl hg) hm wa_pa he) blkX (fun s H0 Ca cl fp => ?_) (fun s H0 Ca cl fp => ?_) (fun s H0 Ca cl fp => ?_)) key
  · exact pg_name (by show X.N.Nodup; rw [C.n]; exact C.nd) (by show X.N[oi]? = _; rw [C.n]; exact ho) (Or.inl ((xc s H0 Ca cl fp).loc _ hl)) (Or.inr ((xc s H0 Ca cl fp).loc _ hl))
  · rcases h1 with h1 | ⟨rfl, h1⟩
    · match ifs, h1 with
      | [c], _ => exact pts_one ⟨fun pins s' _ _ _ I h => h s H0 Ca cl fp pins s' I⟩
    · exact pts_nil
  · exact ⟨fun pins s' _ _ _ I h => h s H0 Ca cl fp pins s' I⟩
/-- over a list (one that stands, or a new one) -/
theorem XC.lcL {elt it : Expr} {ifs : List Expr} {scope : Scope} {on : Str} {oi : Nat} {xs : List V} {f : Nat → Bool} {g : Nat → V} {tp : Pos} (C : XC X N sc k) (ha : (∃ p, EV X it σ H (.ref p) ∧ SqL X.K H p xs) ∨ EL X it σ H xs) (hn : xs.length ≤ 40000) (ok : blkC N sc scope [(on, oi)] = true)
    (ho : N[oi]? = some on) (hl : scope.names.lookup on = some .local) (hw : ∀ x, wipe ((wipe σ [oi]).set oi (some x)) [oi] = wipe σ [oi])
    (ht : ∀ Y, XB X Y → XC Y N scope k → ∀ (i : Nat) (x : V) H1, Ex H H1 → xs[i]? = some x → ∀ c ∈ ifs, ET Y c ((wipe σ [oi]).set oi (some x)) H1 (f i = true)) (h1 : ifs.length = 1 ∨ (ifs = [] ∧ ∀ i, f i = true))
    (hv : ∀ Y, XB X Y → XC Y N scope k → ∀ (i : Nat) (x : V) H1, Ex H H1 → xs[i]? = some x → f i = true → EV Y elt ((wipe σ [oi]).set oi (some x)) H1 (g i))
    (hs : ∀ x, foldedSetIterable it X.env x = pure x := by intro _; rfl) : EL X (.ListComp elt [⟨.Name on tp, it, ifs, 0⟩] scope pos) σ H (given xs.length f g) := by
  have xc := fun s H0 Ca cl fp => C.blk scope s H0 Ca cl fp
  have blkX : BlkOk X.N X.env.scope scope [(on, oi)] := by
    have blk := blkOk_by ok
    rw [C.n]
    exact ⟨blk.kind, blk.uniq, blk.ix, fun y hy e => C.cel _ (blk.free y hy e), blk.own⟩
  have kt : ∀ (i : Nat) (x : V) H1, Ex H H1 → xs[i]? = some x → EvT (tIfs X scope ifs) ((wipe σ [oi]).set oi (some x)) H1 (f i) := fun i x H1 e1 hi => by
    rcases h1 with h1 | ⟨rfl, h1⟩
    · match ifs, h1 with
      | [c], _ =>
        intro H2 e2 Q q s H0 Ca cl fp
        obtain ⟨w, hw', hE⟩ := ht _ ⟨s, H0, scope, cl, Ca, fp, rfl⟩ (xc s H0 Ca cl fp) i x H1 e1 hi c (List.mem_singleton.mpr rfl)
        have ew : w = f i := Bool.eq_iff_iff.mpr hw'
        exact hE H2 e2 Q (fun H3 e3 => ew ▸ q H3 e3)
    · intro H2 e2 Q q
      show Q true H2
      exact h1 i ▸ q H2 (Ex.refl H2)
  have kv : ∀ (i : Nat) (x : V) H1, Ex H H1 → xs[i]? = some x → f i = true → Ev (WB X scope elt) ((wipe σ [oi]).set oi (some x)) H1 (g i) := fun i x H1 e1 hi hf => by
    intro H2 e2 Q q s H0 Ca cl fp
    exact hv _ ⟨s, H0, scope, cl, Ca, fp, rfl⟩ (xc s H0 Ca cl fp) i x H1 e1 hi hf H2 e2 Q q
  have key : EvL (tLc (iList X.K (WE X it)) (gName oi) (tIfs X scope ifs) (WB X scope elt) [oi]) σ H (given xs.length f g) := by
    rcases ha with ⟨p, ha, hx⟩ | ha
    · exact el_lcL f g ha hx hn hw kt kv
    · exact el_lcNL f g ha hn hw kt kv
  refine el_of (pe_lc (own := [(on, oi)]) (g := gName oi) (wi := iList X.K (WE X it)) (tt := (tIfs X scope ifs)) (te := WB X scope elt) C.c (by rw [C.n]; exact C.nd) (pi_list we_pe) blkX (fun s H0 Ca cl fp => ?_) (fun s H0 Ca cl fp => ?_) (fun s H0 Ca cl fp => ?_) hs) key
  · exact pg_name (by show X.N.Nodup; rw [C.n]; exact C.nd) (by show X.N[oi]? = _; rw [C.n]; exact ho) (Or.inl ((xc s H0 Ca cl fp).loc _ hl)) (Or.inr ((xc s H0 Ca cl fp).loc _ hl))
  · rcases h1 with h1 | ⟨rfl, h1⟩
    · match ifs, h1 with
      | [c], _ => exact pts_one ⟨fun pins s' _ _ _ I h => h s H0 Ca cl fp pins s' I⟩
    · exact pts_nil
  · exact ⟨fun pins s' _ _ _ I h => h s H0 Ca cl fp pins s' I⟩
end

/-! ### blocks -/
section
variable {X : Cx} {N : List Str} {sc : Scope} {k : Nat} {σ : L2.St} {H : Hp} {e a b c : Expr} {v x y z : V} {pos : Pos} {i j : Int} {es : List Expr} {vs : List V} {xn : Str} {P Q : Prop} {rest sts els : List Stmt} {D : Ends}
theorem BS.mono {H' : Hp} (h : BS X sts D σ H) (e1 : Ex H H') : BS X sts D σ H' := fun H2 e2 => h H2 (e1.trans e2)
theorem b_nil (h : ∀ H1, Ex H H1 → D.nx σ H1) : BS X [] D σ H := fun H1 e1 pins s I => pss_nil.run pins s σ H1 D I (h H1 e1)
theorem bs_cons {st : Stmt} {t : TS} (h : PS X st t) (q : ∀ H1, Ex H H1 → t { D with nx := WS X rest D } σ H1) : BS X (st :: rest) D σ H := fun H1 e1 pins s I =>
  (pss_cons h ws_ps).run pins s σ H1 D I (q H1 e1)
theorem b_ret (h : EV X e σ H v) (q : ∀ H1, Ex H H1 → D.rt v H1) : BS X (.Return (some e) pos :: rest) D σ H := bs_cons (ps_ret we_pe) fun H1 e1 => h H1 e1 _ fun H2 e2 => q H2 (e1.trans e2)
theorem b_retL (h : EL X e σ H vs) (q : ∀ p H1, H p = none → Ex H H1 → H1 p = some (.lst vs) → D.rt (.ref p) H1) : BS X (.Return (some e) pos :: rest) D σ H := bs_cons (ps_ret we_pe) fun H1 e1 => h H1 e1 _ fun p H2 hp e2 h2 => q p H2 (fresh_back e1 hp) (e1.trans e2) h2
theorem b_if {p2 : Prop} (h : ET X c σ H p2) (h1 : p2 → BS X sts { D with nx := WS X rest D } σ H) (h2 : ¬ p2 → BS X els { D with nx := WS X rest D } σ H) : BS X (.If c sts els pos :: rest) D σ H := by
  obtain ⟨w, hw, h⟩ := h
  refine bs_cons (ps_if wt_pt ws_ps ws_ps) fun H1 e1 => h H1 e1 _ fun H2 e2 => ?_
  cases w with
  | true => exact h1 (hw.mp rfl) H2 (e1.trans e2)
  | false => exact h2 (fun q => nomatch hw.mpr q) H2 (e1.trans e2)
/-- an if without else -/
theorem b_when {p2 : Prop} (h : ET X c σ H p2) (h1 : p2 → BS X sts { D with nx := WS X rest D } σ H) (h2 : ¬ p2 → BS X rest D σ H) : BS X (.If c sts [] pos :: rest) D σ H :=
  b_if h h1 fun q => b_nil fun H1 e1 => h2 q H1 e1
/-- behind a block within a block -/
theorem b_fall (h : BS X rest D σ H) : BS X [] { D with nx := WS X rest D } σ H := b_nil h
theorem b_asg (C : XC X N sc k) (i : Nat) {p : Pos} (h : EV X e σ H v) (q : BS X rest D (σ.set i (some v)) H) (hi : N[i]? = some xn := by rfl) (hl : sc.names.lookup xn = some .local ∨ (sc.names.lookup xn = some .cell ∧ X.fn xn = true) := by exact Or.inl rfl) (hs : swapsWith e (some (.Name xn p)) pos.line X.env = pure false := by rfl) : BS X (.Assign [.Name xn p] e pos :: rest) D σ H :=
  bs_cons (ps_set (by rw [C.n]; exact C.nd) (by rw [C.n]; exact hi) (hl.imp (C.loc _) fun z => C.cll _ z.1) we_pe hs (hl.elim (fun z => Or.inr (C.loc _ z)) fun z => Or.inl z.2)) fun H1 e1 => h H1 e1 _ fun H2 e2 => q H2 (e1.trans e2)
theorem b_asgL (C : XC X N sc k) (i : Nat) {p : Pos} (h : EL X e σ H vs) (q : ∀ p H1, H p = none → Ex H H1 → H1 p = some (.lst vs) → BS X rest D (σ.set i (some (.ref p))) H1) (hi : N[i]? = some xn := by rfl) (hl : sc.names.lookup xn = some .local ∨ (sc.names.lookup xn = some .cell ∧ X.fn xn = true) := by exact Or.inl rfl)
    (hs : swapsWith e (some (.Name xn p)) pos.line X.env = pure false := by rfl) : BS X (.Assign [.Name xn p] e pos :: rest) D σ H :=
  bs_cons (ps_set (by rw [C.n]; exact C.nd) (by rw [C.n]; exact hi) (hl.imp (C.loc _) fun z => C.cll _ z.1) we_pe hs (hl.elim (fun z => Or.inr (C.loc _ z)) fun z => Or.inl z.2)) fun H1 e1 => h H1 e1 _ fun p H2 hp e2 h2 => q p H2 (fresh_back e1 hp) (e1.trans e2) h2 H2 (Ex.refl H2)
/-- a field's store -/
theorem b_fld {o : Expr} {f : Str} {p2 : Pos} {p C dx : Addr} {fs : List (Str × V)} (hv : EV X e σ H v) (ho : EV X o σ H (.ref p)) (hp : H p = some (.ins C dx fs)) (hc : Cls X.K C) (hn : NoAttr X.K C f) (hl : fs.length < 1000) (q : ∀ H1, Ex H H1 → BS X rest D σ (upd H1 p (.ins C dx (putF f v fs))))
    (hs : swapsWith e (some (.Attribute o f p2)) pos.line X.env = pure false := by rfl) : BS X (.Assign [.Attribute o f p2] e pos :: rest) D σ H :=
  bs_cons (ps_fld we_pe we_pe hs) fun H1 e1 => hv H1 e1 _ fun H2 e2 => ho H2 (e1.trans e2) _ fun H3 e3 => ⟨p, C, dx, fs, rfl, ((e1.trans e2).trans e3) p _ hp, hc, hn, hl, q H3 ((e1.trans e2).trans e3) _ (Ex.refl _)⟩
/-- for x in a list that stays -/
theorem b_forL {it : Expr} {p2 : Pos} {p : Addr} {xs : List V} (C : XC X N sc k) (i : Nat) (hl : EV X it σ H (.ref p)) (hx : SqL X.K H p xs) (I : Nat → L2.St → Hp → Prop) (h0 : ∀ H1, Ex H H1 → I 0 σ H1) (hk : ∀ n σ' H', I n σ' H' → Ex H H')
    (hs : ∀ n x σ' H', xs[n]? = some x → I n σ' H' → BS X sts { D with nx := I (n + 1), ct := I (n + 1), bk := WS X rest D } (σ'.set i (some x)) H') (hd : ∀ σ' H', I xs.length σ' H' → BS X rest D σ' H')
    (hi : N[i]? = some xn := by rfl) (hn : sc.names.lookup xn = some .local := by rfl) (hf : ∀ x, foldedSetIterable it X.env x = pure x := by intro _; rfl) : BS X (.For (.Name xn p2) it sts [] pos :: rest) D σ H :=
  bs_cons (ps_for C.po C.c (pi_list we_pe) (pg_name (by rw [C.n]; exact C.nd) (by rw [C.n]; exact hi) (Or.inl (C.loc _ hn)) (Or.inr (C.loc _ hn))) ws_ps hf) fun H1 e1 =>
    s_forLn (D := { D with nx := WS X rest D }) (j := i) (Ev.mono e1 hl) (ex_l e1 hx) I (fun H2 e2 => h0 H2 (e1.trans e2)) (fun n σ' H' _ h => ex_l (hk n σ' H' h) hx) (fun n x σ' H' hx' h => hs n x σ' H' hx' h H' (Ex.refl H')) fun σ' H' h => hd σ' H' h H' (Ex.refl H')
/-- for i in range(n) -/
theorem b_forR {p2 p3 p4 : Pos} {n : Nat} (C : XC X N sc k) (i : Nat) (hm : NoMg X "range") (ha : EV X a σ H (.int (n : Int))) (hn : n ≤ 100000) (I : Nat → L2.St → Hp → Prop) (h0 : ∀ H1, Ex H H1 → I 0 σ H1)
    (hs : ∀ m σ' H', m < n → I m σ' H' → BS X sts { D with nx := I (m + 1), ct := I (m + 1), bk := WS X rest D } (σ'.set i (some (.int (m : Int)))) H') (hd : ∀ σ' H', I n σ' H' → BS X rest D σ' H')
    (hi : N[i]? = some xn := by rfl) (hl : sc.names.lookup xn = some .local := by rfl) (hg : GlS sc "range" := by rfl) (he : starEach [a] X.env = [(false, eval a X.env)] := by rfl) (hf : ∀ x, foldedSetIterable (.Call (.Name "range" p3) [a] [] p4) X.env x = pure x := by intro _; rfl) :
    BS X (.For (.Name xn p2) (.Call (.Name "range" p3) [a] [] p4) sts [] pos :: rest) D σ H :=
  bs_cons (ps_for C.po C.c (pi_range1 (C.gl hg) hm wa_pa he) (pg_name (by rw [C.n]; exact C.nd) (by rw [C.n]; exact hi) (Or.inl (C.loc _ hl)) (Or.inr (C.loc _ hl))) ws_ps hf) fun H1 e1 =>
    s_forR1 (D := { D with nx := WS X rest D }) (j := i) (n := (n : Int)) (EvA.mono e1 (a_cons ha a_nil he)) (by omega) I (fun H2 e2 => h0 H2 (e1.trans e2)) (fun m σ' H' hm' h => hs m σ' H' (by omega) h H' (Ex.refl H')) fun σ' H' h => hd σ' H' (by rwa [Int.toNat_natCast] at h) H' (Ex.refl H')
/-- while, by a measure -/
theorem b_while (C : XC X N sc k) (I : Nat → L2.St → Hp → Prop) (m0 : Nat) (h0 : ∀ H1, Ex H H1 → I m0 σ H1)
    (hs : ∀ m σ' H', I m σ' H' → ∃ p2 : Prop, ET X c σ' H' p2 ∧ (p2 → BS X sts { D with nx := fun σ2 H2 => ∃ m', m' < m ∧ I m' σ2 H2, ct := fun σ2 H2 => ∃ m', m' < m ∧ I m' σ2 H2, bk := WS X rest D } σ' H') ∧ (¬ p2 → BS X rest D σ' H')) : BS X (.While c sts [] pos :: rest) D σ H :=
  bs_cons (ps_while C.po wt_pt ws_ps) fun H1 e1 => s_while (D := { D with nx := WS X rest D }) I m0 (h0 H1 e1) fun m σ' H' h => by
    obtain ⟨p2, ⟨w, hw, ht⟩, h1, h2⟩ := hs m σ' H' h
    exact ⟨w, ht, fun ew H2 e2 => ⟨_, fun _ _ q => q, h1 (hw.mp ew) H2 e2⟩, fun ew H2 e2 => h2 (fun q => by rw [hw.mpr q] at ew; cases ew) H2 e2⟩
/-- xs.append(e) -/
theorem b_app {o : Expr} {p2 p3 : Pos} {l : Addr} {xs : List V} (ho : EV X o σ H (.ref l)) (hl : H l = some (.lst xs)) (h : EV X e σ H v) (hz : xs.length < 100000) (q : ∀ H1, Ex H H1 → BS X rest D σ (upd H1 l (.lst (xs ++ [v]))))
    (hs : swapsWith (.Call (.Attribute o "append" p2) [e] [] p3) none pos.line X.env = pure false := by rfl) (he : starEach [e] X.env = [(false, eval e X.env)] := by rfl)
    (h3 : PE X (.Call (.Attribute o "append" p2) [e] [] p3) (tBM X.K "list" rAppend (WE X o) (tCons (WE X e) tNil)) := by exact pe_bm PySem.F.plainAttrs_list PySem.F.slot_list_append PySem.F.type_list_append mt_append we_pe (pa_cons we_pe pa_nil)) : BS X (.Expr (.Call (.Attribute o "append" p2) [e] [] p3) pos :: rest) D σ H :=
  bs_cons (ps_expr h3 hs) fun H1 e1 => s_app (D := { D with nx := WS X rest D }) (e1 l _ hl) (Ev.mono e1 ho) (Ev.mono e1 h) hz fun H2 e2 => q H2 (e1.trans e2) _ (Ex.refl _)
/-- xs.extend(ys) -/
theorem b_ext {o : Expr} {p2 p3 : Pos} {l b : Addr} {xs ys : List V} (ho : EV X o σ H (.ref l)) (hl : H l = some (.lst xs)) (h : EV X e σ H (.ref b)) (hb : H b = some (.lst ys)) (hz : xs.length + ys.length ≤ sizeLine) (q : ∀ H1, Ex H H1 → BS X rest D σ (upd H1 l (.lst (xs ++ ys))))
    (hs : swapsWith (.Call (.Attribute o "extend" p2) [e] [] p3) none pos.line X.env = pure false := by rfl) (he : starEach [e] X.env = [(false, eval e X.env)] := by rfl)
    (h3 : PE X (.Call (.Attribute o "extend" p2) [e] [] p3) (tBM X.K "list" rExtend (WE X o) (tCons (WE X e) tNil)) := by exact pe_bm PySem.F.plainAttrs_list PySem.F.slot_list_extend PySem.F.type_list_extend mt_extend we_pe (pa_cons we_pe pa_nil)) : BS X (.Expr (.Call (.Attribute o "extend" p2) [e] [] p3) pos :: rest) D σ H :=
  bs_cons (ps_expr h3 hs) fun H1 e1 => ho H1 e1 _ fun H2 e2 => ⟨Or.inl ⟨rfl, xs, SqL.of ((e1.trans e2) l _ hl)⟩, h H2 (e1.trans e2) _ fun H3 e3 => ⟨l, b, xs, ys, rfl, rfl, ((e1.trans e2).trans e3) l _ hl, ((e1.trans e2).trans e3) b _ hb, hz, q H3 ((e1.trans e2).trans e3) _ (Ex.refl _)⟩⟩
/-- xs[i] = a new object or a value -/
theorem b_setL {o ix : Expr} {p2 : Pos} {l : Addr} {xs : List V} {j : Nat} (h : ∀ H1, Ex H H1 → WE X e σ H1 fun v H2 => Ex H1 H2 ∧ ∀ H3, Ex H2 H3 → BS X rest D σ (upd H3 l (.lst (xs.set j v)))) (ho : EV X o σ H (.ref l)) (hi : EV X ix σ H (.int (j : Int))) (hl : H l = some (.lst xs)) (hj : j < xs.length)
    (hs : swapsWithSole [.Subscript o ix p2] e pos.line X.env = pure false := by rfl) (hw : swappedStores [.Subscript o ix p2] e X.env = pure none := by rfl)
    (h3 : PG X (.Subscript o ix p2) (gSub (WE X o) (WE X ix) rSetL) := by exact pg_sub we_pe we_pe set_list) (h4 : (assignEach [.Subscript o ix p2] X.env).map (·.2) = [assign (.Subscript o ix p2) X.env] := by rfl) : BS X (.Assign [.Subscript o ix p2] e pos :: rest) D σ H :=
  bs_cons (ps_asg we_pe h3 hs hw h4) fun H1 e1 => fun pins s I => wpAny_mono (h H1 e1 pins s I) (fun u s1 ⟨v, H2, I2, r2, e2, q⟩ => ⟨v, H2, I2, r2, (ho H2 (e1.trans e2) _ fun H3 e3 => hi H3 ((e1.trans e2).trans e3) _ fun H4 e4 =>
    ⟨l, xs, (j : Int), j, rfl, rfl, (((e1.trans e2).trans e3).trans e4) l _ hl, ixN_nat hj, q H4 (e3.trans e4) _ (Ex.refl _)⟩)⟩) fun _ _ z => z
end
end Jd
namespace Jd
open PySem PySem.Spec PyProof.Rows L2 Evl Kp332
def top (i : Nat) : Stmt := PySem.Challenge.pw_justthisdeed_s01_answers.main.body.getD i (.Pass ⟨0, 0, 0, 0⟩)
/-- where something of the book stands -/
inductive Pl where
  | b | lr | la | ls | ld | r (k : Nat) | a (k : Nat) | u (k : Nat) | g (k : Nat) | c (k : Nat) | d (k : Nat)
  deriving DecidableEq
structure Ad where
  at_ : Pl → Addr
  dx : Pl → Addr
structure Cs where
  cB : Addr
  cR : Addr
  cA : Addr
  cS : Addr
  cD : Addr
def nums (l : List Nat) : List V := l.map fun (n : Nat) => V.int (n : Int)
theorem nums_ints (l : List Nat) : nums l = (l.map fun (n : Nat) => (n : Int)).map V.int := by
  unfold nums
  rw [List.map_map]
  rfl
def refs (A : Ad) (n : Nat) (f : Nat → Pl) : List V := (List.range n).map fun k => V.ref (A.at_ (f k))
theorem refs_at {A : Ad} {n k : Nat} {f : Nat → Pl} (h : k < n) : (refs A n f)[k]? = some (V.ref (A.at_ (f k))) := by
  unfold refs
  rw [List.getElem?_map, List.getElem?_range h]
  rfl
theorem refs_len {A : Ad} {n : Nat} {f : Nat → Pl} : (refs A n f).length = n := by
  unfold refs
  rw [List.length_map, List.length_range]
theorem refs_succ {A : Ad} {n : Nat} {f : Nat → Pl} : refs A (n + 1) f = refs A n f ++ [V.ref (A.at_ (f n))] := by
  unfold refs
  rw [List.range_succ, List.map_append]
  rfl
theorem refs_congr {A A' : Ad} {n : Nat} {f : Nat → Pl} (h : ∀ k, k < n → A'.at_ (f k) = A.at_ (f k)) : refs A' n f = refs A n f := by
  unfold refs
  refine List.map_congr_left fun k hk => ?_
  rw [h k (List.mem_range.mp hk)]
theorem nums_at {l : List Nat} {k n : Nat} (h : l[k]? = some n) : (nums l)[k]? = some (V.int (n : Int)) := by
  unfold nums
  rw [List.getElem?_map, h]
  rfl
theorem nums_len {l : List Nat} : (nums l).length = l.length := by
  unfold nums
  rw [List.length_map]
def fsB (A : Ad) (h : House) : List (Str × V) := [(("people" : Str), V.int (h.n : Int)), (("day" : Str), V.int (h.day : Int)), (("rules" : Str), V.ref (A.at_ .lr)), (("asked" : Str), V.ref (A.at_ .la)), (("standing" : Str), V.ref (A.at_ .ls)), (("deeds" : Str), V.ref (A.at_ .ld))]
def fsR (A : Ad) (k : Nat) (R : Kp332.Rule) : List (Str × V) := [(("may" : Str), V.int (R.may : Int)), (("need" : Str), V.int (R.need : Int)), (("free" : Str), V.int (R.free : Int)), (("daily" : Str), V.int (R.day : Int)), (("lives" : Str), V.int (R.lives : Int))]
def fsA (A : Ad) (k : Nat) (R : Kp332.Asked) : List (Str × V) := [(("asker" : Str), V.int (R.asker : Int)), (("kind" : Str), V.int (R.kind : Int)), (("number" : Str), V.int (R.x : Int)), (("amount" : Str), V.int (R.amount : Int)), (("told" : Str), V.int (R.told : Int)), (("said" : Str), V.int (R.yes : Int)), (("uses" : Str), V.ref (A.at_ (.u k))), (("stage" : Str), V.int (R.state : Int))]
def fsS (A : Ad) (k : Nat) (R : Kp332.Grant) : List (Str × V) := [(("kind" : Str), V.int (R.kind : Int)), (("giver" : Str), V.int (R.giver : Int)), (("holder" : Str), V.int (R.taker : Int)), (("each" : Str), V.int (R.each : Int)), (("total" : Str), V.int (R.total : Int)), (("till" : Str), V.int (R.till : Int)), (("chain" : Str), V.ref (A.at_ (.c k))), (("taken_back" : Str), V.bl R.back)]
def fsD (A : Ad) (k : Nat) (R : Kp332.Deed) : List (Str × V) := [(("asked" : Str), V.int (R.asked : Int)), (("day" : Str), V.int (R.day : Int)), (("counted" : Str), V.int (R.who : Int))]
/-- what stands there -/
def cont (C : Cs) (A : Ad) (h : House) : Pl → Option HO
  | .b => some (.ins C.cB (A.dx .b) (fsB A h))
  | .lr => some (.lst (refs A h.rules.length .r))
  | .la => some (.lst (refs A h.asked.length .a))
  | .ls => some (.lst (refs A h.grants.length .g))
  | .ld => some (.lst (refs A h.done.length .d))
  | .r k => h.rules[k]?.map fun R => .ins C.cR (A.dx (.r k)) (fsR A k R)
  | .a k => h.asked[k]?.map fun R => .ins C.cA (A.dx (.a k)) (fsA A k R)
  | .u k => h.asked[k]?.map fun R => .lst (nums R.uses)
  | .g k => h.grants[k]?.map fun R => .ins C.cS (A.dx (.g k)) (fsS A k R)
  | .c k => h.grants[k]?.map fun _ => .lst (nums (Kp332.chain h k))
  | .d k => h.done[k]?.map fun R => .ins C.cD (A.dx (.d k)) (fsD A k R)
/-- whether something stands there -/
def okp (h : House) : Pl → Prop
  | .b | .lr | .la | .ls | .ld => True
  | .r k => k < h.rules.length
  | .a k | .u k => k < h.asked.length
  | .g k | .c k => k < h.grants.length
  | .d k => k < h.done.length
theorem okp_cont {C : Cs} {A : Ad} {h : House} {pl : Pl} (hp : okp h pl) : ∃ o, cont C A h pl = some o := by
  cases pl with
  | b => exact ⟨_, rfl⟩
  | lr => exact ⟨_, rfl⟩
  | la => exact ⟨_, rfl⟩
  | ls => exact ⟨_, rfl⟩
  | ld => exact ⟨_, rfl⟩
  | r k => obtain ⟨x, e⟩ := get_some (show k < h.rules.length from hp); exact ⟨_, by show Option.map _ _ = _; rw [e]; rfl⟩
  | a k => obtain ⟨x, e⟩ := get_some (show k < h.asked.length from hp); exact ⟨_, by show Option.map _ _ = _; rw [e]; rfl⟩
  | u k => obtain ⟨x, e⟩ := get_some (show k < h.asked.length from hp); exact ⟨_, by show Option.map _ _ = _; rw [e]; rfl⟩
  | g k => obtain ⟨x, e⟩ := get_some (show k < h.grants.length from hp); exact ⟨_, by show Option.map _ _ = _; rw [e]; rfl⟩
  | c k => obtain ⟨x, e⟩ := get_some (show k < h.grants.length from hp); exact ⟨_, by show Option.map _ _ = _; rw [e]; rfl⟩
  | d k => obtain ⟨x, e⟩ := get_some (show k < h.done.length from hp); exact ⟨_, by show Option.map _ _ = _; rw [e]; rfl⟩
theorem cont_okp {C : Cs} {A : Ad} {h : House} {pl : Pl} {o : HO} (hp : cont C A h pl = some o) : okp h pl := by
  have key : ∀ {α : Type} {l : List α} {k : Nat} {f : α → HO}, l[k]?.map f = some o → k < l.length := fun {α l k f} e => by
    cases q : l[k]? with
    | none => rw [q] at e; cases e
    | some x => exact some_lt q
  cases pl with
  | r k => exact key hp
  | a k => exact key hp
  | u k => exact key hp
  | g k => exact key hp
  | c k => exact key hp
  | d k => exact key hp
  | b => trivial
  | lr => trivial
  | la => trivial
  | ls => trivial
  | ld => trivial
/-- the book of the house h stands at A; F stands beside it -/
structure Rep (C : Cs) (H : Hp) (A : Ad) (h : House) (F : Hp) : Prop where
  at_ : ∀ pl o, cont C A h pl = some o → H (A.at_ pl) = some o
  inj : ∀ pl pl', okp h pl → okp h pl' → A.at_ pl = A.at_ pl' → pl = pl'
  fr : ∀ p o, F p = some o → H p = some o ∧ ∀ pl, okp h pl → A.at_ pl ≠ p
structure Bk (C : Cs) (H : Hp) (A : Ad) (h : House) (F : Hp) : Prop where
  rep : Rep C H A h F
  wf : Wf h
theorem Rep.mono {C : Cs} {H H' : Hp} {A : Ad} {h : House} {F : Hp} (B : Rep C H A h F) (e : Ex H H') : Rep C H' A h F :=
  ⟨fun pl o q => e _ _ (B.at_ pl o q), B.inj, fun p o q => ⟨e _ _ (B.fr p o q).1, (B.fr p o q).2⟩⟩
theorem Bk.mono {C : Cs} {H H' : Hp} {A : Ad} {h : House} {F : Hp} (B : Bk C H A h F) (e : Ex H H') : Bk C H' A h F := ⟨B.rep.mono e, B.wf⟩
/-- what of the text is wanted -/
structure TxG (K : PySem.W.Frag) (mg : Str → Option Value) (C : Cs) : Prop where
  kB : Cls K C.cB
  nbP : NoAttr K C.cB "people"
  nbD : NoAttr K C.cB "day"
  nbR : NoAttr K C.cB "rules"
  nbA : NoAttr K C.cB "asked"
  nbS : NoAttr K C.cB "standing"
  nbE : NoAttr K C.cB "deeds"
  kR : Cls K C.cR
  nrM : NoAttr K C.cR "may"
  nrN : NoAttr K C.cR "need"
  nrF : NoAttr K C.cR "free"
  nrD : NoAttr K C.cR "daily"
  nrL : NoAttr K C.cR "lives"
  kA : Cls K C.cA
  naA : NoAttr K C.cA "asker"
  naK : NoAttr K C.cA "kind"
  naN : NoAttr K C.cA "number"
  naM : NoAttr K C.cA "amount"
  naT : NoAttr K C.cA "told"
  naS : NoAttr K C.cA "said"
  naU : NoAttr K C.cA "uses"
  naG : NoAttr K C.cA "stage"
  kS : Cls K C.cS
  nsK : NoAttr K C.cS "kind"
  nsG : NoAttr K C.cS "giver"
  nsH : NoAttr K C.cS "holder"
  nsE : NoAttr K C.cS "each"
  nsT : NoAttr K C.cS "total"
  nsL : NoAttr K C.cS "till"
  nsC : NoAttr K C.cS "chain"
  nsB : NoAttr K C.cS "taken_back"
  kD : Cls K C.cD
  ndA : NoAttr K C.cD "asked"
  ndD : NoAttr K C.cD "day"
  ndC : NoAttr K C.cD "counted"
  m_len : mg "len" = none
  m_max : mg "max" = none
  m_min : mg "min" = none
  m_range : mg "range" = none
  m_sorted : mg "sorted" = none
  MOST_AMOUNT : ∃ t, mg "MOST_AMOUNT" = some (.int 1000000 t)
  OPEN : ∃ t, mg "OPEN" = some (.int 0 t)
  DONE : ∃ t, mg "DONE" = some (.int 1 t)
  REFUSED : ∃ t, mg "REFUSED" = some (.int 2 t)
  WITHDRAWN : ∃ t, mg "WITHDRAWN" = some (.int 3 t)
  NO_SUCH : ∃ t, mg "NO_SUCH" = some (.int 2 t)
  NOT_OPEN : ∃ t, mg "NOT_OPEN" = some (.int 6 t)
  TOO_OLD : ∃ t, mg "TOO_OLD" = some (.int 8 t)
  OTHER_NUMBERS : ∃ t, mg "OTHER_NUMBERS" = some (.int 9 t)
  NOT_BEGUN : ∃ t, mg "NOT_BEGUN" = some (.int 11 t)
  WRONG_PERSON : ∃ t, mg "WRONG_PERSON" = some (.int 12 t)
  NOT_ALLOWED : ∃ t, mg "NOT_ALLOWED" = some (.int 13 t)
  NOT_HOLDING : ∃ t, mg "NOT_HOLDING" = some (.int 14 t)
  MORE_THAN_IT_HAS : ∃ t, mg "MORE_THAN_IT_HAS" = some (.int 15 t)
  ALREADY : ∃ t, mg "ALREADY" = some (.int 17 t)
  WRONG_VALUE : ∃ t, mg "WRONG_VALUE" = some (.int 22 t)
  NO_MORE : ∃ t, mg "NO_MORE" = some (.int 28 t)
  MOST_ASKED : ∃ t, mg "MOST_ASKED" = some (.int 12 t)
  LONGEST_TICK : ∃ t, mg "LONGEST_TICK" = some (.int 30 t)
  MOST_KINDS : ∃ t, mg "MOST_KINDS" = some (.int 4 t)
  MOST_NEED : ∃ t, mg "MOST_NEED" = some (.int 3 t)
  LONGEST_LIFE : ∃ t, mg "LONGEST_LIFE" = some (.int 30 t)
  MOST_STANDING : ∃ t, mg "MOST_STANDING" = some (.int 10 t)
  MOST_USED : ∃ t, mg "MOST_USED" = some (.int 3 t)
  MOST_PEOPLE : ∃ t, mg "MOST_PEOPLE" = some (.int 8 t)
  BEGIN : ∃ t, mg "BEGIN" = some (.int 0 t)
  RULE : ∃ t, mg "RULE" = some (.int 1 t)
  RERULE : ∃ t, mg "RERULE" = some (.int 2 t)
  ASK : ∃ t, mg "ASK" = some (.int 3 t)
  CHANGE : ∃ t, mg "CHANGE" = some (.int 4 t)
  YES : ∃ t, mg "YES" = some (.int 5 t)
  NO : ∃ t, mg "NO" = some (.int 6 t)
  WITHDRAW : ∃ t, mg "WITHDRAW" = some (.int 7 t)
  GRANT : ∃ t, mg "GRANT" = some (.int 8 t)
  HAND : ∃ t, mg "HAND" = some (.int 9 t)
  REVOKE : ∃ t, mg "REVOKE" = some (.int 10 t)
  USE : ∃ t, mg "USE" = some (.int 11 t)
  DO : ∃ t, mg "DO" = some (.int 12 t)
  COULD : ∃ t, mg "COULD" = some (.int 13 t)
  LACKS : ∃ t, mg "LACKS" = some (.int 14 t)
  COUNTS : ∃ t, mg "COUNTS" = some (.int 15 t)
  MAYSAY : ∃ t, mg "MAYSAY" = some (.int 16 t)
  CAN : ∃ t, mg "CAN" = some (.int 17 t)
  TICK : ∃ t, mg "TICK" = some (.int 18 t)
  LIVES : ∃ t, mg "LIVES" = some (.int 19 t)
  ROOM : ∃ t, mg "ROOM" = some (.int 20 t)
  ROOT : ∃ t, mg "ROOT" = some (.int 21 t)
  UNDER : ∃ t, mg "UNDER" = some (.int 22 t)
  CHAIN : ∃ t, mg "CHAIN" = some (.int 23 t)
  DRAWN : ∃ t, mg "DRAWN" = some (.int 24 t)
  LEFT : ∃ t, mg "LEFT" = some (.int 25 t)
  MOST : ∃ t, mg "MOST" = some (.int 26 t)
  SUM_OF : ∃ t, mg "SUM_OF" = some (.int 27 t)
  IFYES : ∃ t, mg "IFYES" = some (.int 28 t)
  LOG : ∃ t, mg "LOG" = some (.int 29 t)
  ASKED : ∃ t, mg "ASKED" = some (.int 31 t)
  GRANTIS : ∃ t, mg "GRANTIS" = some (.int 32 t)
  RULEIS : ∃ t, mg "RULEIS" = some (.int 33 t)
  TODAY : ∃ t, mg "TODAY" = some (.int 34 t)
abbrev TxC (X : Cx) (C : Cs) : Prop := TxG X.K X.mg C
theorem XB.t {X Y : Cx} {C : Cs} (h : XB X Y) (T : TxC X C) : TxC Y C := by
  obtain ⟨s, H0, scope, cl, Ca, fp, rfl⟩ := h.same
  exact T
/-- where a def's body stands -/
structure W (X : Cx) (N : List Str) (sc : Scope) (k : Nat) (C : Cs) (H : Hp) (A : Ad) (h : House) (F : Hp) : Prop where
  x : XC X N sc k
  t : TxC X C
  b : Bk C H A h F
section
variable {X : Cx} {N : List Str} {sc : Scope} {j : Nat} {C : Cs} {H : Hp} {A : Ad} {h : House} {F : Hp} {σ : L2.St} {e i : Expr} {pos : Pos} {k : Nat} {v : V} {xn : Str}
theorem W.mono {H' : Hp} (w : W X N sc j C H A h F) (e1 : Ex H H') : W X N sc j C H' A h F := ⟨w.x, w.t, w.b.mono e1⟩
theorem W.at_ {H' : Hp} {A' : Ad} {h' : House} {F' : Hp} (w : W X N sc j C H A h F) (B : Bk C H' A' h' F') : W X N sc j C H' A' h' F' := ⟨w.x, w.t, B⟩
theorem W.blk {Y : Cx} {sc' : Scope} (w : W X N sc j C H A h F) (y : XB X Y) (c : XC Y N sc' j) : W Y N sc' j C H A h F := ⟨c, y.t w.t, w.b⟩
theorem W.s (w : W X N sc j C H A h F) (i : Nat) (hN : N[i]? = some xn := by rfl) (hv : Vis sc xn := by first | exact Or.inl rfl | exact Or.inr (Or.inl rfl) | exact Or.inr (Or.inr rfl)) (hσ : σ[i]? = some (some v) := by rfl)
    (hd : (xn == ("__debug__" : Str)) = false := by decide) (hcd : (xn == ("__classdict__" : Str)) = false := by decide) : EV X (.Name xn pos) σ H v := w.x.lv i hN hv hσ hd hcd
theorem W.bP (w : W X N sc j C H A h F) (he : EV X e σ H (.ref (A.at_ .b))) (hb : attributeBase e "people" X.env (eval e X.env) = eval e X.env := by rfl) : EV X (.Attribute e "people" pos) σ H (.int (h.n : Int)) := x_fld he w.t.kB w.t.nbP (w.b.rep.at_ .b _ rfl) (by rfl) hb
theorem W.bD (w : W X N sc j C H A h F) (he : EV X e σ H (.ref (A.at_ .b))) (hb : attributeBase e "day" X.env (eval e X.env) = eval e X.env := by rfl) : EV X (.Attribute e "day" pos) σ H (.int (h.day : Int)) := x_fld he w.t.kB w.t.nbD (w.b.rep.at_ .b _ rfl) (by rfl) hb
theorem W.bR (w : W X N sc j C H A h F) (he : EV X e σ H (.ref (A.at_ .b))) (hb : attributeBase e "rules" X.env (eval e X.env) = eval e X.env := by rfl) : EV X (.Attribute e "rules" pos) σ H (.ref (A.at_ .lr)) := x_fld he w.t.kB w.t.nbR (w.b.rep.at_ .b _ rfl) (by rfl) hb
theorem W.bA (w : W X N sc j C H A h F) (he : EV X e σ H (.ref (A.at_ .b))) (hb : attributeBase e "asked" X.env (eval e X.env) = eval e X.env := by rfl) : EV X (.Attribute e "asked" pos) σ H (.ref (A.at_ .la)) := x_fld he w.t.kB w.t.nbA (w.b.rep.at_ .b _ rfl) (by rfl) hb
theorem W.bS (w : W X N sc j C H A h F) (he : EV X e σ H (.ref (A.at_ .b))) (hb : attributeBase e "standing" X.env (eval e X.env) = eval e X.env := by rfl) : EV X (.Attribute e "standing" pos) σ H (.ref (A.at_ .ls)) := x_fld he w.t.kB w.t.nbS (w.b.rep.at_ .b _ rfl) (by rfl) hb
theorem W.bE (w : W X N sc j C H A h F) (he : EV X e σ H (.ref (A.at_ .b))) (hb : attributeBase e "deeds" X.env (eval e X.env) = eval e X.env := by rfl) : EV X (.Attribute e "deeds" pos) σ H (.ref (A.at_ .ld)) := x_fld he w.t.kB w.t.nbE (w.b.rep.at_ .b _ rfl) (by rfl) hb
theorem W.rM (w : W X N sc j C H A h F) (he : EV X e σ H (.ref (A.at_ (.r k)))) (hk : k < h.rules.length := by first | assumption | omega) (hb : attributeBase e "may" X.env (eval e X.env) = eval e X.env := by rfl) : EV X (.Attribute e "may" pos) σ H (.int ((ruleAt h k).may : Int)) := x_fld (fs := fsR A k (ruleAt h k)) he w.t.kR w.t.nrM (w.b.rep.at_ (.r k) _ (by show Option.map _ _ = _; rw [rule_at hk]; rfl)) (by rfl) hb
theorem W.rN (w : W X N sc j C H A h F) (he : EV X e σ H (.ref (A.at_ (.r k)))) (hk : k < h.rules.length := by first | assumption | omega) (hb : attributeBase e "need" X.env (eval e X.env) = eval e X.env := by rfl) : EV X (.Attribute e "need" pos) σ H (.int ((ruleAt h k).need : Int)) := x_fld (fs := fsR A k (ruleAt h k)) he w.t.kR w.t.nrN (w.b.rep.at_ (.r k) _ (by show Option.map _ _ = _; rw [rule_at hk]; rfl)) (by rfl) hb
theorem W.rF (w : W X N sc j C H A h F) (he : EV X e σ H (.ref (A.at_ (.r k)))) (hk : k < h.rules.length := by first | assumption | omega) (hb : attributeBase e "free" X.env (eval e X.env) = eval e X.env := by rfl) : EV X (.Attribute e "free" pos) σ H (.int ((ruleAt h k).free : Int)) := x_fld (fs := fsR A k (ruleAt h k)) he w.t.kR w.t.nrF (w.b.rep.at_ (.r k) _ (by show Option.map _ _ = _; rw [rule_at hk]; rfl)) (by rfl) hb
theorem W.rD (w : W X N sc j C H A h F) (he : EV X e σ H (.ref (A.at_ (.r k)))) (hk : k < h.rules.length := by first | assumption | omega) (hb : attributeBase e "daily" X.env (eval e X.env) = eval e X.env := by rfl) : EV X (.Attribute e "daily" pos) σ H (.int ((ruleAt h k).day : Int)) := x_fld (fs := fsR A k (ruleAt h k)) he w.t.kR w.t.nrD (w.b.rep.at_ (.r k) _ (by show Option.map _ _ = _; rw [rule_at hk]; rfl)) (by rfl) hb
theorem W.rL (w : W X N sc j C H A h F) (he : EV X e σ H (.ref (A.at_ (.r k)))) (hk : k < h.rules.length := by first | assumption | omega) (hb : attributeBase e "lives" X.env (eval e X.env) = eval e X.env := by rfl) : EV X (.Attribute e "lives" pos) σ H (.int ((ruleAt h k).lives : Int)) := x_fld (fs := fsR A k (ruleAt h k)) he w.t.kR w.t.nrL (w.b.rep.at_ (.r k) _ (by show Option.map _ _ = _; rw [rule_at hk]; rfl)) (by rfl) hb
theorem W.aA (w : W X N sc j C H A h F) (he : EV X e σ H (.ref (A.at_ (.a k)))) (hk : k < h.asked.length := by first | assumption | omega) (hb : attributeBase e "asker" X.env (eval e X.env) = eval e X.env := by rfl) : EV X (.Attribute e "asker" pos) σ H (.int ((askedAt h k).asker : Int)) := x_fld (fs := fsA A k (askedAt h k)) he w.t.kA w.t.naA (w.b.rep.at_ (.a k) _ (by show Option.map _ _ = _; rw [asked_at hk]; rfl)) (by rfl) hb
theorem W.aK (w : W X N sc j C H A h F) (he : EV X e σ H (.ref (A.at_ (.a k)))) (hk : k < h.asked.length := by first | assumption | omega) (hb : attributeBase e "kind" X.env (eval e X.env) = eval e X.env := by rfl) : EV X (.Attribute e "kind" pos) σ H (.int ((askedAt h k).kind : Int)) := x_fld (fs := fsA A k (askedAt h k)) he w.t.kA w.t.naK (w.b.rep.at_ (.a k) _ (by show Option.map _ _ = _; rw [asked_at hk]; rfl)) (by rfl) hb
theorem W.aN (w : W X N sc j C H A h F) (he : EV X e σ H (.ref (A.at_ (.a k)))) (hk : k < h.asked.length := by first | assumption | omega) (hb : attributeBase e "number" X.env (eval e X.env) = eval e X.env := by rfl) : EV X (.Attribute e "number" pos) σ H (.int ((askedAt h k).x : Int)) := x_fld (fs := fsA A k (askedAt h k)) he w.t.kA w.t.naN (w.b.rep.at_ (.a k) _ (by show Option.map _ _ = _; rw [asked_at hk]; rfl)) (by rfl) hb
theorem W.aM (w : W X N sc j C H A h F) (he : EV X e σ H (.ref (A.at_ (.a k)))) (hk : k < h.asked.length := by first | assumption | omega) (hb : attributeBase e "amount" X.env (eval e X.env) = eval e X.env := by rfl) : EV X (.Attribute e "amount" pos) σ H (.int ((askedAt h k).amount : Int)) := x_fld (fs := fsA A k (askedAt h k)) he w.t.kA w.t.naM (w.b.rep.at_ (.a k) _ (by show Option.map _ _ = _; rw [asked_at hk]; rfl)) (by rfl) hb
theorem W.aT (w : W X N sc j C H A h F) (he : EV X e σ H (.ref (A.at_ (.a k)))) (hk : k < h.asked.length := by first | assumption | omega) (hb : attributeBase e "told" X.env (eval e X.env) = eval e X.env := by rfl) : EV X (.Attribute e "told" pos) σ H (.int ((askedAt h k).told : Int)) := x_fld (fs := fsA A k (askedAt h k)) he w.t.kA w.t.naT (w.b.rep.at_ (.a k) _ (by show Option.map _ _ = _; rw [asked_at hk]; rfl)) (by rfl) hb
theorem W.aS (w : W X N sc j C H A h F) (he : EV X e σ H (.ref (A.at_ (.a k)))) (hk : k < h.asked.length := by first | assumption | omega) (hb : attributeBase e "said" X.env (eval e X.env) = eval e X.env := by rfl) : EV X (.Attribute e "said" pos) σ H (.int ((askedAt h k).yes : Int)) := x_fld (fs := fsA A k (askedAt h k)) he w.t.kA w.t.naS (w.b.rep.at_ (.a k) _ (by show Option.map _ _ = _; rw [asked_at hk]; rfl)) (by rfl) hb
theorem W.aU (w : W X N sc j C H A h F) (he : EV X e σ H (.ref (A.at_ (.a k)))) (hk : k < h.asked.length := by first | assumption | omega) (hb : attributeBase e "uses" X.env (eval e X.env) = eval e X.env := by rfl) : EV X (.Attribute e "uses" pos) σ H (.ref (A.at_ (.u k))) := x_fld (fs := fsA A k (askedAt h k)) he w.t.kA w.t.naU (w.b.rep.at_ (.a k) _ (by show Option.map _ _ = _; rw [asked_at hk]; rfl)) (by rfl) hb
theorem W.aG (w : W X N sc j C H A h F) (he : EV X e σ H (.ref (A.at_ (.a k)))) (hk : k < h.asked.length := by first | assumption | omega) (hb : attributeBase e "stage" X.env (eval e X.env) = eval e X.env := by rfl) : EV X (.Attribute e "stage" pos) σ H (.int ((askedAt h k).state : Int)) := x_fld (fs := fsA A k (askedAt h k)) he w.t.kA w.t.naG (w.b.rep.at_ (.a k) _ (by show Option.map _ _ = _; rw [asked_at hk]; rfl)) (by rfl) hb
theorem W.sK (w : W X N sc j C H A h F) (he : EV X e σ H (.ref (A.at_ (.g k)))) (hk : k < h.grants.length := by first | assumption | omega) (hb : attributeBase e "kind" X.env (eval e X.env) = eval e X.env := by rfl) : EV X (.Attribute e "kind" pos) σ H (.int ((grantAt h k).kind : Int)) := x_fld (fs := fsS A k (grantAt h k)) he w.t.kS w.t.nsK (w.b.rep.at_ (.g k) _ (by show Option.map _ _ = _; rw [grant_at hk]; rfl)) (by rfl) hb
theorem W.sG (w : W X N sc j C H A h F) (he : EV X e σ H (.ref (A.at_ (.g k)))) (hk : k < h.grants.length := by first | assumption | omega) (hb : attributeBase e "giver" X.env (eval e X.env) = eval e X.env := by rfl) : EV X (.Attribute e "giver" pos) σ H (.int ((grantAt h k).giver : Int)) := x_fld (fs := fsS A k (grantAt h k)) he w.t.kS w.t.nsG (w.b.rep.at_ (.g k) _ (by show Option.map _ _ = _; rw [grant_at hk]; rfl)) (by rfl) hb
theorem W.sH (w : W X N sc j C H A h F) (he : EV X e σ H (.ref (A.at_ (.g k)))) (hk : k < h.grants.length := by first | assumption | omega) (hb : attributeBase e "holder" X.env (eval e X.env) = eval e X.env := by rfl) : EV X (.Attribute e "holder" pos) σ H (.int ((grantAt h k).taker : Int)) := x_fld (fs := fsS A k (grantAt h k)) he w.t.kS w.t.nsH (w.b.rep.at_ (.g k) _ (by show Option.map _ _ = _; rw [grant_at hk]; rfl)) (by rfl) hb
theorem W.sE (w : W X N sc j C H A h F) (he : EV X e σ H (.ref (A.at_ (.g k)))) (hk : k < h.grants.length := by first | assumption | omega) (hb : attributeBase e "each" X.env (eval e X.env) = eval e X.env := by rfl) : EV X (.Attribute e "each" pos) σ H (.int ((grantAt h k).each : Int)) := x_fld (fs := fsS A k (grantAt h k)) he w.t.kS w.t.nsE (w.b.rep.at_ (.g k) _ (by show Option.map _ _ = _; rw [grant_at hk]; rfl)) (by rfl) hb
theorem W.sT (w : W X N sc j C H A h F) (he : EV X e σ H (.ref (A.at_ (.g k)))) (hk : k < h.grants.length := by first | assumption | omega) (hb : attributeBase e "total" X.env (eval e X.env) = eval e X.env := by rfl) : EV X (.Attribute e "total" pos) σ H (.int ((grantAt h k).total : Int)) := x_fld (fs := fsS A k (grantAt h k)) he w.t.kS w.t.nsT (w.b.rep.at_ (.g k) _ (by show Option.map _ _ = _; rw [grant_at hk]; rfl)) (by rfl) hb
theorem W.sL (w : W X N sc j C H A h F) (he : EV X e σ H (.ref (A.at_ (.g k)))) (hk : k < h.grants.length := by first | assumption | omega) (hb : attributeBase e "till" X.env (eval e X.env) = eval e X.env := by rfl) : EV X (.Attribute e "till" pos) σ H (.int ((grantAt h k).till : Int)) := x_fld (fs := fsS A k (grantAt h k)) he w.t.kS w.t.nsL (w.b.rep.at_ (.g k) _ (by show Option.map _ _ = _; rw [grant_at hk]; rfl)) (by rfl) hb
theorem W.sC (w : W X N sc j C H A h F) (he : EV X e σ H (.ref (A.at_ (.g k)))) (hk : k < h.grants.length := by first | assumption | omega) (hb : attributeBase e "chain" X.env (eval e X.env) = eval e X.env := by rfl) : EV X (.Attribute e "chain" pos) σ H (.ref (A.at_ (.c k))) := x_fld (fs := fsS A k (grantAt h k)) he w.t.kS w.t.nsC (w.b.rep.at_ (.g k) _ (by show Option.map _ _ = _; rw [grant_at hk]; rfl)) (by rfl) hb
theorem W.sB (w : W X N sc j C H A h F) (he : EV X e σ H (.ref (A.at_ (.g k)))) (hk : k < h.grants.length := by first | assumption | omega) (hb : attributeBase e "taken_back" X.env (eval e X.env) = eval e X.env := by rfl) : EV X (.Attribute e "taken_back" pos) σ H (.bl (grantAt h k).back) := x_fld (fs := fsS A k (grantAt h k)) he w.t.kS w.t.nsB (w.b.rep.at_ (.g k) _ (by show Option.map _ _ = _; rw [grant_at hk]; rfl)) (by rfl) hb
theorem W.dA (w : W X N sc j C H A h F) (he : EV X e σ H (.ref (A.at_ (.d k)))) (hk : k < h.done.length := by first | assumption | omega) (hb : attributeBase e "asked" X.env (eval e X.env) = eval e X.env := by rfl) : EV X (.Attribute e "asked" pos) σ H (.int ((deedAt h k).asked : Int)) := x_fld (fs := fsD A k (deedAt h k)) he w.t.kD w.t.ndA (w.b.rep.at_ (.d k) _ (by show Option.map _ _ = _; rw [deed_at hk]; rfl)) (by rfl) hb
theorem W.dD (w : W X N sc j C H A h F) (he : EV X e σ H (.ref (A.at_ (.d k)))) (hk : k < h.done.length := by first | assumption | omega) (hb : attributeBase e "day" X.env (eval e X.env) = eval e X.env := by rfl) : EV X (.Attribute e "day" pos) σ H (.int ((deedAt h k).day : Int)) := x_fld (fs := fsD A k (deedAt h k)) he w.t.kD w.t.ndD (w.b.rep.at_ (.d k) _ (by show Option.map _ _ = _; rw [deed_at hk]; rfl)) (by rfl) hb
theorem W.dC (w : W X N sc j C H A h F) (he : EV X e σ H (.ref (A.at_ (.d k)))) (hk : k < h.done.length := by first | assumption | omega) (hb : attributeBase e "counted" X.env (eval e X.env) = eval e X.env := by rfl) : EV X (.Attribute e "counted" pos) σ H (.int ((deedAt h k).who : Int)) := x_fld (fs := fsD A k (deedAt h k)) he w.t.kD w.t.ndC (w.b.rep.at_ (.d k) _ (by show Option.map _ _ = _; rw [deed_at hk]; rfl)) (by rfl) hb
theorem W.qR (w : W X N sc j C H A h F) : H (A.at_ .lr) = some (.lst (refs A h.rules.length .r)) := w.b.rep.at_ .lr _ rfl
theorem W.iR (w : W X N sc j C H A h F) (he : EV X e σ H (.ref (A.at_ .lr))) (hi : EV X i σ H (.int (k : Int))) (hk : k < h.rules.length := by first | assumption | omega) (hs : PlainIx i := by exact fun _ _ => rfl) : EV X (.Subscript e i pos) σ H (.ref (A.at_ (.r k))) := x_ixL he hi (SqL.of w.qR) (atI_nat (refs_at hk)) hs
theorem W.nR {pn : Pos} (w : W X N sc j C H A h F) (he : EV X e σ H (.ref (A.at_ .lr))) (hg : GlS sc "len" := by rfl) (h2 : starEach [e] X.env = [(false, eval e X.env)] := by rfl) : EV X (.Call (.Name "len" pn) [e] [] pos) σ H (.int (h.rules.length : Int)) := x_is (w.x.len w.t.m_len he (SqL.of w.qR) hg h2) (by rw [refs_len])
theorem W.qA (w : W X N sc j C H A h F) : H (A.at_ .la) = some (.lst (refs A h.asked.length .a)) := w.b.rep.at_ .la _ rfl
theorem W.iA (w : W X N sc j C H A h F) (he : EV X e σ H (.ref (A.at_ .la))) (hi : EV X i σ H (.int (k : Int))) (hk : k < h.asked.length := by first | assumption | omega) (hs : PlainIx i := by exact fun _ _ => rfl) : EV X (.Subscript e i pos) σ H (.ref (A.at_ (.a k))) := x_ixL he hi (SqL.of w.qA) (atI_nat (refs_at hk)) hs
theorem W.nA {pn : Pos} (w : W X N sc j C H A h F) (he : EV X e σ H (.ref (A.at_ .la))) (hg : GlS sc "len" := by rfl) (h2 : starEach [e] X.env = [(false, eval e X.env)] := by rfl) : EV X (.Call (.Name "len" pn) [e] [] pos) σ H (.int (h.asked.length : Int)) := x_is (w.x.len w.t.m_len he (SqL.of w.qA) hg h2) (by rw [refs_len])
theorem W.qS (w : W X N sc j C H A h F) : H (A.at_ .ls) = some (.lst (refs A h.grants.length .g)) := w.b.rep.at_ .ls _ rfl
theorem W.iS (w : W X N sc j C H A h F) (he : EV X e σ H (.ref (A.at_ .ls))) (hi : EV X i σ H (.int (k : Int))) (hk : k < h.grants.length := by first | assumption | omega) (hs : PlainIx i := by exact fun _ _ => rfl) : EV X (.Subscript e i pos) σ H (.ref (A.at_ (.g k))) := x_ixL he hi (SqL.of w.qS) (atI_nat (refs_at hk)) hs
theorem W.nS {pn : Pos} (w : W X N sc j C H A h F) (he : EV X e σ H (.ref (A.at_ .ls))) (hg : GlS sc "len" := by rfl) (h2 : starEach [e] X.env = [(false, eval e X.env)] := by rfl) : EV X (.Call (.Name "len" pn) [e] [] pos) σ H (.int (h.grants.length : Int)) := x_is (w.x.len w.t.m_len he (SqL.of w.qS) hg h2) (by rw [refs_len])
theorem W.qE (w : W X N sc j C H A h F) : H (A.at_ .ld) = some (.lst (refs A h.done.length .d)) := w.b.rep.at_ .ld _ rfl
theorem W.iE (w : W X N sc j C H A h F) (he : EV X e σ H (.ref (A.at_ .ld))) (hi : EV X i σ H (.int (k : Int))) (hk : k < h.done.length := by first | assumption | omega) (hs : PlainIx i := by exact fun _ _ => rfl) : EV X (.Subscript e i pos) σ H (.ref (A.at_ (.d k))) := x_ixL he hi (SqL.of w.qE) (atI_nat (refs_at hk)) hs
theorem W.nE {pn : Pos} (w : W X N sc j C H A h F) (he : EV X e σ H (.ref (A.at_ .ld))) (hg : GlS sc "len" := by rfl) (h2 : starEach [e] X.env = [(false, eval e X.env)] := by rfl) : EV X (.Call (.Name "len" pn) [e] [] pos) σ H (.int (h.done.length : Int)) := x_is (w.x.len w.t.m_len he (SqL.of w.qE) hg h2) (by rw [refs_len])
theorem W.qU (w : W X N sc j C H A h F) (hk : k < h.asked.length) : H (A.at_ (.u k)) = some (.lst (nums (askedAt h k).uses)) := w.b.rep.at_ (.u k) _ (by show Option.map _ _ = _; rw [asked_at hk]; rfl)
theorem W.qC (w : W X N sc j C H A h F) (hk : k < h.grants.length) : H (A.at_ (.c k)) = some (.lst (nums (Kp332.chain h k))) := w.b.rep.at_ (.c k) _ (by show Option.map _ _ = _; rw [grant_at hk]; rfl)
end
end Jd
namespace Jd
open PySem PySem.Spec PyProof.Rows L2 Evl Kp332
abbrev s_iR : Stmt := inClass (top 6) 0
abbrev N_iR : List Str := [("self" : Str), ("may" : Str), ("need" : Str), ("free" : Str), ("daily" : Str), ("lives" : Str)]
theorem f_iR : FnScope N_iR [("self" : Str), ("may" : Str), ("need" : Str), ("free" : Str), ("daily" : Str), ("lives" : Str)] (defScope s_iR) := ⟨rfl, rfl, rfl, by decide +kernel, rfl, by decide +kernel, by decide +kernel⟩
abbrev s_iA : Stmt := inClass (top 7) 0
abbrev N_iA : List Str := [("self" : Str), ("asker" : Str), ("kind" : Str), ("number" : Str), ("amount" : Str), ("told" : Str)]
theorem f_iA : FnScope N_iA [("self" : Str), ("asker" : Str), ("kind" : Str), ("number" : Str), ("amount" : Str), ("told" : Str)] (defScope s_iA) := ⟨rfl, rfl, rfl, by decide +kernel, rfl, by decide +kernel, by decide +kernel⟩
abbrev s_iS : Stmt := inClass (top 8) 0
abbrev N_iS : List Str := [("self" : Str), ("kind" : Str), ("giver" : Str), ("holder" : Str), ("each" : Str), ("total" : Str), ("till" : Str), ("chain" : Str)]
theorem f_iS : FnScope N_iS [("self" : Str), ("kind" : Str), ("giver" : Str), ("holder" : Str), ("each" : Str), ("total" : Str), ("till" : Str), ("chain" : Str)] (defScope s_iS) := ⟨rfl, rfl, rfl, by decide +kernel, rfl, by decide +kernel, by decide +kernel⟩
abbrev s_iD : Stmt := inClass (top 9) 0
abbrev N_iD : List Str := [("self" : Str), ("asked" : Str), ("day" : Str), ("counted" : Str)]
theorem f_iD : FnScope N_iD [("self" : Str), ("asked" : Str), ("day" : Str), ("counted" : Str)] (defScope s_iD) := ⟨rfl, rfl, rfl, by decide +kernel, rfl, by decide +kernel, by decide +kernel⟩
abbrev s_iB : Stmt := inClass (top 10) 0
abbrev N_iB : List Str := [("self" : Str), ("people" : Str)]
theorem f_iB : FnScope N_iB [("self" : Str), ("people" : Str)] (defScope s_iB) := ⟨rfl, rfl, rfl, by decide +kernel, rfl, by decide +kernel, by decide +kernel⟩
abbrev s_is_set : Stmt := top 24
abbrev N_is_set : List Str := [("people" : Str), ("there_are" : Str)]
theorem f_is_set : FnScope N_is_set [("people" : Str), ("there_are" : Str)] (defScope s_is_set) := ⟨rfl, rfl, rfl, by decide +kernel, rfl, by decide +kernel, by decide +kernel⟩
abbrev s_has : Stmt := top 25
abbrev N_has : List Str := [("people" : Str), ("person" : Str)]
theorem f_has : FnScope N_has [("people" : Str), ("person" : Str)] (defScope s_has) := ⟨rfl, rfl, rfl, by decide +kernel, rfl, by decide +kernel, by decide +kernel⟩
abbrev s_how_many : Stmt := top 26
abbrev N_how_many : List Str := [("people" : Str), ("found" : Str), ("rest" : Str)]
theorem f_how_many : FnScope N_how_many [("people" : Str)] (defScope s_how_many) := ⟨rfl, rfl, rfl, by decide +kernel, rfl, by decide +kernel, by decide +kernel⟩
abbrev s_too_old : Stmt := top 29
abbrev N_too_old : List Str := [("book" : Str), ("asked" : Str)]
theorem f_too_old : FnScope N_too_old [("book" : Str), ("asked" : Str)] (defScope s_too_old) := ⟨rfl, rfl, rfl, by decide +kernel, rfl, by decide +kernel, by decide +kernel⟩
abbrev s_ask : Stmt := top 30
abbrev N_ask : List Str := [("book" : Str), ("person" : Str), ("kind" : Str), ("number" : Str), ("amount" : Str)]
theorem f_ask : FnScope N_ask [("book" : Str), ("person" : Str), ("kind" : Str), ("number" : Str), ("amount" : Str)] (defScope s_ask) := ⟨rfl, rfl, rfl, by decide +kernel, rfl, by decide +kernel, by decide +kernel⟩
abbrev s_change : Stmt := top 31
abbrev N_change : List Str := [("book" : Str), ("r" : Str), ("number" : Str), ("amount" : Str), ("asked" : Str)]
theorem f_change : FnScope N_change [("book" : Str), ("r" : Str), ("number" : Str), ("amount" : Str)] (defScope s_change) := ⟨rfl, rfl, rfl, by decide +kernel, rfl, by decide +kernel, by decide +kernel⟩
abbrev s_refusal_of_yes : Stmt := top 32
abbrev N_refusal_of_yes : List Str := [("book" : Str), ("person" : Str), ("asked" : Str), ("number" : Str), ("amount" : Str)]
theorem f_refusal_of_yes : FnScope N_refusal_of_yes [("book" : Str), ("person" : Str), ("asked" : Str), ("number" : Str), ("amount" : Str)] (defScope s_refusal_of_yes) := ⟨rfl, rfl, rfl, by decide +kernel, rfl, by decide +kernel, by decide +kernel⟩
abbrev s_yes : Stmt := top 33
abbrev N_yes : List Str := [("book" : Str), ("person" : Str), ("r" : Str), ("number" : Str), ("amount" : Str), ("asked" : Str), ("refusal" : Str)]
theorem f_yes : FnScope N_yes [("book" : Str), ("person" : Str), ("r" : Str), ("number" : Str), ("amount" : Str)] (defScope s_yes) := ⟨rfl, rfl, rfl, by decide +kernel, rfl, by decide +kernel, by decide +kernel⟩
abbrev s_may_still_say : Stmt := top 34
abbrev N_may_still_say : List Str := [("book" : Str), ("asked" : Str), ("people" : Str), ("person" : Str)]
theorem f_may_still_say : FnScope N_may_still_say [("book" : Str), ("asked" : Str)] (defScope s_may_still_say) := ⟨rfl, rfl, rfl, by decide +kernel, rfl, by decide +kernel, by decide +kernel⟩
abbrev s_no : Stmt := top 35
abbrev N_no : List Str := [("book" : Str), ("person" : Str), ("r" : Str), ("asked" : Str)]
theorem f_no : FnScope N_no [("book" : Str), ("person" : Str), ("r" : Str)] (defScope s_no) := ⟨rfl, rfl, rfl, by decide +kernel, rfl, by decide +kernel, by decide +kernel⟩
abbrev s_withdraw : Stmt := top 36
abbrev N_withdraw : List Str := [("book" : Str), ("r" : Str), ("asked" : Str)]
theorem f_withdraw : FnScope N_withdraw [("book" : Str), ("r" : Str)] (defScope s_withdraw) := ⟨rfl, rfl, rfl, by decide +kernel, rfl, by decide +kernel, by decide +kernel⟩
abbrev s_maysay : Stmt := top 37
abbrev N_maysay : List Str := [("book" : Str), ("r" : Str)]
theorem f_maysay : FnScope N_maysay [("book" : Str), ("r" : Str)] (defScope s_maysay) := ⟨rfl, rfl, rfl, by decide +kernel, rfl, by decide +kernel, by decide +kernel⟩
abbrev s_askedis : Stmt := top 38
abbrev N_askedis : List Str := [("book" : Str), ("r" : Str), ("asked" : Str), ("numbers" : Str)]
theorem f_askedis : FnScope N_askedis [("book" : Str), ("r" : Str)] (defScope s_askedis) := ⟨rfl, rfl, rfl, by decide +kernel, rfl, by decide +kernel, by decide +kernel⟩
abbrev s_is_living : Stmt := top 40
abbrev N_is_living : List Str := [("book" : Str), ("g" : Str), ("link" : Str), ("given" : Str)]
theorem f_is_living : FnScope N_is_living [("book" : Str), ("g" : Str)] (defScope s_is_living) := ⟨rfl, rfl, rfl, by decide +kernel, rfl, by decide +kernel, by decide +kernel⟩
abbrev s_beneath : Stmt := top 41
abbrev N_beneath : List Str := [("book" : Str), ("g" : Str), ("h" : Str)]
theorem f_beneath : FnScope N_beneath [("book" : Str), ("g" : Str)] (defScope s_beneath) := ⟨rfl, rfl, rfl, by decide +kernel, rfl, by decide +kernel, by decide +kernel⟩
abbrev s_root_of : Stmt := top 42
abbrev N_root_of : List Str := [("book" : Str), ("g" : Str), ("last" : Str)]
theorem f_root_of : FnScope N_root_of [("book" : Str), ("g" : Str)] (defScope s_root_of) := ⟨rfl, rfl, rfl, by decide +kernel, rfl, by decide +kernel, by decide +kernel⟩
abbrev s_draws_on : Stmt := top 43
abbrev N_draws_on : List Str := [("book" : Str), ("asked" : Str), ("g" : Str), ("used" : Str)]
theorem f_draws_on : FnScope N_draws_on [("book" : Str), ("asked" : Str), ("g" : Str)] (defScope s_draws_on) := ⟨rfl, rfl, rfl, by decide +kernel, rfl, by decide +kernel, by decide +kernel⟩
abbrev s_drawn_by : Stmt := top 44
abbrev N_drawn_by : List Str := [("book" : Str), ("g" : Str), ("total" : Str), ("deed" : Str), ("asked" : Str)]
theorem f_drawn_by : FnScope N_drawn_by [("book" : Str), ("g" : Str)] (defScope s_drawn_by) := ⟨rfl, rfl, rfl, by decide +kernel, rfl, by decide +kernel, by decide +kernel⟩
abbrev s_room_of : Stmt := top 45
abbrev N_room_of : List Str := [("book" : Str), ("g" : Str), ("link" : Str)]
theorem f_room_of : FnScope N_room_of [("book" : Str), ("g" : Str)] (defScope s_room_of) := ⟨rfl, rfl, rfl, by decide +kernel, rfl, by decide +kernel, by decide +kernel⟩
abbrev s_holds : Stmt := top 46
abbrev N_holds : List Str := [("book" : Str), ("g" : Str), ("amount" : Str)]
theorem f_holds : FnScope N_holds [("book" : Str), ("g" : Str), ("amount" : Str)] (defScope s_holds) := ⟨rfl, rfl, rfl, by decide +kernel, rfl, by decide +kernel, by decide +kernel⟩
abbrev s_lives : Stmt := top 47
abbrev N_lives : List Str := [("book" : Str), ("g" : Str)]
theorem f_lives : FnScope N_lives [("book" : Str), ("g" : Str)] (defScope s_lives) := ⟨rfl, rfl, rfl, by decide +kernel, rfl, by decide +kernel, by decide +kernel⟩
abbrev s_room : Stmt := top 48
abbrev N_room : List Str := [("book" : Str), ("g" : Str)]
theorem f_room : FnScope N_room [("book" : Str), ("g" : Str)] (defScope s_room) := ⟨rfl, rfl, rfl, by decide +kernel, rfl, by decide +kernel, by decide +kernel⟩
abbrev s_root : Stmt := top 49
abbrev N_root : List Str := [("book" : Str), ("g" : Str)]
theorem f_root : FnScope N_root [("book" : Str), ("g" : Str)] (defScope s_root) := ⟨rfl, rfl, rfl, by decide +kernel, rfl, by decide +kernel, by decide +kernel⟩
abbrev s_under : Stmt := top 50
abbrev N_under : List Str := [("book" : Str), ("g" : Str), ("found" : Str)]
theorem f_under : FnScope N_under [("book" : Str), ("g" : Str)] (defScope s_under) := ⟨rfl, rfl, rfl, by decide +kernel, rfl, by decide +kernel, by decide +kernel⟩
abbrev s_chain : Stmt := top 51
abbrev N_chain : List Str := [("book" : Str), ("g" : Str), ("links" : Str)]
theorem f_chain : FnScope N_chain [("book" : Str), ("g" : Str)] (defScope s_chain) := ⟨rfl, rfl, rfl, by decide +kernel, rfl, by decide +kernel, by decide +kernel⟩
abbrev s_drawn : Stmt := top 52
abbrev N_drawn : List Str := [("book" : Str), ("g" : Str)]
theorem f_drawn : FnScope N_drawn [("book" : Str), ("g" : Str)] (defScope s_drawn) := ⟨rfl, rfl, rfl, by decide +kernel, rfl, by decide +kernel, by decide +kernel⟩
abbrev s_grantis : Stmt := top 53
abbrev N_grantis : List Str := [("book" : Str), ("g" : Str), ("given" : Str), ("handed_from" : Str), ("taken_back" : Str)]
theorem f_grantis : FnScope N_grantis [("book" : Str), ("g" : Str)] (defScope s_grantis) := ⟨rfl, rfl, rfl, by decide +kernel, rfl, by decide +kernel, by decide +kernel⟩
abbrev s_tick : Stmt := top 56
abbrev N_tick : List Str := [("book" : Str), ("days" : Str)]
theorem f_tick : FnScope N_tick [("book" : Str), ("days" : Str)] (defScope s_tick) := ⟨rfl, rfl, rfl, by decide +kernel, rfl, by decide +kernel, by decide +kernel⟩
abbrev s_today : Stmt := top 57
abbrev N_today : List Str := [("book" : Str)]
theorem f_today : FnScope N_today [("book" : Str)] (defScope s_today) := ⟨rfl, rfl, rfl, by decide +kernel, rfl, by decide +kernel, by decide +kernel⟩
abbrev s_done_between : Stmt := top 59
abbrev N_done_between : List Str := [("book" : Str), ("kind" : Str), ("first" : Str), ("last" : Str), ("total" : Str), ("deed" : Str), ("asked" : Str)]
theorem f_done_between : FnScope N_done_between [("book" : Str), ("kind" : Str), ("first" : Str), ("last" : Str)] (defScope s_done_between) := ⟨rfl, rfl, rfl, by decide +kernel, rfl, by decide +kernel, by decide +kernel⟩
abbrev s_left_today : Stmt := top 60
abbrev N_left_today : List Str := [("book" : Str), ("kind" : Str)]
theorem f_left_today : FnScope N_left_today [("book" : Str), ("kind" : Str)] (defScope s_left_today) := ⟨rfl, rfl, rfl, by decide +kernel, rfl, by decide +kernel, by decide +kernel⟩
abbrev s_done : Stmt := top 61
abbrev N_done : List Str := [("book" : Str)]
theorem f_done : FnScope N_done [("book" : Str)] (defScope s_done) := ⟨rfl, rfl, rfl, by decide +kernel, rfl, by decide +kernel, by decide +kernel⟩
abbrev s_log : Stmt := top 62
abbrev N_log : List Str := [("book" : Str), ("i" : Str), ("deed" : Str), ("asked" : Str), ("numbers" : Str)]
theorem f_log : FnScope N_log [("book" : Str), ("i" : Str)] (defScope s_log) := ⟨rfl, rfl, rfl, by decide +kernel, rfl, by decide +kernel, by decide +kernel⟩
abbrev s_left : Stmt := top 63
abbrev N_left : List Str := [("book" : Str), ("kind" : Str)]
theorem f_left : FnScope N_left [("book" : Str), ("kind" : Str)] (defScope s_left) := ⟨rfl, rfl, rfl, by decide +kernel, rfl, by decide +kernel, by decide +kernel⟩
abbrev s_sum_of : Stmt := top 64
abbrev N_sum_of : List Str := [("book" : Str), ("kind" : Str), ("first" : Str), ("last" : Str)]
theorem f_sum_of : FnScope N_sum_of [("book" : Str), ("kind" : Str), ("first" : Str), ("last" : Str)] (defScope s_sum_of) := ⟨rfl, rfl, rfl, by decide +kernel, rfl, by decide +kernel, by decide +kernel⟩
abbrev s_who_count : Stmt := top 66
abbrev N_who_count : List Str := [("book" : Str), ("asked" : Str), ("said" : Str), ("people" : Str), ("g" : Str)]
theorem f_who_count : FnScope N_who_count [("book" : Str), ("asked" : Str), ("said" : Str)] (defScope s_who_count) := ⟨rfl, rfl, rfl, by decide +kernel, rfl, by decide +kernel, by decide +kernel⟩
abbrev s_how_many_must : Stmt := top 67
abbrev N_how_many_must : List Str := [("book" : Str), ("asked" : Str), ("kept" : Str)]
theorem f_how_many_must : FnScope N_how_many_must [("book" : Str), ("asked" : Str)] (defScope s_how_many_must) := ⟨rfl, rfl, rfl, by decide +kernel, rfl, by decide +kernel, by decide +kernel⟩
abbrev s_how_many_lack : Stmt := top 68
abbrev N_how_many_lack : List Str := [("book" : Str), ("asked" : Str), ("said" : Str)]
theorem f_how_many_lack : FnScope N_how_many_lack [("book" : Str), ("asked" : Str), ("said" : Str)] (defScope s_how_many_lack) := ⟨rfl, rfl, rfl, by decide +kernel, rfl, by decide +kernel, by decide +kernel⟩
abbrev s_refusal_of_deed : Stmt := top 69
abbrev N_refusal_of_deed : List Str := [("book" : Str), ("asked" : Str), ("said" : Str), ("g" : Str)]
theorem f_refusal_of_deed : FnScope N_refusal_of_deed [("book" : Str), ("asked" : Str), ("said" : Str)] (defScope s_refusal_of_deed) := ⟨rfl, rfl, rfl, by decide +kernel, rfl, by decide +kernel, by decide +kernel⟩
abbrev s_do : Stmt := top 70
abbrev N_do : List Str := [("book" : Str), ("r" : Str), ("refusal" : Str), ("asked" : Str), ("counted" : Str)]
theorem f_do : FnScope N_do [("book" : Str), ("r" : Str)] (defScope s_do) := ⟨rfl, rfl, rfl, by decide +kernel, rfl, by decide +kernel, by decide +kernel⟩
abbrev s_could : Stmt := top 71
abbrev N_could : List Str := [("book" : Str), ("r" : Str), ("asked" : Str)]
theorem f_could : FnScope N_could [("book" : Str), ("r" : Str)] (defScope s_could) := ⟨rfl, rfl, rfl, by decide +kernel, rfl, by decide +kernel, by decide +kernel⟩
abbrev s_ifyes : Stmt := top 72
abbrev N_ifyes : List Str := [("book" : Str), ("r" : Str), ("people" : Str), ("asked" : Str)]
theorem f_ifyes : FnScope N_ifyes [("book" : Str), ("r" : Str), ("people" : Str)] (defScope s_ifyes) := ⟨rfl, rfl, rfl, by decide +kernel, rfl, by decide +kernel, by decide +kernel⟩
abbrev s_lacks : Stmt := top 73
abbrev N_lacks : List Str := [("book" : Str), ("r" : Str), ("asked" : Str)]
theorem f_lacks : FnScope N_lacks [("book" : Str), ("r" : Str)] (defScope s_lacks) := ⟨rfl, rfl, rfl, by decide +kernel, rfl, by decide +kernel, by decide +kernel⟩
abbrev s_counts : Stmt := top 74
abbrev N_counts : List Str := [("book" : Str), ("r" : Str), ("asked" : Str)]
theorem f_counts : FnScope N_counts [("book" : Str), ("r" : Str)] (defScope s_counts) := ⟨rfl, rfl, rfl, by decide +kernel, rfl, by decide +kernel, by decide +kernel⟩
abbrev s_can : Stmt := top 75
abbrev N_can : List Str := [("book" : Str), ("r" : Str), ("asked" : Str)]
theorem f_can : FnScope N_can [("book" : Str), ("r" : Str)] (defScope s_can) := ⟨rfl, rfl, rfl, by decide +kernel, rfl, by decide +kernel, by decide +kernel⟩
abbrev s_most_from : Stmt := top 77
abbrev N_most_from : List Str := [("book" : Str), ("person" : Str), ("holder" : Str), ("kind" : Str), ("found" : Str), ("g" : Str), ("given" : Str)]
theorem f_most_from : FnScope N_most_from [("book" : Str), ("person" : Str), ("holder" : Str), ("kind" : Str)] (defScope s_most_from) := ⟨rfl, rfl, rfl, by decide +kernel, rfl, by decide +kernel, by decide +kernel⟩
abbrev s_most_by_standing : Stmt := top 78
abbrev N_most_by_standing : List Str := [("book" : Str), ("holder" : Str), ("kind" : Str), ("kept" : Str), ("allowed" : Str), ("person" : Str)]
theorem f_most_by_standing : FnScope N_most_by_standing [("book" : Str), ("holder" : Str), ("kind" : Str)] (defScope s_most_by_standing) := ⟨rfl, rfl, rfl, by decide +kernel, rfl, by decide +kernel, by decide +kernel⟩
abbrev s_most : Stmt := top 79
abbrev N_most : List Str := [("book" : Str), ("holder" : Str), ("kind" : Str), ("allowed" : Str)]
theorem f_most : FnScope N_most [("book" : Str), ("holder" : Str), ("kind" : Str)] (defScope s_most) := ⟨rfl, rfl, rfl, by decide +kernel, rfl, by decide +kernel, by decide +kernel⟩
abbrev s_is_rule : Stmt := top 84
abbrev N_is_rule : List Str := [("book" : Str), ("may" : Str), ("need" : Str), ("free" : Str), ("daily" : Str), ("lives" : Str)]
theorem f_is_rule : FnScope N_is_rule [("book" : Str), ("may" : Str), ("need" : Str), ("free" : Str), ("daily" : Str), ("lives" : Str)] (defScope s_is_rule) := ⟨rfl, rfl, rfl, by decide +kernel, rfl, by decide +kernel, by decide +kernel⟩
abbrev s_rule : Stmt := top 85
abbrev N_rule : List Str := [("book" : Str), ("may" : Str), ("need" : Str), ("free" : Str), ("daily" : Str), ("lives" : Str)]
theorem f_rule : FnScope N_rule [("book" : Str), ("may" : Str), ("need" : Str), ("free" : Str), ("daily" : Str), ("lives" : Str)] (defScope s_rule) := ⟨rfl, rfl, rfl, by decide +kernel, rfl, by decide +kernel, by decide +kernel⟩
abbrev s_rerule : Stmt := top 86
abbrev N_rerule : List Str := [("book" : Str), ("kind" : Str), ("may" : Str), ("need" : Str), ("free" : Str), ("daily" : Str), ("lives" : Str)]
theorem f_rerule : FnScope N_rerule [("book" : Str), ("kind" : Str), ("may" : Str), ("need" : Str), ("free" : Str), ("daily" : Str), ("lives" : Str)] (defScope s_rerule) := ⟨rfl, rfl, rfl, by decide +kernel, rfl, by decide +kernel, by decide +kernel⟩
abbrev s_ruleis : Stmt := top 87
abbrev N_ruleis : List Str := [("book" : Str), ("kind" : Str), ("kept" : Str)]
theorem f_ruleis : FnScope N_ruleis [("book" : Str), ("kind" : Str)] (defScope s_ruleis) := ⟨rfl, rfl, rfl, by decide +kernel, rfl, by decide +kernel, by decide +kernel⟩
abbrev s_grant : Stmt := top 91
abbrev N_grant : List Str := [("book" : Str), ("giver" : Str), ("holder" : Str), ("kind" : Str), ("each" : Str), ("total" : Str), ("till" : Str), ("new" : Str)]
theorem f_grant : FnScope N_grant [("book" : Str), ("giver" : Str), ("holder" : Str), ("kind" : Str), ("each" : Str), ("total" : Str), ("till" : Str)] (defScope s_grant) := ⟨rfl, rfl, rfl, by decide +kernel, rfl, by decide +kernel, by decide +kernel⟩
abbrev s_hand : Stmt := top 92
abbrev N_hand : List Str := [("book" : Str), ("g" : Str), ("holder" : Str), ("each" : Str), ("total" : Str), ("till" : Str), ("given" : Str), ("new" : Str)]
theorem f_hand : FnScope N_hand [("book" : Str), ("g" : Str), ("holder" : Str), ("each" : Str), ("total" : Str), ("till" : Str)] (defScope s_hand) := ⟨rfl, rfl, rfl, by decide +kernel, rfl, by decide +kernel, by decide +kernel⟩
abbrev s_revoke : Stmt := top 93
abbrev N_revoke : List Str := [("book" : Str), ("g" : Str), ("given" : Str), ("were_living" : Str), ("h" : Str)]
theorem f_revoke : FnScope N_revoke [("book" : Str), ("g" : Str)] (defScope s_revoke) := ⟨rfl, rfl, rfl, by decide +kernel, rfl, by decide +kernel, by decide +kernel⟩
abbrev s_use : Stmt := top 94
abbrev N_use : List Str := [("book" : Str), ("r" : Str), ("g" : Str), ("asked" : Str), ("given" : Str)]
theorem f_use : FnScope N_use [("book" : Str), ("r" : Str), ("g" : Str)] (defScope s_use) := ⟨rfl, rfl, rfl, by decide +kernel, rfl, by decide +kernel, by decide +kernel⟩
abbrev s_answer_on_rules : Stmt := top 132
abbrev N_answer_on_rules : List Str := [("book" : Str), ("call" : Str), ("told" : Str)]
theorem f_answer_on_rules : FnScope N_answer_on_rules [("book" : Str), ("call" : Str), ("told" : Str)] (defScope s_answer_on_rules) := ⟨rfl, rfl, rfl, by decide +kernel, rfl, by decide +kernel, by decide +kernel⟩
abbrev s_answer_on_asking : Stmt := top 133
abbrev N_answer_on_asking : List Str := [("book" : Str), ("call" : Str), ("told" : Str)]
theorem f_answer_on_asking : FnScope N_answer_on_asking [("book" : Str), ("call" : Str), ("told" : Str)] (defScope s_answer_on_asking) := ⟨rfl, rfl, rfl, by decide +kernel, rfl, by decide +kernel, by decide +kernel⟩
abbrev s_answer_on_standing : Stmt := top 134
abbrev N_answer_on_standing : List Str := [("book" : Str), ("call" : Str), ("told" : Str)]
theorem f_answer_on_standing : FnScope N_answer_on_standing [("book" : Str), ("call" : Str), ("told" : Str)] (defScope s_answer_on_standing) := ⟨rfl, rfl, rfl, by decide +kernel, rfl, by decide +kernel, by decide +kernel⟩
abbrev s_answer_on_deeds : Stmt := top 135
abbrev N_answer_on_deeds : List Str := [("book" : Str), ("call" : Str), ("told" : Str)]
theorem f_answer_on_deeds : FnScope N_answer_on_deeds [("book" : Str), ("call" : Str), ("told" : Str)] (defScope s_answer_on_deeds) := ⟨rfl, rfl, rfl, by decide +kernel, rfl, by decide +kernel, by decide +kernel⟩
abbrev s_answer_on_chains : Stmt := top 136
abbrev N_answer_on_chains : List Str := [("book" : Str), ("call" : Str), ("told" : Str)]
theorem f_answer_on_chains : FnScope N_answer_on_chains [("book" : Str), ("call" : Str), ("told" : Str)] (defScope s_answer_on_chains) := ⟨rfl, rfl, rfl, by decide +kernel, rfl, by decide +kernel, by decide +kernel⟩
abbrev s_answer_on_the_past : Stmt := top 137
abbrev N_answer_on_the_past : List Str := [("book" : Str), ("call" : Str), ("told" : Str)]
theorem f_answer_on_the_past : FnScope N_answer_on_the_past [("book" : Str), ("call" : Str), ("told" : Str)] (defScope s_answer_on_the_past) := ⟨rfl, rfl, rfl, by decide +kernel, rfl, by decide +kernel, by decide +kernel⟩
abbrev s_one_number : Stmt := top 138
abbrev N_one_number : List Str := [("book" : Str), ("call" : Str), ("told" : Str)]
theorem f_one_number : FnScope N_one_number [("book" : Str), ("call" : Str), ("told" : Str)] (defScope s_one_number) := ⟨rfl, rfl, rfl, by decide +kernel, rfl, by decide +kernel, by decide +kernel⟩
abbrev s_several_numbers : Stmt := top 139
abbrev N_several_numbers : List Str := [("book" : Str), ("call" : Str), ("told" : Str)]
theorem f_several_numbers : FnScope N_several_numbers [("book" : Str), ("call" : Str), ("told" : Str)] (defScope s_several_numbers) := ⟨rfl, rfl, rfl, by decide +kernel, rfl, by decide +kernel, by decide +kernel⟩
abbrev s_answer_of : Stmt := top 140
abbrev N_answer_of : List Str := [("book" : Str), ("call" : Str), ("told" : Str)]
theorem f_answer_of : FnScope N_answer_of [("book" : Str), ("call" : Str), ("told" : Str)] (defScope s_answer_of) := ⟨rfl, rfl, rfl, by decide +kernel, rfl, by decide +kernel, by decide +kernel⟩
abbrev s_answers : Stmt := top 141
abbrev N_answers : List Str := [("calls" : Str), ("book" : Str), ("given" : Str), ("at" : Str), ("call" : Str), ("behind" : Str), ("told" : Str), ("answer" : Str)]
theorem f_answers : FnScope N_answers [("calls" : Str)] (defScope s_answers) := ⟨rfl, rfl, rfl, by decide +kernel, rfl, by decide +kernel, by decide +kernel⟩
end Jd
namespace Jd
open PySem PySem.Spec PyProof.Rows L2 Evl Kp332

/-! ### bits -/
theorem bAnd (m n : Nat) : Builtin.bitAnd (m : Int) (n : Int) = ((m &&& n : Nat) : Int) := by
  rw [bitAnd_pp (by omega) (by omega), Int.toNat_natCast, Int.toNat_natCast]
theorem bOr (m n : Nat) : Builtin.bitOr (m : Int) (n : Int) = ((m ||| n : Nat) : Int) := by
  rw [Bits.bitOr_pp (by omega) (by omega), Int.toNat_natCast, Int.toNat_natCast]
theorem bAndNot (m n : Nat) : Builtin.bitAnd (m : Int) (Builtin.bitNot (n : Int)) = ((m - (m &&& n) : Nat) : Int) := by
  have h1 : Builtin.bitNot (Builtin.bitNot (n : Int)) = (n : Int) := by unfold Builtin.bitNot; omega
  rw [bitAnd_pn (by omega) (by unfold Builtin.bitNot; omega), h1, Int.toNat_natCast, Int.toNat_natCast]
  have : m &&& n ≤ m := Nat.and_le_left
  omega
theorem shl1 (n : Nat) : (1 : Int) * 2 ^ ((n : Int)).toNat = ((2 ^ n : Nat) : Int) := by
  rw [Int.toNat_natCast, Int.one_mul, Int.natCast_pow]
  rfl
theorem shr (m n : Nat) : (m : Int) / 2 ^ ((n : Int)).toNat = ((m / 2 ^ n : Nat) : Int) := by
  rw [Int.toNat_natCast, Int.natCast_ediv, Int.natCast_pow]
  rfl
section
variable {X : Cx} {N : List Str} {sc : Scope} {k : Nat} {σ : L2.St} {H : Hp} {e a b c : Expr} {v x y z : V} {pos : Pos} {m n : Nat}
theorem x_bit {j : Nat} {p : Pos} (hb : EV X b σ H (.int (n : Int))) (hn : n ≤ 1000) : EV X (.BinOp (.Constant (.int 1) j p) .LShift b pos) σ H (.int ((2 ^ n : Nat) : Int)) :=
  x_is (x_shl x_int hb ⟨by omega, by omega, by decide⟩) (by rw [shl1])
theorem x_shrN (ha : EV X a σ H (.int (m : Int))) (hb : EV X b σ H (.int (n : Int))) : EV X (.BinOp a .RShift b pos) σ H (.int ((m / 2 ^ n : Nat) : Int)) := x_is (x_shr ha hb (by omega)) (by rw [shr])
theorem x_andN (ha : EV X a σ H (.int (m : Int))) (hb : EV X b σ H (.int (n : Int))) : EV X (.BinOp a .BitAnd b pos) σ H (.int ((m &&& n : Nat) : Int)) := x_is (x_and ha hb) (by rw [bAnd])
theorem x_orN (ha : EV X a σ H (.int (m : Int))) (hb : EV X b σ H (.int (n : Int))) : EV X (.BinOp a .BitOr b pos) σ H (.int ((m ||| n : Nat) : Int)) := x_is (x_or ha hb) (by rw [bOr])
theorem x_addN (ha : EV X a σ H (.int (m : Int))) (hb : EV X b σ H (.int (n : Int))) : EV X (.BinOp a .Add b pos) σ H (.int ((m + n : Nat) : Int)) := x_is (x_add ha hb) (by rw [Int.natCast_add])
end

/-! ### promises -/
def spQ (C : Cs) (φ : Ad → House → List V → V → Prop) : Sp := spV fun vs H v => ∃ A h F, Bk C H A h F ∧ φ A h vs v
def spQL (C : Cs) (φ : Ad → House → List V → List V → Prop) : Sp := spL fun vs H v => ∃ A h F, Bk C H A h F ∧ φ A h vs v
section
variable {X : Cx} {N : List Str} {sc : Scope} {j : Nat} {C : Cs} {H : Hp} {A : Ad} {h : House} {F : Hp} {σ : L2.St} {e : Expr} {es : List Expr} {pos p : Pos} {v : V} {xn : Str} {vs xs : List V}
theorem W.call {φ : Ad → House → List V → V → Prop} (w : W X N sc j C H A h F) (f : Callee X xn j (spQ C φ)) (ha : EA X (e :: es) σ H vs) (hφ : φ A h vs v) (hg : GlS sc xn := by rfl) (hdb : (xn == ("__debug__" : Str)) = false := by decide)
    (he : starEach (e :: es) X.env = (false, eval e X.env) :: starEach es X.env := by exact star_cons rfl) (hpl : (backTo pos (starEach es X.env)).any (·.1) = false := by rfl) : EV X (.Call (.Name xn p) (e :: es) [] pos) σ H v :=
  w.x.call f ha (fun H1 e1 => ⟨A, h, F, w.b.mono e1, hφ⟩) hg hdb he hpl
theorem W.callL {φ : Ad → House → List V → List V → Prop} (w : W X N sc j C H A h F) (f : Callee X xn j (spQL C φ)) (ha : EA X (e :: es) σ H vs) (hφ : φ A h vs xs) (hg : GlS sc xn := by rfl) (hdb : (xn == ("__debug__" : Str)) = false := by decide)
    (he : starEach (e :: es) X.env = (false, eval e X.env) :: starEach es X.env := by exact star_cons rfl) (hpl : (backTo pos (starEach es X.env)).any (·.1) = false := by rfl) : EL X (.Call (.Name xn p) (e :: es) [] pos) σ H xs :=
  w.x.callL f ha (fun H1 e1 => ⟨A, h, F, w.b.mono e1, hφ⟩) hg hdb he hpl
end
abbrev I (n : Nat) : V := V.int (n : Int)
def sp_is_set : Sp := spV fun vs _ v => ∃ p n : Nat, n ≤ 8 ∧ vs = [I p, I n] ∧ v = .bl (decide (p < 2 ^ n))
def sp_has : Sp := spV fun vs _ v => ∃ p n : Nat, vs = [I p, I n] ∧ v = .bl (p.testBit n)
def sp_how_many : Sp := spV fun vs _ v => ∃ s n : Nat, s < 2 ^ n ∧ vs = [I s] ∧ v = I (size n s)
def sp_too_old (C : Cs) : Sp := spQ C fun A h vs v => ∃ r, r < h.asked.length ∧ vs = [.ref (A.at_ .b), .ref (A.at_ (.a r))] ∧ v = .bl (old h (askedAt h r))
def refYes (h : House) (p : Nat) (a : Kp332.Asked) (x m : Nat) : Int :=
  if a.state ≠ 0 then -6 else if old h a = true then -8 else if p = a.asker then -12 else if (ruleAt h a.kind).may.testBit p = false then -13 else if x ≠ a.x ∨ m ≠ a.amount then -9 else if a.yes.testBit p = true then -17 else 0
def sp_refusal_of_yes (C : Cs) : Sp := spQ C fun A h vs v => ∃ r p x m : Nat, r < h.asked.length ∧ vs = [.ref (A.at_ .b), I p, .ref (A.at_ (.a r)), I x, I m] ∧ v = .int (refYes h p (askedAt h r) x m)
def sp_may_still_say (C : Cs) : Sp := spQ C fun A h vs v => ∃ r, r < h.asked.length ∧ vs = [.ref (A.at_ .b), .ref (A.at_ (.a r))] ∧ v = I (maySay h r)
def sp_is_living (C : Cs) : Sp := spQ C fun A h vs v => ∃ g : Nat, g < h.grants.length ∧ vs = [.ref (A.at_ .b), I g] ∧ v = .bl (living h g)
def sp_beneath (C : Cs) : Sp := spQL C fun A h vs xs => ∃ g : Nat, g < h.grants.length ∧ vs = [.ref (A.at_ .b), I g] ∧ xs = nums (under h g)
def sp_root_of (C : Cs) : Sp := spQ C fun A h vs v => ∃ g : Nat, g < h.grants.length ∧ vs = [.ref (A.at_ .b), I g] ∧ v = I (root h g)
def sp_draws_on (C : Cs) : Sp := spQ C fun A h vs v => ∃ r g : Nat, r < h.asked.length ∧ vs = [.ref (A.at_ .b), .ref (A.at_ (.a r)), I g] ∧ v = .bl ((askedAt h r).uses.any fun i => (Kp332.chain h i).contains g)
def sp_drawn_by (C : Cs) : Sp := spQ C fun A h vs v => ∃ g : Nat, vs = [.ref (A.at_ .b), I g] ∧ v = I (drawn h g)
def sp_room_of (C : Cs) : Sp := spQ C fun A h vs v => ∃ g : Nat, g < h.grants.length ∧ vs = [.ref (A.at_ .b), I g] ∧ v = I (room h g)
def holdm (h : House) (m g : Nat) : Bool := decide (m ≤ (grantAt h g).each) && living h g && decide (m ≤ room h g)
def sp_holds (C : Cs) : Sp := spQ C fun A h vs v => ∃ g m : Nat, g < h.grants.length ∧ vs = [.ref (A.at_ .b), I g, I m] ∧ v = .bl (holdm h m g)

section
variable {X : Cx} {j : Nat} {C : Cs} {H : Hp} {A : Ad} {h : House} {F : Hp} {D : Ends}
abbrev RT (D : Ends) (v : V) (H : Hp) : Prop := ∀ H1, Ex H H1 → D.rt v H1
theorem b_is_set (x : XC X N_is_set (defScope s_is_set) j) {p n : Nat} (hn : n ≤ 8) (q : RT D (.bl (decide (p < 2 ^ n))) H) : BS X (defBody s_is_set) D [some (I p), some (I n)] H :=
  b_ret ((b_lt (x.lv 0) (x_bit (x.lv 1) (by omega))).vl (by rw [decide_eq_true_iff]; omega)) q
theorem b_has (x : XC X N_has (defScope s_has) j) {p n : Nat} (q : RT D (.bl (p.testBit n)) H) : BS X (defBody s_has) D [some (I p), some (I n)] H :=
  b_ret ((b_eq (x_andN (x_shrN (x.lv 0) (x.lv 1)) (x_nat (n := 1) x_int rfl)) x_int).vl (by
    rw [Nat.testBit_eq_decide_div_mod_eq, Nat.and_one_is_mod, decide_eq_true_iff]
    omega)) q
theorem b_how_many (x : XC X N_how_many (defScope s_how_many) j) {s n : Nat} (hs : s < 2 ^ n) (q : RT D (I (size n s)) H) : BS X (defBody s_how_many) D [some (I s), none, none] H := by
  refine b_asg x 1 x_int (b_asg x 2 (x.lv 0) (b_while x (fun m σ' H' => Ex H H' ∧ ∃ r c : Nat, r < 2 ^ m ∧ c + pop m r = pop n s ∧ σ' = [some (I s), some (I c), some (I r)]) n (fun H1 e1 => ⟨e1, s, 0, hs, by omega, rfl⟩) ?_))
  rintro m σ' H' ⟨e1, r, c, hr, hc, rfl⟩
  refine ⟨_, t_gt (x.lv 2) x_int, fun hp => ?_, fun hp => ?_⟩
  · refine b_asg x 1 (x_addN (x.lv 1) (x_andN (x.lv 2) (x_nat (n := 1) x_int rfl))) (b_asg x 2 (x_shrN (x.lv 2) (x_nat (n := 1) x_int rfl)) (b_nil fun H2 e2 => ?_))
    match m, hr, hc with
    | 0, hr, _ => simp at hr; omega
    | m + 1, hr, hc =>
      refine ⟨m, by omega, e1.trans e2, r / 2 ^ 1, c + (r &&& 1), by rw [Nat.pow_succ] at hr; omega, ?_, rfl⟩
      have : pop (m + 1) r = r % 2 + pop m (r / 2) := rfl
      rw [Nat.and_one_is_mod, Nat.pow_one]
      omega
  · have : r = 0 := by omega
    subst this
    rw [pop_zero] at hc
    have : c = size n s := by rw [size_pop]; omega
    subst this
    exact b_ret (x.lv 1) fun H2 e2 => q H2 (e1.trans e2)
theorem b_too_old (w : W X N_too_old (defScope s_too_old) j C H A h F) {r : Nat} (hr : r < h.asked.length) (q : RT D (.bl (old h (askedAt h r))) H) : BS X (defBody s_too_old) D [some (.ref (A.at_ .b)), some (.ref (A.at_ (.a r)))] H :=
  have hk := w.b.wf.akind r hr
  b_ret ((b_gt (x_sub (w.bD (w.s 0)) (w.aT (w.s 1))) (w.rL (w.iR (w.bR (w.s 0)) (w.aK (w.s 1))))).vl (by
    unfold old
    rw [decide_eq_true_iff]
    omega)) q
theorem b_refusal_of_yes (w : W X N_refusal_of_yes (defScope s_refusal_of_yes) j C H A h F) (c1 : Callee X "too_old" j (sp_too_old C)) (c2 : Callee X "has" j sp_has) {r p xx m : Nat} (hr : r < h.asked.length) (q : RT D (.int (refYes h p (askedAt h r) xx m)) H) :
    BS X (defBody s_refusal_of_yes) D [some (.ref (A.at_ .b)), some (I p), some (.ref (A.at_ (.a r))), some (I xx), some (I m)] H := by
  have hk := w.b.wf.akind r hr
  unfold refYes at q
  refine b_when (t_ne (w.aG (w.s 2)) (w.x.g w.t.OPEN)) (fun h1 => b_ret (x_neg (w.x.g w.t.NOT_OPEN)) (by rwa [if_pos (by omega)] at q)) fun h1 => ?_
  rw [if_neg (by omega)] at q
  refine b_when (EB.of (w.call c1 (a_cons (w.s 0) (a_cons (w.s 2) a_nil)) ⟨r, hr, rfl, rfl⟩)).t (fun h1 => b_ret (x_neg (w.x.g w.t.TOO_OLD)) (by rwa [if_pos h1] at q)) fun h1 => ?_
  rw [if_neg h1] at q
  refine b_when (t_eq (w.s 1) (w.aA (w.s 2))) (fun h1 => b_ret (x_neg (w.x.g w.t.WRONG_PERSON)) (by rwa [if_pos (by omega)] at q)) fun h1 => ?_
  rw [if_neg (by omega)] at q
  refine b_when (t_not (EB.of (w.x.call c2 (a_cons (w.rM (w.iR (w.bR (w.s 0)) (w.aK (w.s 2)))) (a_cons (w.s 1) a_nil)) fun _ _ => ⟨_, _, rfl, rfl⟩)).t) (fun h1 => b_ret (x_neg (w.x.g w.t.NOT_ALLOWED)) (by rwa [if_pos (by simpa using h1)] at q)) fun h1 => ?_
  rw [if_neg (by simpa using h1)] at q
  refine b_when (w_or (t_ne (w.s 3) (w.aN (w.s 2))) fun _ => w_or1 (t_ne (w.s 4) (w.aM (w.s 2)))).t (fun h1 => b_ret (x_neg (w.x.g w.t.OTHER_NUMBERS)) (by rwa [if_pos (by omega)] at q)) fun h1 => ?_
  rw [if_neg (by omega)] at q
  refine b_when (EB.of (w.x.call c2 (a_cons (w.aS (w.s 2)) (a_cons (w.s 1) a_nil)) fun _ _ => ⟨_, _, rfl, rfl⟩)).t (fun h1 => b_ret (x_neg (w.x.g w.t.ALREADY)) (by rwa [if_pos h1] at q)) fun h1 => ?_
  rw [if_neg h1] at q
  exact b_ret x_int q
end
end Jd
namespace Jd
open PySem PySem.Spec PyProof.Rows L2 Evl Kp332

theorem refs_get {A : Ad} {n i : Nat} {f : Nat → Pl} {x : V} (h : (refs A n f)[i]? = some x) : i < n ∧ x = V.ref (A.at_ (f i)) := by
  have h1 := some_lt h
  rw [refs_len] at h1
  rw [refs_at h1] at h
  exact ⟨h1, (Option.some.inj h).symm⟩
theorem nums_get {l : List Nat} {i : Nat} {x : V} (h : (nums l)[i]? = some x) : ∃ n, l[i]? = some n ∧ x = I n := by
  have h1 := some_lt h
  rw [nums_len] at h1
  obtain ⟨n, hn⟩ := get_some h1
  rw [nums_at hn] at h
  exact ⟨n, hn, (Option.some.inj h).symm⟩
theorem mem_cast {l : List Nat} {n : Nat} : (n : Int) ∈ l.map (fun (n : Nat) => (n : Int)) ↔ n ∈ l := by
  rw [List.mem_map]
  exact ⟨fun ⟨a, ha, e⟩ => by rwa [Int.ofNat.inj e] at ha, fun h => ⟨n, h, rfl⟩⟩
theorem Wf.chain_lt {h : House} (w : Wf h) {g i : Nat} (hg : g < h.grants.length) (hi : i ∈ Kp332.chain h g) : i < h.grants.length := Nat.lt_of_le_of_lt (chain_le w.down hi) hg
theorem Wf.chain_len {h : House} (w : Wf h) {g : Nat} (hg : g < h.grants.length) : (Kp332.chain h g).length ≤ 10 := by
  have h1 := Jd.chain_len w.down g hg
  have h2 := w.gl
  omega
section
variable {X : Cx} {N : List Str} {sc : Scope} {j : Nat} {C : Cs} {H : Hp} {A : Ad} {h : House} {F : Hp} {σ : L2.St} {e a b : Expr} {pos : Pos} {k : Nat}
/-- in a chain, in a deed's uses -/
theorem t_inN {p : Addr} {ns : List Nat} {n : Nat} (ha : EV X a σ H (.int (n : Int))) (hb : EV X b σ H (.ref p)) (h : SqL X.K H p (nums ns)) (hm : behindInMarks .In b = false := by rfl) : ET X (.Compare a [.In] [b] pos) σ H (n ∈ ns) :=
  (t_inL ha hb (by rw [← nums_ints]; exact h) hm).is mem_cast
end
section
variable {X : Cx} {j : Nat} {C : Cs} {H : Hp} {A : Ad} {h : House} {F : Hp} {D : Ends}
theorem maySay_is (h : House) (r : Nat) : maySay h r = setOf h.n fun p => decide (refYes h p (askedAt h r) (askedAt h r).x (askedAt h r).amount = 0) := by
  unfold maySay
  by_cases h1 : (askedAt h r).state = 0
  · by_cases h2 : old h (askedAt h r) = true
    · have e : ((decide ((askedAt h r).state ≠ 0)) || old h (askedAt h r)) = true := by simp [h2]
      show (if (decide ((askedAt h r).state ≠ 0) || old h (askedAt h r)) = true then 0 else _) = _
      rw [if_pos e]
      refine is_setOf fun k => ?_
      have : decide (refYes h k (askedAt h r) (askedAt h r).x (askedAt h r).amount = 0) = false := by
        rw [decide_eq_false_iff_not]
        unfold refYes
        rw [if_neg (by omega), if_pos h2]
        decide
      rw [this, Bool.and_false, Nat.zero_testBit]
    · have e : ¬ ((decide ((askedAt h r).state ≠ 0)) || old h (askedAt h r)) = true := by simp [h2, h1]
      show (if (decide ((askedAt h r).state ≠ 0) || old h (askedAt h r)) = true then 0 else _) = _
      rw [if_neg e]
      refine setOf_congr fun p _ => ?_
      show (p != (askedAt h r).asker && (ruleAt h (askedAt h r).kind).may.testBit p && !(askedAt h r).yes.testBit p) = _
      unfold refYes
      rw [if_neg (by omega), if_neg h2]
      by_cases h3 : p = (askedAt h r).asker
      · rw [if_pos h3]
        simp [h3]
      · rw [if_neg h3]
        cases h4 : (ruleAt h (askedAt h r).kind).may.testBit p with
        | false => simp
        | true =>
          cases h5 : (askedAt h r).yes.testBit p with
          | false => simp [h3]
          | true => simp
  · have e : ((decide ((askedAt h r).state ≠ 0)) || old h (askedAt h r)) = true := by simp [h1]
    show (if (decide ((askedAt h r).state ≠ 0) || old h (askedAt h r)) = true then 0 else _) = _
    rw [if_pos e]
    refine is_setOf fun k => ?_
    have : decide (refYes h k (askedAt h r) (askedAt h r).x (askedAt h r).amount = 0) = false := by
      rw [decide_eq_false_iff_not]
      unfold refYes
      rw [if_pos h1]
      decide
    rw [this, Bool.and_false, Nat.zero_testBit]
theorem b_may_still_say (w : W X N_may_still_say (defScope s_may_still_say) j C H A h F) (c1 : Callee X "refusal_of_yes" j (sp_refusal_of_yes C)) {r : Nat} (hr : r < h.asked.length) (q : RT D (I (maySay h r)) H) :
    BS X (defBody s_may_still_say) D [some (.ref (A.at_ .b)), some (.ref (A.at_ (.a r))), none, none] H := by
  rw [maySay_is] at q
  have hn := w.b.wf.n8
  refine b_asg w.x 2 x_int (b_forR w.x 3 w.t.m_range (w.bP (w.s 0)) (by omega) (fun m σ' H' => Ex H H' ∧ ∃ o, σ' = [some (.ref (A.at_ .b)), some (.ref (A.at_ (.a r))), some (I (setOf m fun p => decide (refYes h p (askedAt h r) (askedAt h r).x (askedAt h r).amount = 0))), o]) (fun H1 e1 => ⟨e1, _, rfl⟩) ?_ ?_)
  · rintro m σ' H' hm ⟨e1, o, rfl⟩
    have w1 := w.mono e1
    refine b_when (t_eq (w1.call c1 (a_cons (w1.s 0) (a_cons (w1.s 3) (a_cons (w1.s 1) (a_cons (w1.aN (w1.s 1)) (a_cons (w1.aM (w1.s 1)) a_nil))))) ⟨r, m, _, _, hr, rfl, rfl⟩) x_int) (fun h1 => ?_) (fun h1 => ?_)
    · refine b_asg w1.x 2 (x_orN (w1.s 2) (x_bit (w1.s 3) (by omega))) (b_fall (b_nil fun H2 e2 => ⟨e1.trans e2, some (I m), ?_⟩))
      rw [setOf_succ, if_pos (decide_eq_true h1)]
      rfl
    · refine b_nil fun H2 e2 => ⟨e1.trans e2, some (I m), ?_⟩
      rw [setOf_succ, if_neg (by rw [decide_eq_true_iff]; exact h1)]
      rfl
  · rintro σ' H' ⟨e1, o, rfl⟩
    exact b_ret (w.mono e1 |>.s 2) fun H2 e2 => q H2 (e1.trans e2)
theorem b_is_living (w : W X N_is_living (defScope s_is_living) j C H A h F) {g : Nat} (hg : g < h.grants.length) (q : RT D (.bl (living h g)) H) :
    BS X (defBody s_is_living) D [some (.ref (A.at_ .b)), some (I g), none, none] H := by
  refine b_forL w.x 2 (w.sC (w.iS (w.bS (w.s 0)) (w.s 1))) (SqL.of (w.qC hg)) (fun m σ' H' => Ex H H' ∧ (∃ o1 o2, σ' = [some (.ref (A.at_ .b)), some (I g), o1, o2]) ∧ ((Kp332.chain h g).take m).all (fun i => !(grantAt h i).back && decide (h.day ≤ (grantAt h i).till)) = true) (fun H1 e1 => ⟨e1, ⟨_, _, rfl⟩, rfl⟩) (fun _ _ _ p => p.1) ?_ ?_
  · rintro m x σ' H' hx ⟨e1, ⟨o1, o2, rfl⟩, ha⟩
    obtain ⟨i, hi, rfl⟩ := nums_get hx
    have hm := List.mem_of_getElem? hi
    have hil := w.b.wf.chain_lt hg hm
    have w1 := w.mono e1
    refine b_asg w.x 3 (w1.iS (w1.bS (w1.s 0)) (w1.s 2)) (b_when (w_or (EB.of (w1.sB (w1.s 3))).t fun _ => w_or1 (t_gt (w1.bD (w1.s 0)) (w1.sL (w1.s 3)))).t (fun h1 => b_ret x_bl fun H2 e2 => ?_) (fun h1 => b_nil fun H2 e2 => ⟨e1.trans e2, ⟨_, _, rfl⟩, ?_⟩))
    · have : living h g = false := by
        unfold living
        rw [List.all_eq_false]
        refine ⟨i, hm, ?_⟩
        rcases h1 with h1 | h1
        · simp [h1]
        · have : ¬ h.day ≤ (grantAt h i).till := by omega
          simp [this]
      rw [this] at q
      exact q H2 (e1.trans e2)
    · rw [take_snoc hi, List.all_append, ha, Bool.true_and, List.all_cons, List.all_nil, Bool.and_true, Bool.and_eq_true, decide_eq_true_iff]
      refine ⟨?_, by omega⟩
      cases q2 : (grantAt h i).back with
      | false => rfl
      | true => exact absurd (Or.inl q2) h1
  · rintro σ' H' ⟨e1, ⟨o1, o2, rfl⟩, ha⟩
    rw [nums_len, List.take_length] at ha
    have : living h g = true := ha
    rw [this] at q
    exact b_ret x_bl fun H2 e2 => q H2 (e1.trans e2)
theorem b_beneath (w : W X N_beneath (defScope s_beneath) j C H A h F) {g : Nat} (hg : g < h.grants.length) (q : ∀ p H1, H p = none → Ex H H1 → H1 p = some (.lst (nums (under h g))) → D.rt (.ref p) H1) :
    BS X (defBody s_beneath) D [some (.ref (A.at_ .b)), some (I g), none] H := by
  have hgl := w.b.wf.gl
  refine b_retL ((w.x.lcR (n := h.grants.length) (f := fun i => (Kp332.chain h i).contains g) (g := fun i => I i) (on := "h") (oi := 2) w.t.m_range (w.nS (w.bS (w.s 0))) (by omega) (by decide +kernel) rfl rfl (fun _ => rfl) (fun Y y c i H1 e1 hi cc hcc => ?_) (Or.inl rfl) (fun Y y c i H1 e1 hi hf => c.lv 2)).is rfl) q
  obtain rfl := List.mem_singleton.mp hcc
  have w1 := (w.mono e1).blk y c
  exact (t_inN (w1.s 1) (w1.sC (w1.iS (w1.bS (w1.s 0)) (w1.s 2))) (SqL.of (w1.qC hi))).is (by rw [List.contains_iff_mem])
theorem b_root_of (w : W X N_root_of (defScope s_root_of) j C H A h F) {g : Nat} (hg : g < h.grants.length) (q : RT D (I (root h g)) H) :
    BS X (defBody s_root_of) D [some (.ref (A.at_ .b)), some (I g), none] H := by
  have hne := chain_ne w.b.wf.down hg
  have hl : (Kp332.chain h g).getLastD g ∈ Kp332.chain h g := by
    rw [List.getLastD_eq_getLast?, List.getLast?_eq_some_getLast hne]
    exact List.getLast_mem hne
  have hlt := w.b.wf.chain_lt hg hl
  have ha : atI (nums (Kp332.chain h g)) (-1) = some (I ((Kp332.chain h g).getLastD g)) := by
    have e : Kp332.chain h g = (Kp332.chain h g).dropLast ++ [(Kp332.chain h g).getLastD g] := by
      rw [List.getLastD_eq_getLast?, List.getLast?_eq_some_getLast hne]
      exact (List.dropLast_concat_getLast hne).symm
    rw [e]
    unfold nums
    rw [List.map_append, ← e]
    exact atI_last _ _
  exact b_asg w.x 2 (x_ixL (w.sC (w.iS (w.bS (w.s 0)) (w.s 1))) (x_neg x_int) (SqL.of (w.qC hg)) ha) (b_ret (w.sG (w.iS (w.bS (w.s 0)) (w.s 2))) q)
theorem b_draws_on (w : W X N_draws_on (defScope s_draws_on) j C H A h F) {r g : Nat} (hr : r < h.asked.length) (q : RT D (.bl ((askedAt h r).uses.any fun i => (Kp332.chain h i).contains g)) H) :
    BS X (defBody s_draws_on) D [some (.ref (A.at_ .b)), some (.ref (A.at_ (.a r))), some (I g), none] H := by
  refine b_forL w.x 3 (w.aU (w.s 1)) (SqL.of (w.qU hr)) (fun m σ' H' => Ex H H' ∧ (∃ o1, σ' = [some (.ref (A.at_ .b)), some (.ref (A.at_ (.a r))), some (I g), o1]) ∧ ((askedAt h r).uses.take m).any (fun i => (Kp332.chain h i).contains g) = false) (fun H1 e1 => ⟨e1, ⟨_, rfl⟩, rfl⟩) (fun _ _ _ p => p.1) ?_ ?_
  · rintro m x σ' H' hx ⟨e1, ⟨o1, rfl⟩, ha⟩
    obtain ⟨i, hi, rfl⟩ := nums_get hx
    have hm := List.mem_of_getElem? hi
    have hil := w.b.wf.ause r hr i hm
    have w1 := w.mono e1
    refine b_when (t_inN (w1.s 2) (w1.sC (w1.iS (w1.bS (w1.s 0)) (w1.s 3))) (SqL.of (w1.qC hil))) (fun h1 => b_ret x_bl fun H2 e2 => ?_) (fun h1 => b_nil fun H2 e2 => ⟨e1.trans e2, ⟨_, rfl⟩, ?_⟩)
    · have : ((askedAt h r).uses.any fun i => (Kp332.chain h i).contains g) = true := List.any_eq_true.mpr ⟨i, hm, List.contains_iff_mem.mpr h1⟩
      rw [this] at q
      exact q H2 (e1.trans e2)
    · rw [take_snoc hi, List.any_append, ha, Bool.false_or, List.any_cons, List.any_nil, Bool.or_false]
      rw [← Bool.not_eq_true, List.contains_iff_mem]
      exact h1
  · rintro σ' H' ⟨e1, ⟨o1, rfl⟩, ha⟩
    rw [nums_len, List.take_length] at ha
    rw [ha] at q
    exact b_ret x_bl fun H2 e2 => q H2 (e1.trans e2)
theorem b_drawn_by (w : W X N_drawn_by (defScope s_drawn_by) j C H A h F) (c1 : Callee X "draws_on" j (sp_draws_on C)) {g : Nat} (q : RT D (I (drawn h g)) H) :
    BS X (defBody s_drawn_by) D [some (.ref (A.at_ .b)), some (I g), none, none, none] H := by
  refine b_asg w.x 2 x_int (b_forL w.x 3 (w.bE (w.s 0)) (SqL.of w.qE) (fun m σ' H' => Ex H H' ∧ ∃ o1 o2, σ' = [some (.ref (A.at_ .b)), some (I g), some (I (amt (fun d => d.uses.any fun i => (Kp332.chain h i).contains g) (h.done.take m))), o1, o2]) (fun H1 e1 => ⟨e1, _, _, rfl⟩) (fun _ _ _ p => p.1) ?_ ?_)
  · rintro m x σ' H' hx ⟨e1, o1, o2, rfl⟩
    obtain ⟨hm, rfl⟩ := refs_get hx
    have w1 := w.mono e1
    obtain ⟨d1, d2, d3, d4, d5, d6, d7⟩ := w.b.wf.deed hm
    refine b_asg w.x 4 (w1.iA (w1.bA (w1.s 0)) (w1.dA (w1.s 3))) (b_when (EB.of (w1.call c1 (a_cons (w1.s 0) (a_cons (w1.s 4) (a_cons (w1.s 1) a_nil))) ⟨_, g, d1, rfl, rfl⟩)).t (fun h1 => b_asg w.x 2 (x_addN (w1.s 2) (w1.aM (w1.s 4))) (b_fall (b_nil fun H2 e2 => ⟨e1.trans e2, some (.ref (A.at_ (.d m))), some (.ref (A.at_ (.a (deedAt h m).asked))), ?_⟩))) (fun h1 => b_nil fun H2 e2 => ⟨e1.trans e2, some (.ref (A.at_ (.d m))), some (.ref (A.at_ (.a (deedAt h m).asked))), ?_⟩))
    · rw [take_snoc (deed_at hm), amt_snoc, if_pos (by rw [← d6]; exact h1), ← d5]
      rfl
    · rw [take_snoc (deed_at hm), amt_snoc, if_neg (by rw [← d6]; exact h1)]
      rfl
  · rintro σ' H' ⟨e1, o1, o2, rfl⟩
    have e : amt (fun d => d.uses.any fun i => (Kp332.chain h i).contains g) (h.done.take (refs A h.done.length .d).length) = drawn h g := by
      rw [refs_len, List.take_length]
      rfl
    rw [← e] at q
    exact b_ret ((w.mono e1).s 2) fun H2 e2 => q H2 (e1.trans e2)
theorem b_room_of (w : W X N_room_of (defScope s_room_of) j C H A h F) (c1 : Callee X "is_living" j (sp_is_living C)) (c2 : Callee X "drawn_by" j (sp_drawn_by C)) {g : Nat} (hg : g < h.grants.length) (q : RT D (I (Kp332.room h g)) H) :
    BS X (defBody s_room_of) D [some (.ref (A.at_ .b)), some (I g), none] H := by
  unfold Kp332.room at q
  refine b_when (t_not (EB.of (w.call c1 (a_cons (w.s 0) (a_cons (w.s 1) a_nil)) ⟨g, hg, rfl, rfl⟩)).t) (fun h1 => b_ret x_int (by rwa [if_neg h1] at q)) (fun h1 => ?_)
  rw [if_pos (Classical.not_not.mp h1)] at q
  have hne := chain_ne w.b.wf.down hg
  refine b_ret (w.x.minL w.t.m_min (ns := (Kp332.chain h g).map fun i => (((grantAt h i).total - drawn h i : Nat) : Int)) ((w.x.lcL (xs := nums (Kp332.chain h g)) (f := fun _ => true) (g := fun i => I ((grantAt h ((Kp332.chain h g).getD i 0)).total - drawn h ((Kp332.chain h g).getD i 0))) (on := "link") (oi := 2)
    (Or.inl ⟨_, w.sC (w.iS (w.bS (w.s 0)) (w.s 1)), SqL.of (w.qC hg)⟩) (by rw [nums_len]; have := w.b.wf.chain_len hg; omega) (by decide +kernel) rfl rfl (fun _ => rfl) (fun Y y c i x H1 e1 hx cc hcc => by cases hcc) (Or.inr ⟨rfl, fun _ => rfl⟩) (fun Y y c i x H1 e1 hx _ => ?_)).is ?_) ?_ ?_) q
  · obtain ⟨i', hi, rfl⟩ := nums_get hx
    have hm := List.mem_of_getElem? hi
    have hil := w.b.wf.chain_lt hg hm
    have w1 := (w.mono e1).blk y c
    have hd := w.b.wf.room i' hil
    rw [getD_some hi]
    exact x_is (x_sub (w1.sT (w1.iS (w1.bS (w1.s 0)) (w1.s 2))) (w1.call (y.callee c2) (a_cons (w1.s 0) (a_cons (w1.s 2) a_nil)) ⟨i', rfl, rfl⟩)) (by congr 1; omega)
  · unfold given
    rw [nums_len, List.filter_eq_self.mpr (fun _ _ => rfl), List.map_map]
    refine List.ext_getElem? fun i => ?_
    rw [List.getElem?_map, List.getElem?_map]
    by_cases hi : i < (Kp332.chain h g).length
    · obtain ⟨y, hy⟩ := get_some hi
      rw [List.getElem?_range hi, hy]
      show some (I ((grantAt h ((Kp332.chain h g).getD i 0)).total - drawn h ((Kp332.chain h g).getD i 0))) = _
      rw [getD_some hy]
      rfl
    · rw [List.getElem?_eq_none (by rw [List.length_range]; omega), List.getElem?_eq_none (by omega)]
      rfl
  · have := least_mem (l := (Kp332.chain h g).map fun i => (grantAt h i).total - drawn h i) (by simp [hne])
    obtain ⟨i, hi, e⟩ := List.mem_map.mp this
    rw [← e]
    exact List.mem_map.mpr ⟨i, hi, rfl⟩
  · intro y hy
    obtain ⟨i, hi, rfl⟩ := List.mem_map.mp hy
    have := least_le (List.mem_map.mpr ⟨i, hi, rfl⟩ : (grantAt h i).total - drawn h i ∈ (Kp332.chain h g).map fun i => (grantAt h i).total - drawn h i)
    omega
theorem b_holds (w : W X N_holds (defScope s_holds) j C H A h F) (c1 : Callee X "is_living" j (sp_is_living C)) (c2 : Callee X "room_of" j (sp_room_of C)) {g m : Nat} (hg : g < h.grants.length) (q : RT D (.bl (holdm h m g)) H) :
    BS X (defBody s_holds) D [some (.ref (A.at_ .b)), some (I g), some (I m)] H := by
  refine b_ret ((b_and (EB.of (w.call c1 (a_cons (w.s 0) (a_cons (w.s 1) a_nil)) ⟨g, hg, rfl, rfl⟩)) fun _ => b_and (b_le (w.s 2) (w.sE (w.iS (w.bS (w.s 0)) (w.s 1)))) fun _ => b_one (b_le (w.s 2) (w.call c2 (a_cons (w.s 0) (a_cons (w.s 1) a_nil)) ⟨g, hg, rfl, rfl⟩))).vl ?_) q
  unfold holdm
  rw [Bool.and_eq_true, Bool.and_eq_true, decide_eq_true_iff, decide_eq_true_iff]
  constructor
  · rintro ⟨h1, h2, h3⟩
    exact ⟨⟨by omega, h1⟩, by omega⟩
  · rintro ⟨⟨h1, h2⟩, h3⟩
    exact ⟨h2, by omega, by omega⟩
end
end Jd
namespace Jd
open PySem PySem.Spec PyProof.Rows L2 Evl Kp332

section
variable {X : Cx} {N : List Str} {sc : Scope} {k : Nat} {σ : L2.St} {H : Hp} {e a b c : Expr}
def desc (l : List Nat) : List Nat := l.mergeSort (fun a b => decide (b ≤ a))
theorem desc_perm (l : List Nat) : (desc l).Perm l := List.mergeSort_perm _ _
theorem desc_pair (l : List Nat) : (desc l).Pairwise (fun a b => b ≤ a) := by
  have := List.pairwise_mergeSort (le := fun a b => decide (b ≤ a)) (fun a b c h1 h2 => by simp at *; omega) (fun a b => by simp; omega) l
  exact this.imp fun h => by simpa using h
theorem XC.sortedR {p : Addr} {ys : List Nat} {pn pos kp tp : Pos} {tj : Nat} (C : XC X N sc k) (hm : NoMg X "sorted") (ha : EV X e σ H (.ref p)) (h : SqL X.K H p (nums ys)) (hg : GlS sc "sorted" := by rfl) (he : starEach [e] X.env = [(false, eval e X.env)] := by rfl)
    (h3 : PE X (.Call (.Name "sorted" pn) [e] [⟨some "reverse", .Constant (.bool true) tj tp, kp⟩] pos) (tCKw (rSortedKw X.K true [.bl true]) (tCons (WE X e) tNil) (tCons (tC (.bl true)) tNil))) : EL X (.Call (.Name "sorted" pn) [e] [⟨some "reverse", .Constant (.bool true) tj tp, kp⟩] pos) σ H (nums (desc ys)) :=
  el_of h3 fun H1 e1 Q q => ha H1 e1 _ fun H2 e2 => ⟨p, ys.map (fun (n : Nat) => (n : Int)), rfl, rfl, ex_l (e1.trans e2) (by rw [← nums_ints]; exact h), fun ns' p' hp ho hn => by
    have hp2 : ns'.Pairwise (fun a b => b ≤ a) := ho
    have e : ns' = (desc ys).map (fun (n : Nat) => (n : Int)) := by
      refine List.Perm.eq_of_pairwise (le := fun a b => b ≤ a) (fun a b _ _ h1 h2 => Int.le_antisymm h2 h1) hp2 ?_ (hp.trans ((desc_perm ys).symm.map _))
      exact (desc_pair ys).map _ fun a b h => by omega
    have : ns'.map V.int = nums (desc ys) := by rw [e, ← nums_ints]
    exact q p' _ (fresh_back e2 hn) (e2.trans (Ex.new hn)) (by rw [upd_same, this])⟩
end

def betw (k a b : Nat) (d : Kp332.Deed) : Bool := d.kind == k && decide (a ≤ d.day) && decide (d.day ≤ b)
def sp_done_between (C : Cs) : Sp := spQ C fun A h vs v => ∃ k a b : Nat, vs = [.ref (A.at_ .b), I k, I a, I b] ∧ v = I (amt (betw k a b) h.done)
def sp_left_today (C : Cs) : Sp := spQ C fun A h vs v => ∃ k : Nat, k < h.rules.length ∧ vs = [.ref (A.at_ .b), I k] ∧ v = I (left h k)
def saying (a : Kp332.Asked) (s : Nat) : Kp332.Asked := { a with yes := s }
def sp_who_count (C : Cs) : Sp := spQ C fun A h vs v => ∃ r s : Nat, r < h.asked.length ∧ vs = [.ref (A.at_ .b), .ref (A.at_ (.a r)), I s] ∧ v = I (Kp332.counts h (saying (askedAt h r) s) 0)
def sp_how_many_must (C : Cs) : Sp := spQ C fun A h vs v => ∃ r : Nat, r < h.asked.length ∧ vs = [.ref (A.at_ .b), .ref (A.at_ (.a r))] ∧ v = I (need h (askedAt h r))
def lack (h : House) (a : Kp332.Asked) (s : Nat) : Nat := need h a - size h.n (Kp332.counts h (saying a s) 0)
def sp_how_many_lack (C : Cs) : Sp := spQ C fun A h vs v => ∃ r s : Nat, r < h.asked.length ∧ vs = [.ref (A.at_ .b), .ref (A.at_ (.a r)), I s] ∧ v = I (lack h (askedAt h r) s)
def refDeed (h : House) (a : Kp332.Asked) (s : Nat) : Int := if a.state ≠ 0 then -6 else if old h a = true then -8 else if (a.uses.all fun g => Kp332.holds h a g) = false then -14 else if 0 < lack h a s then -13 else if left h a.kind < a.amount then -28 else 0
def sp_refusal_of_deed (C : Cs) : Sp := spQ C fun A h vs v => ∃ r s : Nat, r < h.asked.length ∧ vs = [.ref (A.at_ .b), .ref (A.at_ (.a r)), I s] ∧ v = .int (refDeed h (askedAt h r) s)
def sp_most_from (C : Cs) : Sp := spQ C fun A h vs v => ∃ p q k : Nat, vs = [.ref (A.at_ .b), I p, I q, I k] ∧ v = I (mfrom h q k p)
def sp_most_by_standing (C : Cs) : Sp := spQ C fun A h vs v => ∃ q k : Nat, k < h.rules.length ∧ vs = [.ref (A.at_ .b), I q, I k] ∧ v = I (mbs h q k (desc (mlist h q k)))
def sp_is_rule (C : Cs) : Sp := spQ C fun A h vs v => ∃ a b c d e : Nat, vs = [.ref (A.at_ .b), I a, I b, I c, I d, I e] ∧ v = .bl (okRule h a b c d e)

section
variable {X : Cx} {j : Nat} {C : Cs} {H : Hp} {A : Ad} {h : House} {F : Hp} {D : Ends}
theorem b_done_between (w : W X N_done_between (defScope s_done_between) j C H A h F) {k a b : Nat} (q : RT D (I (amt (betw k a b) h.done)) H) :
    BS X (defBody s_done_between) D [some (.ref (A.at_ .b)), some (I k), some (I a), some (I b), none, none, none] H := by
  refine b_asg w.x 4 x_int (b_forL w.x 5 (w.bE (w.s 0)) (SqL.of w.qE) (fun m σ' H' => Ex H H' ∧ ∃ o1 o2, σ' = [some (.ref (A.at_ .b)), some (I k), some (I a), some (I b), some (I (amt (betw k a b) (h.done.take m))), o1, o2]) (fun H1 e1 => ⟨e1, _, _, rfl⟩) (fun _ _ _ p => p.1) ?_ ?_)
  · rintro m x σ' H' hx ⟨e1, o1, o2, rfl⟩
    obtain ⟨hm, rfl⟩ := refs_get hx
    have w1 := w.mono e1
    obtain ⟨d1, d2, d3, d4, d5, d6, d7⟩ := w.b.wf.deed hm
    refine b_asg w.x 6 (w1.iA (w1.bA (w1.s 0)) (w1.dA (w1.s 5))) (b_when (w_and (t_eq (w1.aK (w1.s 6)) (w1.s 1)) fun _ => w_and (t_ge (w1.dD (w1.s 5)) (w1.s 2)) fun _ => w_and1 (t_le (w1.dD (w1.s 5)) (w1.s 3))).t
      (fun h1 => b_asg w.x 4 (x_addN (w1.s 4) (w1.aM (w1.s 6))) (b_fall (b_nil fun H2 e2 => ⟨e1.trans e2, some (.ref (A.at_ (.d m))), some (.ref (A.at_ (.a (deedAt h m).asked))), ?_⟩))) (fun h1 => b_nil fun H2 e2 => ⟨e1.trans e2, some (.ref (A.at_ (.d m))), some (.ref (A.at_ (.a (deedAt h m).asked))), ?_⟩))
    · rw [take_snoc (deed_at hm), amt_snoc, if_pos (by simp [betw]; omega), ← d5]
      rfl
    · rw [take_snoc (deed_at hm), amt_snoc, if_neg (by simp [betw]; omega)]
      rfl
  · rintro σ' H' ⟨e1, o1, o2, rfl⟩
    rw [refs_len, List.take_length]
    exact b_ret ((w.mono e1).s 4) fun H2 e2 => q H2 (e1.trans e2)
theorem today_betw (h : House) (k : Nat) : amt (betw k h.day h.day) h.done = Kp332.today h k := by
  show amt _ _ = amt (fun d => d.kind == k && d.day == h.day) h.done
  refine amt_congr fun d _ => ?_
  unfold betw
  rw [Bool.and_assoc]
  congr 1
  rw [Bool.eq_iff_iff]
  simp
  omega
theorem b_left_today (w : W X N_left_today (defScope s_left_today) j C H A h F) (c1 : Callee X "done_between" j (sp_done_between C)) {k : Nat} (hk : k < h.rules.length) (q : RT D (I (left h k)) H) :
    BS X (defBody s_left_today) D [some (.ref (A.at_ .b)), some (I k)] H :=
  b_ret (x_is (w.x.max2 w.t.m_max x_int (x_sub (w.rD (w.iR (w.bR (w.s 0)) (w.s 1))) (w.call c1 (a_cons (w.s 0) (a_cons (w.s 1) (a_cons (w.bD (w.s 0)) (a_cons (w.bD (w.s 0)) a_nil)))) ⟨_, _, _, rfl, rfl⟩))) (by
    rw [today_betw]
    unfold left
    congr 1
    omega)) q
theorem Wf.root_lt {h : House} (w : Wf h) {g : Nat} (hg : g < h.grants.length) : Kp332.root h g < h.n := by
  have hne := chain_ne w.down hg
  have hl : (Kp332.chain h g).getLastD g ∈ Kp332.chain h g := by
    rw [List.getLastD_eq_getLast?, List.getLast?_eq_some_getLast hne]
    exact List.getLast_mem hne
  exact w.giver _ (w.chain_lt hg hl)
theorem b_who_count (w : W X N_who_count (defScope s_who_count) j C H A h F) (c1 : Callee X "holds" j (sp_holds C)) (c2 : Callee X "root_of" j (sp_root_of C)) {r s : Nat} (hr : r < h.asked.length) (q : RT D (I (Kp332.counts h (saying (askedAt h r) s) 0)) H) :
    BS X (defBody s_who_count) D [some (.ref (A.at_ .b)), some (.ref (A.at_ (.a r))), some (I s), none, none] H := by
  have hk := w.b.wf.akind r hr
  have hn := w.b.wf.n8
  have hb := w.b.wf.aasker r hr
  refine b_asg w.x 3 (w.s 2) (b_forL w.x 4 (w.aU (w.s 1)) (SqL.of (w.qU hr)) (fun m σ' H' => Ex H H' ∧ ∃ o1, σ' = [some (.ref (A.at_ .b)), some (.ref (A.at_ (.a r))), some (I s), some (I (((askedAt h r).uses.take m).foldl (fun (t g : Nat) => if Kp332.holds h (saying (askedAt h r) s) g then t ||| 2 ^ Kp332.root h g else t) s)), o1]) (fun H1 e1 => ⟨e1, _, rfl⟩) (fun _ _ _ p => p.1) ?_ ?_)
  · rintro m x σ' H' hx ⟨e1, o1, rfl⟩
    obtain ⟨i, hi, rfl⟩ := nums_get hx
    have hm := List.mem_of_getElem? hi
    have hil := w.b.wf.ause r hr i hm
    have w1 := w.mono e1
    have hrt := w.b.wf.root_lt hil
    refine b_when (EB.of (w1.call c1 (a_cons (w1.s 0) (a_cons (w1.s 4) (a_cons (w1.aM (w1.s 1)) a_nil))) ⟨i, _, hil, rfl, rfl⟩)).t (fun h1 => b_asg w.x 3 (x_orN (w1.s 3) (x_bit (w1.call c2 (a_cons (w1.s 0) (a_cons (w1.s 4) a_nil)) ⟨i, hil, rfl, rfl⟩) (by omega))) (b_fall (b_nil fun H2 e2 => ⟨e1.trans e2, some (I i), ?_⟩))) (fun h1 => b_nil fun H2 e2 => ⟨e1.trans e2, some (I i), ?_⟩)
    · rw [take_snoc hi, List.foldl_append, List.foldl_cons, List.foldl_nil, if_pos (show Kp332.holds h (saying (askedAt h r) s) i = true from h1)]
      rfl
    · rw [take_snoc hi, List.foldl_append, List.foldl_cons, List.foldl_nil, if_neg (show ¬ Kp332.holds h (saying (askedAt h r) s) i = true from h1)]
      rfl
  · rintro σ' H' ⟨e1, o1, rfl⟩
    have w1 := w.mono e1
    rw [nums_len, List.take_length]
    refine b_ret (x_is (x_and (x_andN (w1.s 3) (w1.rM (w1.iR (w1.bR (w1.s 0)) (w1.aK (w1.s 1))))) (x_inv (x_bit (w1.aA (w1.s 1)) (by omega)))) ?_) fun H2 e2 => q H2 (e1.trans e2)
    have ec := counts_is (h := h) (a := saying (askedAt h r) s) (more := 0) (w.b.wf.may _ hk)
    rw [ec, bAndNot, Nat.or_zero]
    rfl
theorem b_how_many_must (w : W X N_how_many_must (defScope s_how_many_must) j C H A h F) {r : Nat} (hr : r < h.asked.length) (q : RT D (I (need h (askedAt h r))) H) :
    BS X (defBody s_how_many_must) D [some (.ref (A.at_ .b)), some (.ref (A.at_ (.a r))), none] H := by
  have hk := w.b.wf.akind r hr
  unfold need at q
  refine b_asg w.x 2 (w.iR (w.bR (w.s 0)) (w.aK (w.s 1))) (b_when (t_le (w.aM (w.s 1)) (w.rF (w.s 2))) (fun h1 => b_ret x_int (by rwa [if_pos (by omega)] at q)) fun h1 => b_ret (w.rN (w.s 2)) (by rwa [if_neg (by omega)] at q))
theorem b_how_many_lack (w : W X N_how_many_lack (defScope s_how_many_lack) j C H A h F) (c1 : Callee X "how_many_must" j (sp_how_many_must C)) (c2 : Callee X "how_many" j sp_how_many) (c3 : Callee X "who_count" j (sp_who_count C)) {r s : Nat} (hr : r < h.asked.length) (q : RT D (I (lack h (askedAt h r) s)) H) :
    BS X (defBody s_how_many_lack) D [some (.ref (A.at_ .b)), some (.ref (A.at_ (.a r))), some (I s)] H :=
  b_ret (x_is (w.x.max2 w.t.m_max x_int (x_sub (w.call c1 (a_cons (w.s 0) (a_cons (w.s 1) a_nil)) ⟨r, hr, rfl, rfl⟩) (w.x.call c2 (a_cons (w.call c3 (a_cons (w.s 0) (a_cons (w.s 1) (a_cons (w.s 2) a_nil))) ⟨r, s, hr, rfl, rfl⟩) a_nil) fun _ _ => ⟨_, h.n, counts_lt, rfl, rfl⟩))) (by
    unfold lack
    congr 1
    omega)) q
theorem b_refusal_of_deed (w : W X N_refusal_of_deed (defScope s_refusal_of_deed) j C H A h F) (c1 : Callee X "too_old" j (sp_too_old C)) (c2 : Callee X "holds" j (sp_holds C)) (c3 : Callee X "how_many_lack" j (sp_how_many_lack C)) (c4 : Callee X "left_today" j (sp_left_today C)) {r s : Nat} (hr : r < h.asked.length) (q : RT D (.int (refDeed h (askedAt h r) s)) H) :
    BS X (defBody s_refusal_of_deed) D [some (.ref (A.at_ .b)), some (.ref (A.at_ (.a r))), some (I s), none] H := by
  have hk := w.b.wf.akind r hr
  unfold refDeed at q
  refine b_when (t_ne (w.aG (w.s 1)) (w.x.g w.t.OPEN)) (fun h1 => b_ret (x_neg (w.x.g w.t.NOT_OPEN)) (by rwa [if_pos (by omega)] at q)) fun h1 => ?_
  rw [if_neg (by omega)] at q
  refine b_when (EB.of (w.call c1 (a_cons (w.s 0) (a_cons (w.s 1) a_nil)) ⟨r, hr, rfl, rfl⟩)).t (fun h1 => b_ret (x_neg (w.x.g w.t.TOO_OLD)) (by rwa [if_pos h1] at q)) fun h1 => ?_
  rw [if_neg h1] at q
  refine b_forL w.x 3 (w.aU (w.s 1)) (SqL.of (w.qU hr)) (fun m σ' H' => Ex H H' ∧ (∃ o1, σ' = [some (.ref (A.at_ .b)), some (.ref (A.at_ (.a r))), some (I s), o1]) ∧ ((askedAt h r).uses.take m).all (fun g => Kp332.holds h (askedAt h r) g) = true) (fun H1 e1 => ⟨e1, ⟨_, rfl⟩, rfl⟩) (fun _ _ _ p => p.1) ?_ ?_
  · rintro m x σ' H' hx ⟨e1, ⟨o1, rfl⟩, ha⟩
    obtain ⟨i, hi, rfl⟩ := nums_get hx
    have hm := List.mem_of_getElem? hi
    have hil := w.b.wf.ause r hr i hm
    have w1 := w.mono e1
    refine b_when (t_not (EB.of (w1.call c2 (a_cons (w1.s 0) (a_cons (w1.s 3) (a_cons (w1.aM (w1.s 1)) a_nil))) ⟨i, _, hil, rfl, rfl⟩)).t) (fun h1 => b_ret (x_neg (w1.x.g w.t.NOT_HOLDING)) fun H2 e2 => ?_) (fun h1 => b_nil fun H2 e2 => ⟨e1.trans e2, ⟨_, rfl⟩, ?_⟩)
    · have : ((askedAt h r).uses.all fun g => Kp332.holds h (askedAt h r) g) = false := List.all_eq_false.mpr ⟨i, hm, h1⟩
      rw [if_pos this] at q
      exact q H2 (e1.trans e2)
    · rw [take_snoc hi, List.all_append, ha, Bool.true_and, List.all_cons, List.all_nil, Bool.and_true]
      exact Classical.not_not.mp h1
  · rintro σ' H' ⟨e1, ⟨o1, rfl⟩, ha⟩
    rw [nums_len, List.take_length] at ha
    rw [if_neg (by rw [ha]; decide)] at q
    have w1 := w.mono e1
    refine b_when (t_gt (w1.call c3 (a_cons (w1.s 0) (a_cons (w1.s 1) (a_cons (w1.s 2) a_nil))) ⟨r, s, hr, rfl, rfl⟩) x_int) (fun h1 => b_ret (x_neg (w1.x.g w.t.NOT_ALLOWED)) fun H2 e2 => (by rw [if_pos (by omega)] at q; exact q H2 (e1.trans e2))) fun h1 => ?_
    rw [if_neg (by omega)] at q
    refine b_when (t_gt (w1.aM (w1.s 1)) (w1.call c4 (a_cons (w1.s 0) (a_cons (w1.aK (w1.s 1)) a_nil)) ⟨_, hk, rfl, rfl⟩)) (fun h1 => b_ret (x_neg (w1.x.g w.t.NO_MORE)) fun H2 e2 => (by rw [if_pos (by omega)] at q; exact q H2 (e1.trans e2))) fun h1 => ?_
    rw [if_neg (by omega)] at q
    exact b_ret x_int fun H2 e2 => q H2 (e1.trans e2)
theorem b_most_from (w : W X N_most_from (defScope s_most_from) j C H A h F) (c1 : Callee X "root_of" j (sp_root_of C)) (c2 : Callee X "room_of" j (sp_room_of C)) {p t k : Nat} (q : RT D (I (mfrom h t k p)) H) :
    BS X (defBody s_most_from) D [some (.ref (A.at_ .b)), some (I p), some (I t), some (I k), none, none, none] H := by
  have hgl := w.b.wf.gl
  refine b_asg w.x 4 x_int (b_forR w.x 5 w.t.m_range (w.nS (w.bS (w.s 0))) (by omega) (fun m σ' H' => Ex H H' ∧ ∃ o1 o2, σ' = [some (.ref (A.at_ .b)), some (I p), some (I t), some (I k), some (I (best (mval h) (mcnd h t k p) m)), o1, o2]) (fun H1 e1 => ⟨e1, _, _, rfl⟩) ?_ ?_)
  · rintro m σ' H' hm ⟨e1, o1, o2, rfl⟩
    have w1 := w.mono e1
    refine b_asg w.x 6 (w1.iS (w1.bS (w1.s 0)) (w1.s 5)) (b_when (w_and (t_eq (w1.sK (w1.s 6)) (w1.s 3)) fun _ => w_and (t_eq (w1.sH (w1.s 6)) (w1.s 2)) fun _ => w_and1 (t_eq (w1.call c1 (a_cons (w1.s 0) (a_cons (w1.s 5) a_nil)) ⟨m, hm, rfl, rfl⟩) (w1.s 1))).t
      (fun h1 => b_asg w.x 4 (w1.x.max2 w.t.m_max (w1.s 4) (w1.x.min2 w.t.m_min (w1.sE (w1.s 6)) (w1.call c2 (a_cons (w1.s 0) (a_cons (w1.s 5) a_nil)) ⟨m, hm, rfl, rfl⟩))) (b_fall (b_nil fun H2 e2 => ⟨e1.trans e2, some (I m), some (.ref (A.at_ (.g m))), ?_⟩))) (fun h1 => b_nil fun H2 e2 => ⟨e1.trans e2, some (I m), some (.ref (A.at_ (.g m))), ?_⟩))
    · have : best (mval h) (mcnd h t k p) (m + 1) = max (best (mval h) (mcnd h t k p) m) (mval h m) := by
        show (if mcnd h t k p m = true then _ else _) = _
        rw [if_pos (by simp [mcnd]; omega)]
      rw [this]
      show [_, _, _, _, some (V.int (max _ (min _ _))), _, _] = _
      have e : (max ((best (mval h) (mcnd h t k p) m : Nat) : Int) (min ((grantAt h m).each : Int) (Kp332.room h m : Int))) = ((max (best (mval h) (mcnd h t k p) m) (mval h m) : Nat) : Int) := by
        unfold mval
        omega
      rw [e]
    · have : best (mval h) (mcnd h t k p) (m + 1) = best (mval h) (mcnd h t k p) m := by
        show (if mcnd h t k p m = true then _ else _) = _
        rw [if_neg (by simp [mcnd]; omega)]
      rw [this]
      rfl
  · rintro σ' H' ⟨e1, o1, o2, rfl⟩
    exact b_ret ((w.mono e1).s 4) fun H2 e2 => q H2 (e1.trans e2)
theorem b_is_rule (w : W X N_is_rule (defScope s_is_rule) j C H A h F) (c1 : Callee X "is_set" j sp_is_set) {m n f d l : Nat} (q : RT D (.bl (okRule h m n f d l)) H) :
    BS X (defBody s_is_rule) D [some (.ref (A.at_ .b)), some (I m), some (I n), some (I f), some (I d), some (I l)] H := by
  have eo : okRule h m n f d l = true ↔ m < 2 ^ h.n ∧ n ≤ 3 ∧ f ≤ 1000000 ∧ d ≤ 1000000 ∧ 1 ≤ l ∧ l ≤ 30 := by
    unfold okRule isSet MOST
    simp only [Bool.and_eq_true, decide_eq_true_iff]
    omega
  refine b_when (w_or (t_not (EB.of (w.x.call c1 (a_cons (w.s 1) (a_cons (w.bP (w.s 0)) a_nil)) fun _ _ => ⟨m, h.n, w.b.wf.n8, rfl, rfl⟩)).t) fun _ => w_or1 (t_gt (w.s 2) (w.x.g w.t.MOST_NEED))).t (fun h1 => b_ret x_bl ?_) fun h1 => ?_
  · have : okRule h m n f d l = false := by
      rw [← Bool.not_eq_true, eo]
      rw [decide_eq_true_iff] at h1
      omega
    rwa [this] at q
  rw [decide_eq_true_iff] at h1
  refine b_when (w_or (t_gt (w.s 3) (w.x.g w.t.MOST_AMOUNT)) fun _ => w_or1 (t_gt (w.s 4) (w.x.g w.t.MOST_AMOUNT))).t (fun h2 => b_ret x_bl ?_) fun h2 => ?_
  · have : okRule h m n f d l = false := by
      rw [← Bool.not_eq_true, eo]
      omega
    rwa [this] at q
  exact b_ret ((b_and (b_ge (w.s 5) x_int) fun _ => b_one (b_le (w.s 5) (w.x.g w.t.LONGEST_LIFE))).vl (by rw [eo]; omega)) q
theorem b_most_by_standing (w : W X N_most_by_standing (defScope s_most_by_standing) j C H A h F) (c1 : Callee X "has" j sp_has) (c2 : Callee X "most_from" j (sp_most_from C)) {t k : Nat} (hk : k < h.rules.length) (q : RT D (I (mbs h t k (desc (mlist h t k)))) H) :
    BS X (defBody s_most_by_standing) D [some (.ref (A.at_ .b)), some (I t), some (I k), none, none, none] H := by
  have hn := w.b.wf.n8
  unfold mbs at q
  refine b_asg w.x 3 (w.iR (w.bR (w.s 0)) (w.s 2)) (b_when (t_eq (w.rN (w.s 3)) x_int) (fun h1 => b_ret (w.rD (w.s 3)) (by rwa [if_pos (by omega)] at q)) fun h1 => ?_)
  rw [if_neg (by omega)] at q
  refine b_asgL w.x 4 (l_lst a_nil (by decide)) fun p H1 hp e1 h2 => ?_
  refine b_forR w.x 5 w.t.m_range ((w.mono e1).bP ((w.mono e1).s 0)) (by omega) (fun m σ' H' => Ex H H' ∧ (∃ o1, σ' = [some (.ref (A.at_ .b)), some (I t), some (I k), some (.ref (A.at_ (.r k))), some (.ref p), o1]) ∧ H' p = some (.lst (nums (((List.range m).filter (mper h t k)).map (mfrom h t k))))) (fun H2 e2 => ⟨e1.trans e2, ⟨_, rfl⟩, e2 _ _ h2⟩) ?_ ?_
  · rintro m σ' H' hm ⟨e1, ⟨o1, rfl⟩, hl⟩
    have w1 := w.mono e1
    refine b_when (w_and (t_ne (w1.s 5) (w1.s 1)) fun _ => w_and1 (EB.of (w1.x.call c1 (a_cons (w1.rM (w1.s 3)) (a_cons (w1.s 5) a_nil)) fun _ _ => ⟨_, _, rfl, rfl⟩)).t).t
      (fun h1 => b_app (w1.s 4) hl (w1.call c2 (a_cons (w1.s 0) (a_cons (w1.s 5) (a_cons (w1.s 1) (a_cons (w1.s 2) a_nil)))) ⟨m, t, k, rfl, rfl⟩) (by rw [nums_len, List.length_map]; have := List.length_filter_le (mper h t k) (List.range m); rw [List.length_range] at this; omega) fun H2 e2 => b_fall (b_nil fun H3 e3 => ⟨(Ex.mut (e1.trans e2) hp).trans e3, ⟨_, rfl⟩, e3 _ _ ?_⟩)) (fun h1 => b_nil fun H2 e2 => ⟨e1.trans e2, ⟨_, rfl⟩, e2 _ _ ?_⟩)
    · rw [upd_same, List.range_succ, List.filter_append, List.map_append, List.filter_cons, if_pos (by simp [mper]; exact ⟨by omega, h1.2⟩)]
      unfold nums
      rw [List.map_append]
      rfl
    · rw [hl, List.range_succ, List.filter_append, List.map_append, List.filter_cons, if_neg (by
        simp only [mper, Bool.and_eq_true, bne_iff_ne]
        exact fun z => h1 ⟨by omega, z.2⟩), List.filter_nil, List.map_nil, List.append_nil]
  · rintro σ' H' ⟨e1, ⟨o1, rfl⟩, hl⟩
    have w1 := w.mono e1
    have hlen : (desc (mlist h t k)).length = (mlist h t k).length := (desc_perm _).length_eq
    refine b_when (t_lt (w1.x.len w.t.m_len (w1.s 4) (SqL.of hl)) (w1.rN (w1.s 3))) (fun h1 => b_ret x_int fun H2 e2 => ?_) fun h1 => ?_
    · rw [if_pos (by rw [hlen]; rw [nums_len] at h1; unfold mlist; omega)] at q
      exact q H2 (e1.trans e2)
    · rw [nums_len] at h1
      have hl2 : ¬ (desc (mlist h t k)).length < (ruleAt h k).need := by rw [hlen]; unfold mlist; omega
      rw [if_neg hl2] at q
      obtain ⟨y, hy⟩ := get_some (l := desc (mlist h t k)) (i := (ruleAt h k).need - 1) (by omega)
      rw [getD_some hy] at q
      refine b_ret (x_ixLN (w1.x.sortedR w.t.m_sorted (w1.s 4) (SqL.of hl) (h3 := pe_callBK cr_sortedRev (w1.x.gl rfl) w.t.m_sorted (by decide +kernel) (pa_cons we_pe pa_nil) (pk_cons pe_bl pk_nil))) (x_nat (n := (ruleAt h k).need - 1) (x_sub (w1.rN (w1.s 3)) x_int) (by omega)) (atI_nat (nums_at hy))) fun H2 e2 => q H2 (e1.trans e2)
end
end Jd
namespace Jd
open PySem PySem.Spec PyProof.Rows L2 Evl Kp332

/-- what is answered, its first number and the rest -/
def num (h : House) (c : Kp332.Call) : Int := (Kp332.step (some h) c).2.num
def ans (h : House) (c : Kp332.Call) : List V := V.int (num h c) :: (Kp332.step (some h) c).2.nums.map V.int
theorem askG_in {st : State} {h : House} {g : Nat} {f : Grant → Ans} (hg : g < h.grants.length) : askG st h g f = (st, f (grantAt h g)) := by
  unfold askG isG
  rw [if_pos (decide_eq_true hg)]
theorem askG_out {st : State} {h : House} {g : Nat} {f : Grant → Ans} (hg : ¬ g < h.grants.length) : askG st h g f = (st, say (-2)) := by
  unfold askG isG
  rw [if_neg (by simpa using hg)]
theorem ofR_in {st : State} {h : House} {r : Nat} {f : Kp332.Asked → State × Ans} (hr : r < h.asked.length) : ofR st h r f = f (askedAt h r) := by
  unfold ofR isR
  rw [if_pos (decide_eq_true hr)]
theorem ofR_out {st : State} {h : House} {r : Nat} {f : Kp332.Asked → State × Ans} (hr : ¬ r < h.asked.length) : ofR st h r f = (st, say (-2)) := by
  unfold ofR isR
  rw [if_neg (by simpa using hr)]
theorem isK_in {h : House} {k : Nat} (hk : k < h.rules.length) : isK h k = true := decide_eq_true hk
theorem isK_out {h : House} {k : Nat} (hk : ¬ k < h.rules.length) : isK h k = false := decide_eq_false hk
def sp_q0 (C : Cs) (f : Kp332.Call) : Sp := spQ C fun A h vs v => vs = [.ref (A.at_ .b)] ∧ v = .int (num h f)
def sp_q1 (C : Cs) (f : Nat → Kp332.Call) : Sp := spQ C fun A h vs v => ∃ a : Nat, vs = [.ref (A.at_ .b), I a] ∧ v = .int (num h (f a))
def sp_q2 (C : Cs) (f : Nat → Nat → Kp332.Call) : Sp := spQ C fun A h vs v => ∃ a b : Nat, vs = [.ref (A.at_ .b), I a, I b] ∧ v = .int (num h (f a b))
def sp_q3 (C : Cs) (f : Nat → Nat → Nat → Kp332.Call) : Sp := spQ C fun A h vs v => ∃ a b c : Nat, vs = [.ref (A.at_ .b), I a, I b, I c] ∧ v = .int (num h (f a b c))
def sp_l1 (C : Cs) (f : Nat → Kp332.Call) : Sp := spQL C fun A h vs xs => ∃ a : Nat, vs = [.ref (A.at_ .b), I a] ∧ xs = ans h (f a)
abbrev RL (D : Ends) (xs : List V) (H : Hp) : Prop := ∀ p H1, H p = none → Ex H H1 → H1 p = some (.lst xs) → D.rt (.ref p) H1
theorem need_why {h : House} {r s : Nat} (hr : r < h.asked.length) : refDeed h (askedAt h r) ((askedAt h r).yes ||| s) = (match whyNot h r s with | some v => v | none => 0) := by
  have ec : Kp332.counts h (saying (askedAt h r) ((askedAt h r).yes ||| s)) 0 = Kp332.counts h (askedAt h r) s := counts_more
  have ew : whyNot h r s = (if h.asked.length ≤ r then some (-2) else if (askedAt h r).state ≠ 0 then some (-6) else if old h (askedAt h r) = true then some (-8) else if ((askedAt h r).uses.all fun g => Kp332.holds h (askedAt h r) g) = false then some (-14) else if size h.n (Kp332.counts h (askedAt h r) s) < need h (askedAt h r) then some (-13) else if left h (askedAt h r).kind < (askedAt h r).amount then some (-28) else none) := rfl
  have hl : ¬ h.asked.length ≤ r := by omega
  unfold refDeed lack
  rw [ec, ew, if_neg hl]
  by_cases h1 : (askedAt h r).state ≠ 0
  · rw [if_pos h1, if_pos h1]
  rw [if_neg h1, if_neg h1]
  by_cases h2 : old h (askedAt h r) = true
  · rw [if_pos h2, if_pos h2]
  rw [if_neg h2, if_neg h2]
  by_cases h3 : ((askedAt h r).uses.all fun g => Kp332.holds h (askedAt h r) g) = false
  · rw [if_pos h3, if_pos h3]
  rw [if_neg h3, if_neg h3]
  by_cases h4 : size h.n (Kp332.counts h (askedAt h r) s) < need h (askedAt h r)
  · rw [if_pos h4, if_pos (by omega)]
  rw [if_neg h4, if_neg (by omega)]
  by_cases h5 : left h (askedAt h r).kind < (askedAt h r).amount
  · rw [if_pos h5, if_pos h5]
  rw [if_neg h5, if_neg h5]
theorem why_say (o : Option Int) (st : State) : ((st, match o with | some v => say v | none => say 0) : State × Ans).2.num = (match o with | some v => v | none => 0) := by
  cases o <;> rfl

section
variable {X : Cx} {j : Nat} {C : Cs} {H : Hp} {A : Ad} {h : House} {F : Hp} {D : Ends}
theorem b_lives (w : W X N_lives (defScope s_lives) j C H A h F) (c1 : Callee X "is_living" j (sp_is_living C)) {g : Nat} (q : RT D (.int (num h (.lives g))) H) : BS X (defBody s_lives) D [some (.ref (A.at_ .b)), some (I g)] H := by
  have e : num h (.lives g) = (askG (some h) h g fun _ => say (if living h g then 1 else 0)).2.num := rfl
  rw [e] at q
  refine b_when (t_ge (w.s 1) (w.nS (w.bS (w.s 0)))) (fun h1 => b_ret (x_neg (w.x.g w.t.NO_SUCH)) (by rwa [askG_out (by omega)] at q)) fun h1 => ?_
  have hg : g < h.grants.length := by omega
  rw [askG_in hg] at q
  refine b_when (EB.of (w.call c1 (a_cons (w.s 0) (a_cons (w.s 1) a_nil)) ⟨g, hg, rfl, rfl⟩)).t (fun h2 => b_ret x_int (by rwa [if_pos h2] at q)) fun h2 => b_ret x_int (by rwa [if_neg h2] at q)
theorem b_room (w : W X N_room (defScope s_room) j C H A h F) (c1 : Callee X "room_of" j (sp_room_of C)) {g : Nat} (q : RT D (.int (num h (.room g))) H) : BS X (defBody s_room) D [some (.ref (A.at_ .b)), some (I g)] H := by
  have e : num h (.room g) = (askG (some h) h g fun _ => say (Kp332.room h g : Nat)).2.num := rfl
  rw [e] at q
  refine b_when (t_ge (w.s 1) (w.nS (w.bS (w.s 0)))) (fun h1 => b_ret (x_neg (w.x.g w.t.NO_SUCH)) (by rwa [askG_out (by omega)] at q)) fun h1 => ?_
  have hg : g < h.grants.length := by omega
  rw [askG_in hg] at q
  exact b_ret (w.call c1 (a_cons (w.s 0) (a_cons (w.s 1) a_nil)) ⟨g, hg, rfl, rfl⟩) q
theorem b_root (w : W X N_root (defScope s_root) j C H A h F) (c1 : Callee X "root_of" j (sp_root_of C)) {g : Nat} (q : RT D (.int (num h (.root g))) H) : BS X (defBody s_root) D [some (.ref (A.at_ .b)), some (I g)] H := by
  have e : num h (.root g) = (askG (some h) h g fun _ => say (Kp332.root h g : Nat)).2.num := rfl
  rw [e] at q
  refine b_when (t_ge (w.s 1) (w.nS (w.bS (w.s 0)))) (fun h1 => b_ret (x_neg (w.x.g w.t.NO_SUCH)) (by rwa [askG_out (by omega)] at q)) fun h1 => ?_
  have hg : g < h.grants.length := by omega
  rw [askG_in hg] at q
  exact b_ret (w.call c1 (a_cons (w.s 0) (a_cons (w.s 1) a_nil)) ⟨g, hg, rfl, rfl⟩) q
theorem b_drawn (w : W X N_drawn (defScope s_drawn) j C H A h F) (c1 : Callee X "drawn_by" j (sp_drawn_by C)) {g : Nat} (q : RT D (.int (num h (.drawn g))) H) : BS X (defBody s_drawn) D [some (.ref (A.at_ .b)), some (I g)] H := by
  have e : num h (.drawn g) = (askG (some h) h g fun _ => say (Kp332.drawn h g : Nat)).2.num := rfl
  rw [e] at q
  refine b_when (t_ge (w.s 1) (w.nS (w.bS (w.s 0)))) (fun h1 => b_ret (x_neg (w.x.g w.t.NO_SUCH)) (by rwa [askG_out (by omega)] at q)) fun h1 => ?_
  have hg : g < h.grants.length := by omega
  rw [askG_in hg] at q
  exact b_ret (w.call c1 (a_cons (w.s 0) (a_cons (w.s 1) a_nil)) ⟨g, rfl, rfl⟩) q
theorem ans_row {h : House} {c : Kp332.Call} {l : List Nat} (e : (Kp332.step (some h) c).2 = row l) : ans h c = I l.length :: nums l := by
  unfold ans num
  rw [e]
  show _ :: (l.map fun (x : Nat) => (x : Int)).map V.int = _
  rw [← nums_ints]
  rfl
theorem ans_say {h : House} {c : Kp332.Call} {v : Int} (e : (Kp332.step (some h) c).2 = say v) : ans h c = [V.int v] := by
  unfold ans num
  rw [e]
  rfl
theorem ans_tell {h : House} {c : Kp332.Call} {a : Nat} {l : List Nat} (e : (Kp332.step (some h) c).2 = tell a l) : ans h c = I a :: nums l := by
  unfold ans num
  rw [e]
  show _ :: (l.map fun (x : Nat) => (x : Int)).map V.int = _
  rw [← nums_ints]
  rfl
theorem under_len (h : House) (g : Nat) : (Kp332.under h g).length ≤ h.grants.length := by
  unfold Kp332.under
  have := List.length_filter_le (fun i => (Kp332.chain h i).contains g) (List.range h.grants.length)
  rwa [List.length_range] at this
theorem b_under (w : W X N_under (defScope s_under) j C H A h F) (c1 : Callee X "beneath" j (sp_beneath C)) {g : Nat} (q : RL D (ans h (.under g)) H) : BS X (defBody s_under) D [some (.ref (A.at_ .b)), some (I g), none] H := by
  have hgl := w.b.wf.gl
  have e : Kp332.step (some h) (.under g) = askG (some h) h g fun _ => row (Kp332.under h g) := rfl
  refine b_when (t_ge (w.s 1) (w.nS (w.bS (w.s 0)))) (fun h1 => b_retL (l_lst (a_cons (x_neg (w.x.g w.t.NO_SUCH)) a_nil) (by decide)) ?_) fun h1 => ?_
  · rw [ans_say (v := -2) (by rw [e, askG_out (by omega)])] at q
    exact q
  have hg : g < h.grants.length := by omega
  rw [ans_row (l := Kp332.under h g) (by rw [e, askG_in hg])] at q
  refine b_asgL w.x 2 (w.callL c1 (a_cons (w.s 0) (a_cons (w.s 1) a_nil)) ⟨g, hg, rfl, rfl⟩) fun p H1 hp e1 h2 => ?_
  have w1 := w.mono e1
  refine b_retL (l_cat (l_lst (a_cons (w1.x.len w1.t.m_len (w1.s 2) (SqL.of h2)) a_nil) (by decide : 1 ≤ 100000)) (w1.s 2) h2 (by rw [nums_len]; have := under_len h g; show 1 + _ ≤ _; omega)) fun p2 H2 hp2 e2 h3 => q p2 H2 (fresh_back e1 hp2) (e1.trans e2) (by rw [h3, nums_len]; rfl)
theorem b_chain (w : W X N_chain (defScope s_chain) j C H A h F) {g : Nat} (q : RL D (ans h (.chain g)) H) : BS X (defBody s_chain) D [some (.ref (A.at_ .b)), some (I g), none] H := by
  have e : Kp332.step (some h) (.chain g) = askG (some h) h g fun _ => row (Kp332.chain h g) := rfl
  refine b_when (t_ge (w.s 1) (w.nS (w.bS (w.s 0)))) (fun h1 => b_retL (l_lst (a_cons (x_neg (w.x.g w.t.NO_SUCH)) a_nil) (by decide)) ?_) fun h1 => ?_
  · rw [ans_say (v := -2) (by rw [e, askG_out (by omega)])] at q
    exact q
  have hg : g < h.grants.length := by omega
  rw [ans_row (l := Kp332.chain h g) (by rw [e, askG_in hg])] at q
  refine b_asg w.x 2 (w.sC (w.iS (w.bS (w.s 0)) (w.s 1))) ?_
  refine b_retL (l_cat (l_lst (a_cons (w.x.len w.t.m_len (w.s 2) (SqL.of (w.qC hg))) a_nil) (by decide : 1 ≤ 100000)) (w.s 2) (w.qC hg) (by rw [nums_len]; have := w.b.wf.chain_len hg; show 1 + _ ≤ _; omega)) fun p2 H2 hp2 e2 h3 => q p2 H2 hp2 e2 (by rw [h3, nums_len]; rfl)
theorem chain_two {h : House} (d : Down h) {g : Nat} (hg : g < h.grants.length) : (match (grantAt h g).from_ with | some p => 1 < (Kp332.chain h g).length ∧ (Kp332.chain h g)[1]? = some p | none => (Kp332.chain h g).length = 1) := by
  have e1 := chain_eq d hg
  cases e : (grantAt h g).from_ with
  | none =>
    rw [e] at e1
    show (Kp332.chain h g).length = 1
    rw [e1]
    rfl
  | some p =>
    rw [e] at e1
    have hp := (d.all e).1
    have e2 := chain_eq d (g := p) (by omega)
    show 1 < (Kp332.chain h g).length ∧ (Kp332.chain h g)[1]? = some p
    rw [e1]
    show 1 < (g :: Kp332.chain h p).length ∧ (g :: Kp332.chain h p)[1]? = some p
    rw [e2]
    exact ⟨by simp, rfl⟩
theorem b_grantis (w : W X N_grantis (defScope s_grantis) j C H A h F) {g : Nat} (q : RL D (ans h (.grantIs g)) H) : BS X (defBody s_grantis) D [some (.ref (A.at_ .b)), some (I g), none, none, none] H := by
  have e : Kp332.step (some h) (.grantIs g) = askG (some h) h g fun a => tell a.kind [a.giver, a.taker, a.each, a.total, a.till, (match a.from_ with
        | some p => p + 1
        | none => 0), if a.back then 1 else 0] := rfl
  refine b_when (t_ge (w.s 1) (w.nS (w.bS (w.s 0)))) (fun h1 => b_retL (l_lst (a_cons (x_neg (w.x.g w.t.NO_SUCH)) a_nil) (by decide)) ?_) fun h1 => ?_
  · rw [ans_say (v := -2) (by rw [e, askG_out (by omega)])] at q
    exact q
  have hg : g < h.grants.length := by omega
  rw [ans_tell (by rw [e, askG_in hg])] at q
  have h2 := chain_two w.b.wf.down hg
  have key : ∀ (f b : Nat), f = (match (grantAt h g).from_ with | some p => p + 1 | none => 0) → b = (if (grantAt h g).back then 1 else 0) → BS X ((defBody s_grantis).drop 6) D [some (.ref (A.at_ .b)), some (I g), some (.ref (A.at_ (.g g))), some (I f), some (I b)] H := fun f b hf hb =>
    b_retL (l_lst (a_cons (w.sK (w.s 2)) (a_cons (w.sG (w.s 2)) (a_cons (w.sH (w.s 2)) (a_cons (w.sE (w.s 2)) (a_cons (w.sT (w.s 2)) (a_cons (w.sL (w.s 2)) (a_cons (w.s 3) (a_cons (w.s 4) a_nil)))))))) (by decide : 8 ≤ 100000)) (by rw [hf, hb]; exact q)
  have key2 : ∀ (f : Nat), f = (match (grantAt h g).from_ with | some p => p + 1 | none => 0) → BS X ((defBody s_grantis).drop 4) D [some (.ref (A.at_ .b)), some (I g), some (.ref (A.at_ (.g g))), some (I f), none] H := fun f hf => by
    refine b_asg w.x 4 x_int (b_when (EB.of (w.sB (w.s 2))).t (fun h3 => b_asg w.x 4 x_int (b_fall (key f 1 hf (by rw [if_pos h3])))) fun h3 => key f 0 hf (by rw [if_neg h3]))
  refine b_asg w.x 2 (w.iS (w.bS (w.s 0)) (w.s 1)) (b_asg w.x 3 x_int (b_when (t_gt (w.x.len w.t.m_len (w.sC (w.s 2)) (SqL.of (w.qC hg))) x_int) (fun h3 => ?_) fun h3 => ?_))
  · rw [nums_len] at h3
    cases ef : (grantAt h g).from_ with
    | none =>
      rw [ef] at h2
      have h2 : (Kp332.chain h g).length = 1 := h2
      omega
    | some p =>
      rw [ef] at h2
      exact b_asg w.x 3 (x_addN (x_ixL (w.sC (w.s 2)) x_int (SqL.of (w.qC hg)) (atI_nat (j := 1) (nums_at h2.2))) (x_nat (n := 1) x_int rfl)) (b_fall (key2 (p + 1) (by rw [ef])))
  · rw [nums_len] at h3
    cases ef : (grantAt h g).from_ with
    | none => exact key2 0 (by rw [ef])
    | some p =>
      rw [ef] at h2
      have := h2.1
      omega
theorem b_left (w : W X N_left (defScope s_left) j C H A h F) (c1 : Callee X "left_today" j (sp_left_today C)) {k : Nat} (q : RT D (.int (num h (.left k))) H) : BS X (defBody s_left) D [some (.ref (A.at_ .b)), some (I k)] H := by
  have e : num h (.left k) = (if isK h k then say (Kp332.left h k : Nat) else say (-2)).num := rfl
  rw [e] at q
  refine b_when (t_ge (w.s 1) (w.nR (w.bR (w.s 0)))) (fun h1 => b_ret (x_neg (w.x.g w.t.NO_SUCH)) (by rw [if_neg (by rw [isK_out (by omega)]; decide)] at q; exact q)) fun h1 => ?_
  have hk : k < h.rules.length := by omega
  rw [if_pos (isK_in hk)] at q
  exact b_ret (w.call c1 (a_cons (w.s 0) (a_cons (w.s 1) a_nil)) ⟨k, hk, rfl, rfl⟩) q
theorem b_sum_of (w : W X N_sum_of (defScope s_sum_of) j C H A h F) (c1 : Callee X "done_between" j (sp_done_between C)) {k a b : Nat} (q : RT D (.int (num h (.sum k a b))) H) : BS X (defBody s_sum_of) D [some (.ref (A.at_ .b)), some (I k), some (I a), some (I b)] H := by
  have e : num h (.sum k a b) = (if isK h k then say (amt (betw k a b) h.done : Nat) else say (-2)).num := rfl
  rw [e] at q
  refine b_when (t_ge (w.s 1) (w.nR (w.bR (w.s 0)))) (fun h1 => b_ret (x_neg (w.x.g w.t.NO_SUCH)) (by rw [if_neg (by rw [isK_out (by omega)]; decide)] at q; exact q)) fun h1 => ?_
  have hk : k < h.rules.length := by omega
  rw [if_pos (isK_in hk)] at q
  exact b_ret (w.call c1 (a_cons (w.s 0) (a_cons (w.s 1) (a_cons (w.s 2) (a_cons (w.s 3) a_nil)))) ⟨k, a, b, rfl, rfl⟩) q
theorem b_most (w : W X N_most (defScope s_most) j C H A h F) (c1 : Callee X "most_by_standing" j (sp_most_by_standing C)) (c2 : Callee X "left_today" j (sp_left_today C)) {t k : Nat} (q : RT D (.int (num h (.most t k))) H) : BS X (defBody s_most) D [some (.ref (A.at_ .b)), some (I t), some (I k), none] H := by
  have e : num h (.most t k) = (if is h t && isK h k then say (Kp332.most h t k : Nat) else say (-2)).num := rfl
  rw [e] at q
  refine b_when (w_or (t_ge (w.s 1) (w.bP (w.s 0))) fun _ => w_or1 (t_ge (w.s 2) (w.nR (w.bR (w.s 0))))).t (fun h1 => b_ret (x_neg (w.x.g w.t.NO_SUCH)) (by rw [if_neg (by simp [is, isK]; omega)] at q; exact q)) fun h1 => ?_
  have hk : k < h.rules.length := by omega
  rw [if_pos (by simp [is, isK]; omega), most_is (desc_perm _) (desc_pair _)] at q
  exact b_asg w.x 3 (w.x.max2 w.t.m_max (w.rF (w.iR (w.bR (w.s 0)) (w.s 2))) (w.call c1 (a_cons (w.s 0) (a_cons (w.s 1) (a_cons (w.s 2) a_nil))) ⟨t, k, hk, rfl, rfl⟩)) (b_ret (x_is (w.x.min2 w.t.m_min (w.s 3) (w.call c2 (a_cons (w.s 0) (a_cons (w.s 2) a_nil)) ⟨k, hk, rfl, rfl⟩)) (by
    show V.int _ = V.int ((min (max _ _) _ : Nat) : Int)
    congr 1
    omega)) q)
theorem b_maysay (w : W X N_maysay (defScope s_maysay) j C H A h F) (c1 : Callee X "may_still_say" j (sp_may_still_say C)) {r : Nat} (q : RT D (.int (num h (.maySay r))) H) : BS X (defBody s_maysay) D [some (.ref (A.at_ .b)), some (I r)] H := by
  have e : num h (.maySay r) = (ofR (some h) h r fun _ => (some h, say (Kp332.maySay h r : Nat))).2.num := rfl
  rw [e] at q
  refine b_when (t_ge (w.s 1) (w.nA (w.bA (w.s 0)))) (fun h1 => b_ret (x_neg (w.x.g w.t.NO_SUCH)) (by rwa [ofR_out (by omega)] at q)) fun h1 => ?_
  have hr : r < h.asked.length := by omega
  rw [ofR_in hr] at q
  exact b_ret (w.call c1 (a_cons (w.s 0) (a_cons (w.iA (w.bA (w.s 0)) (w.s 1)) a_nil)) ⟨r, hr, rfl, rfl⟩) q
theorem b_could (w : W X N_could (defScope s_could) j C H A h F) (c1 : Callee X "refusal_of_deed" j (sp_refusal_of_deed C)) {r : Nat} (q : RT D (.int (num h (.could r))) H) : BS X (defBody s_could) D [some (.ref (A.at_ .b)), some (I r), none] H := by
  have e : num h (.could r) = (match whyNot h r 0 with | some v => v | none => 0) := why_say _ (some h)
  rw [e] at q
  refine b_when (t_ge (w.s 1) (w.nA (w.bA (w.s 0)))) (fun h1 => b_ret (x_neg (w.x.g w.t.NO_SUCH)) ?_) fun h1 => ?_
  · have : whyNot h r 0 = some (-2) := by unfold whyNot; rw [if_pos (by omega)]
    rwa [this] at q
  have hr : r < h.asked.length := by omega
  rw [← need_why hr, Nat.or_zero] at q
  exact b_asg w.x 2 (w.iA (w.bA (w.s 0)) (w.s 1)) (b_ret (w.call c1 (a_cons (w.s 0) (a_cons (w.s 2) (a_cons (w.aS (w.s 2)) a_nil))) ⟨r, _, hr, rfl, rfl⟩) q)
theorem b_ifyes (w : W X N_ifyes (defScope s_ifyes) j C H A h F) (c1 : Callee X "is_set" j sp_is_set) (c2 : Callee X "refusal_of_deed" j (sp_refusal_of_deed C)) {r p : Nat} (q : RT D (.int (num h (.ifYes r p))) H) : BS X (defBody s_ifyes) D [some (.ref (A.at_ .b)), some (I r), some (I p), none] H := by
  have e : num h (.ifYes r p) = (ofR (some h) h r fun _ => (some h, if isSet h p = false then say (-22) else match whyNot h r p with | some v => say v | none => say 0)).2.num := rfl
  rw [e] at q
  refine b_when (t_ge (w.s 1) (w.nA (w.bA (w.s 0)))) (fun h1 => b_ret (x_neg (w.x.g w.t.NO_SUCH)) (by rwa [ofR_out (by omega)] at q)) fun h1 => ?_
  have hr : r < h.asked.length := by omega
  rw [ofR_in hr] at q
  refine b_when (t_not (EB.of (w.x.call c1 (a_cons (w.s 2) (a_cons (w.bP (w.s 0)) a_nil)) fun _ _ => ⟨p, h.n, w.b.wf.n8, rfl, rfl⟩)).t) (fun h2 => b_ret (x_neg (w.x.g w.t.WRONG_VALUE)) ?_) fun h2 => ?_
  · rw [if_pos (by rw [decide_eq_true_iff] at h2; exact decide_eq_false h2)] at q
    exact q
  rw [if_neg (by rw [decide_eq_true_iff, Classical.not_not] at h2; show ¬ decide _ = false; rw [decide_eq_true h2]; decide), why_say, ← need_why hr] at q
  exact b_asg w.x 3 (w.iA (w.bA (w.s 0)) (w.s 1)) (b_ret (w.call c2 (a_cons (w.s 0) (a_cons (w.s 3) (a_cons (x_orN (w.aS (w.s 3)) (w.s 2)) a_nil))) ⟨r, _, hr, rfl, rfl⟩) q)
theorem saying_self (a : Kp332.Asked) : saying a a.yes = a := rfl
theorem b_lacks (w : W X N_lacks (defScope s_lacks) j C H A h F) (c1 : Callee X "how_many_lack" j (sp_how_many_lack C)) {r : Nat} (q : RT D (.int (num h (.lacks r))) H) : BS X (defBody s_lacks) D [some (.ref (A.at_ .b)), some (I r), none] H := by
  have e : num h (.lacks r) = (ofR (some h) h r fun a => (some h, say (need h a - size h.n (Kp332.counts h a 0) : Nat))).2.num := rfl
  rw [e] at q
  refine b_when (t_ge (w.s 1) (w.nA (w.bA (w.s 0)))) (fun h1 => b_ret (x_neg (w.x.g w.t.NO_SUCH)) (by rwa [ofR_out (by omega)] at q)) fun h1 => ?_
  have hr : r < h.asked.length := by omega
  rw [ofR_in hr] at q
  exact b_asg w.x 2 (w.iA (w.bA (w.s 0)) (w.s 1)) (b_ret (w.call c1 (a_cons (w.s 0) (a_cons (w.s 2) (a_cons (w.aS (w.s 2)) a_nil))) ⟨r, _, hr, rfl, rfl⟩) q)
theorem b_counts (w : W X N_counts (defScope s_counts) j C H A h F) (c1 : Callee X "who_count" j (sp_who_count C)) {r : Nat} (q : RT D (.int (num h (.counts r))) H) : BS X (defBody s_counts) D [some (.ref (A.at_ .b)), some (I r), none] H := by
  have e : num h (.counts r) = (ofR (some h) h r fun a => (some h, say (Kp332.counts h a 0 : Nat))).2.num := rfl
  rw [e] at q
  refine b_when (t_ge (w.s 1) (w.nA (w.bA (w.s 0)))) (fun h1 => b_ret (x_neg (w.x.g w.t.NO_SUCH)) (by rwa [ofR_out (by omega)] at q)) fun h1 => ?_
  have hr : r < h.asked.length := by omega
  rw [ofR_in hr] at q
  exact b_asg w.x 2 (w.iA (w.bA (w.s 0)) (w.s 1)) (b_ret (w.call c1 (a_cons (w.s 0) (a_cons (w.s 2) (a_cons (w.aS (w.s 2)) a_nil))) ⟨r, _, hr, rfl, rfl⟩) q)
theorem b_can (w : W X N_can (defScope s_can) j C H A h F) (c1 : Callee X "too_old" j (sp_too_old C)) (c2 : Callee X "how_many_lack" j (sp_how_many_lack C)) (c3 : Callee X "may_still_say" j (sp_may_still_say C)) {r : Nat} (q : RT D (.int (num h (.can r))) H) : BS X (defBody s_can) D [some (.ref (A.at_ .b)), some (I r), none] H := by
  have e : num h (.can r) = (ofR (some h) h r fun a => (some h, say (if a.state = 0 ∧ old h a = false ∧ need h a ≤ size h.n (Kp332.counts h a (Kp332.maySay h r)) then 1 else 0))).2.num := rfl
  rw [e] at q
  refine b_when (t_ge (w.s 1) (w.nA (w.bA (w.s 0)))) (fun h1 => b_ret (x_neg (w.x.g w.t.NO_SUCH)) (by rwa [ofR_out (by omega)] at q)) fun h1 => ?_
  have hr : r < h.asked.length := by omega
  rw [ofR_in hr] at q
  refine b_asg w.x 2 (w.iA (w.bA (w.s 0)) (w.s 1)) ?_
  refine b_when (w_or (t_ne (w.aG (w.s 2)) (w.x.g w.t.OPEN)) fun _ => w_or1 (EB.of (w.call c1 (a_cons (w.s 0) (a_cons (w.s 2) a_nil)) ⟨r, hr, rfl, rfl⟩)).t).t (fun h2 => b_ret x_int ?_) fun h2 => ?_
  · rw [if_neg (by
      rintro ⟨z1, z2, _⟩
      rcases h2 with h2 | h2
      · omega
      · rw [z2] at h2; cases h2)] at q
    exact q
  have ec : Kp332.counts h (saying (askedAt h r) ((askedAt h r).yes ||| Kp332.maySay h r)) 0 = Kp332.counts h (askedAt h r) (Kp332.maySay h r) := counts_more
  refine b_when (t_gt (w.call c2 (a_cons (w.s 0) (a_cons (w.s 2) (a_cons (x_orN (w.aS (w.s 2)) (w.call c3 (a_cons (w.s 0) (a_cons (w.s 2) a_nil)) ⟨r, hr, rfl, rfl⟩)) a_nil))) ⟨r, _, hr, rfl, rfl⟩) x_int) (fun h3 => b_ret x_int ?_) fun h3 => b_ret x_int ?_
  · unfold lack at h3
    rw [ec] at h3
    rw [if_neg (by rintro ⟨_, _, z⟩; omega)] at q
    exact q
  · unfold lack at h3
    rw [ec] at h3
    rw [if_pos ⟨by omega, by rw [← Bool.not_eq_true]; exact fun z => h2 (Or.inr z), by omega⟩] at q
    exact q
theorem b_askedis (w : W X N_askedis (defScope s_askedis) j C H A h F) {r : Nat} (q : RL D (ans h (.asked r)) H) : BS X (defBody s_askedis) D [some (.ref (A.at_ .b)), some (I r), none, none] H := by
  have e : Kp332.step (some h) (.asked r) = ofR (some h) h r fun a => (some h, tell a.kind ([a.asker, a.x, a.amount, a.told, a.state, a.yes, a.uses.length] ++ a.uses)) := rfl
  refine b_when (t_ge (w.s 1) (w.nA (w.bA (w.s 0)))) (fun h1 => b_retL (l_lst (a_cons (x_neg (w.x.g w.t.NO_SUCH)) a_nil) (by decide)) ?_) fun h1 => ?_
  · rw [ans_say (v := -2) (by rw [e, ofR_out (by omega)])] at q
    exact q
  have hr : r < h.asked.length := by omega
  rw [ans_tell (by rw [e, ofR_in hr])] at q
  have hu := w.b.wf.ausel r hr
  refine b_asg w.x 2 (w.iA (w.bA (w.s 0)) (w.s 1)) (b_asgL w.x 3 (l_lst (a_cons (w.aK (w.s 2)) (a_cons (w.aA (w.s 2)) (a_cons (w.aN (w.s 2)) (a_cons (w.aM (w.s 2)) (a_cons (w.aT (w.s 2)) (a_cons (w.aG (w.s 2)) (a_cons (w.aS (w.s 2)) a_nil))))))) (by decide : 7 ≤ 100000)) fun p H1 hp e1 h2 => ?_)
  have w1 := w.mono e1
  refine b_retL (l_cat (l_cat2 (w1.s 3) h2 (l_lst (a_cons (w1.x.len w1.t.m_len (w1.aU (w1.s 2)) (SqL.of (w1.qU hr))) a_nil) (by decide : 1 ≤ 100000)) (by decide : 7 + 1 ≤ 100000)) (w1.aU (w1.s 2)) (w1.qU hr) (by rw [nums_len]; show 8 + _ ≤ _; omega)) fun p2 H2 hp2 e2 h3 => q p2 H2 (fresh_back e1 hp2) (e1.trans e2) ?_
  rw [h3, nums_len]
  unfold nums
  rw [List.map_append]
  rfl
theorem b_ruleis (w : W X N_ruleis (defScope s_ruleis) j C H A h F) {k : Nat} (q : RL D (ans h (.ruleIs k)) H) : BS X (defBody s_ruleis) D [some (.ref (A.at_ .b)), some (I k), none] H := by
  have e : (Kp332.step (some h) (.ruleIs k)).2 = (if isK h k then tell (ruleAt h k).may [(ruleAt h k).need, (ruleAt h k).free, (ruleAt h k).day, (ruleAt h k).lives] else say (-2)) := rfl
  refine b_when (t_ge (w.s 1) (w.nR (w.bR (w.s 0)))) (fun h1 => b_retL (l_lst (a_cons (x_neg (w.x.g w.t.NO_SUCH)) a_nil) (by decide)) ?_) fun h1 => ?_
  · rw [ans_say (v := -2) (by rw [e, if_neg (by rw [isK_out (by omega)]; decide)])] at q
    exact q
  have hk : k < h.rules.length := by omega
  rw [ans_tell (by rw [e, if_pos (isK_in hk)])] at q
  exact b_asg w.x 2 (w.iR (w.bR (w.s 0)) (w.s 1)) (b_retL (l_lst (a_cons (w.rM (w.s 2)) (a_cons (w.rN (w.s 2)) (a_cons (w.rF (w.s 2)) (a_cons (w.rD (w.s 2)) (a_cons (w.rL (w.s 2)) a_nil))))) (by decide : 5 ≤ 100000)) q)
theorem b_log (w : W X N_log (defScope s_log) j C H A h F) {i : Nat} (q : RL D (ans h (.log i)) H) : BS X (defBody s_log) D [some (.ref (A.at_ .b)), some (I i), none, none, none] H := by
  have e : (Kp332.step (some h) (.log i)).2 = (if h.done.length ≤ i then say (-2) else tell (deedAt h i).asked ([(deedAt h i).day, (deedAt h i).kind, (deedAt h i).asker, (deedAt h i).x, (deedAt h i).amount, (deedAt h i).who, (deedAt h i).uses.length] ++ (deedAt h i).uses)) := rfl
  refine b_when (t_ge (w.s 1) (w.nE (w.bE (w.s 0)))) (fun h1 => b_retL (l_lst (a_cons (x_neg (w.x.g w.t.NO_SUCH)) a_nil) (by decide)) ?_) fun h1 => ?_
  · rw [ans_say (v := -2) (by rw [e, if_pos (by omega)])] at q
    exact q
  have hi : i < h.done.length := by omega
  rw [ans_tell (by rw [e, if_neg (by omega)])] at q
  obtain ⟨d1, d2, d3, d4, d5, d6, d7⟩ := w.b.wf.deed hi
  have hu := w.b.wf.ausel _ d1
  refine b_asg w.x 2 (w.iE (w.bE (w.s 0)) (w.s 1)) (b_asg w.x 3 (w.iA (w.bA (w.s 0)) (w.dA (w.s 2))) (b_asgL w.x 4 (l_lst (a_cons (w.dA (w.s 2)) (a_cons (w.dD (w.s 2)) (a_cons (w.aK (w.s 3)) (a_cons (w.aA (w.s 3)) (a_cons (w.aN (w.s 3)) (a_cons (w.aM (w.s 3)) (a_cons (w.dC (w.s 2)) a_nil))))))) (by decide : 7 ≤ 100000)) fun p H1 hp e1 h2 => ?_))
  have w1 := w.mono e1
  refine b_retL (l_cat (l_cat2 (w1.s 4) h2 (l_lst (a_cons (w1.x.len w1.t.m_len (w1.aU (w1.s 3)) (SqL.of (w1.qU d1))) a_nil) (by decide : 1 ≤ 100000)) (by decide : 7 + 1 ≤ 100000)) (w1.aU (w1.s 3)) (w1.qU d1) (by rw [nums_len]; show 8 + _ ≤ _; omega)) fun p2 H2 hp2 e2 h3 => q p2 H2 (fresh_back e1 hp2) (e1.trans e2) ?_
  rw [h3, nums_len, d2, d3, d4, d5, d6]
  unfold nums
  rw [List.map_append]
  rfl
theorem b_today (w : W X N_today (defScope s_today) j C H A h F) (q : RT D (.int (num h .today)) H) : BS X (defBody s_today) D [some (.ref (A.at_ .b))] H := b_ret (w.bD (w.s 0)) q
theorem b_done (w : W X N_done (defScope s_done) j C H A h F) (q : RT D (.int (num h .done)) H) : BS X (defBody s_done) D [some (.ref (A.at_ .b))] H := b_ret (w.nE (w.bE (w.s 0))) q
end
end Jd
namespace Jd
open PySem PySem.Spec PyProof.Rows L2 Evl Kp332

/-! ### the book's heap changes -/
section
variable {C : Cs} {H H1 H2 : Hp} {A A2 : Ad} {h h2 : House} {F : Hp}
theorem Rep.step (B : Rep C H A h F) (hA : ∀ q, okp h2 q → (okp h q ∧ A2.at_ q = A.at_ q) ∨ H (A2.at_ q) = none) (hi : ∀ q q', okp h2 q → okp h2 q' → H (A2.at_ q) = none → A2.at_ q = A2.at_ q' → q = q')
    (hc : ∀ q o, cont C A2 h2 q = some o → H2 (A2.at_ q) = some o) (hf : ∀ p o, F p = some o → H2 p = some o) : Rep C H2 A2 h2 F := by
  refine ⟨hc, fun q q' hq hq' e => ?_, fun p o hp => ⟨hf p o hp, fun q hq e => ?_⟩⟩
  · rcases hA q hq with ⟨z, z1⟩ | z
    · rcases hA q' hq' with ⟨y, y1⟩ | y
      · rw [z1, y1] at e
        exact B.inj q q' z y e
      · exact (hi q' q hq' hq y e.symm).symm
    · exact hi q q' hq hq' z e
  · have hp' := (B.fr p o hp).1
    rcases hA q hq with ⟨z, z1⟩ | z
    · rw [z1] at e
      exact (B.fr p o hp).2 q z e
    · rw [e, hp'] at z
      cases z
theorem Rep.ne (B : Rep C H A h F) {q q' : Pl} (hq : okp h q) (hq' : okp h q') (hn : q ≠ q') : A.at_ q ≠ A.at_ q' := fun e => hn (B.inj q q' hq hq' e)
theorem Rep.ex (B : Rep C H A h F) {q : Pl} (hq : okp h q) : ∃ o, H (A.at_ q) = some o := by
  obtain ⟨o, ho⟩ := okp_cont (C := C) (A := A) hq
  exact ⟨o, B.at_ q o ho⟩
theorem Rep.set1 (B : Rep C H A h F) (e1 : Ex H H1) {x : Pl} (hx : okp h x) {o : HO} (hk : ∀ q, okp h2 q → okp h q) (hcx : cont C A h2 x = some o) (hc : ∀ q, q ≠ x → cont C A h2 q = cont C A h q) : Rep C (upd H1 (A.at_ x) o) A h2 F := by
  refine B.step (fun q hq => Or.inl ⟨hk q hq, rfl⟩) (fun q q' hq hq' _ e => B.inj q q' (hk q hq) (hk q' hq') e) (fun q o' hq => ?_) (fun p o' hp => ?_)
  · by_cases e : q = x
    · subst e
      rw [hcx] at hq
      rw [upd_same]
      exact hq
    · rw [upd_ne (B.ne (hk q (cont_okp hq)) hx e)]
      rw [hc q e] at hq
      exact e1 _ _ (B.at_ q o' hq)
  · rw [upd_ne (fun z => (B.fr p o' hp).2 x hx z.symm)]
    exact e1 _ _ (B.fr p o' hp).1
theorem Rep.add (B : Rep C H A h F) (e1 : Ex H H1) (new : Pl → Prop) {lx : Pl} {ol : HO} (hag : ∀ q, okp h q → ¬ new q → A2.at_ q = A.at_ q) (hok : ∀ q, okp h2 q → okp h q ∨ new q) (hnew : ∀ q, new q → H (A2.at_ q) = none) (hinj : ∀ q q', new q → new q' → A2.at_ q = A2.at_ q' → q = q')
    (hlx : okp h lx) (hln : ¬ new lx) (hl : cont C A2 h2 lx = some ol) (hc : ∀ q, okp h q → ¬ new q → q ≠ lx → cont C A2 h2 q = cont C A h q) (hn : ∀ q o, new q → cont C A2 h2 q = some o → H1 (A2.at_ q) = some o) : Rep C (upd H1 (A.at_ lx) ol) A2 h2 F := by
  obtain ⟨ox, hox⟩ := B.ex hlx
  have hns : ∀ q, new q → A2.at_ q ≠ A.at_ lx := fun q hq e => by
    have := hnew q hq
    rw [e, hox] at this
    cases this
  refine B.step (fun q hq => ?_) (fun q q' hq hq' hz e => ?_) (fun q o hq => ?_) (fun p o hp => ?_)
  · by_cases z : new q
    · exact Or.inr (hnew q z)
    · exact Or.inl ⟨(hok q hq).resolve_right z, hag q ((hok q hq).resolve_right z) z⟩
  · have old : ∀ q, okp h2 q → ¬ new q → ∃ o, H (A2.at_ q) = some o := fun q hq z => by
      have zo := (hok q hq).resolve_right z
      rw [hag q zo z]
      exact B.ex zo
    by_cases z : new q
    · by_cases z' : new q'
      · exact hinj q q' z z' e
      · obtain ⟨o, ho⟩ := old q' hq' z'
        rw [← e, hz] at ho
        cases ho
    · obtain ⟨o, ho⟩ := old q hq z
      rw [hz] at ho
      cases ho
  · by_cases z : new q
    · rw [upd_ne (hns q z)]
      exact hn q o z hq
    · have zo := (hok q (cont_okp hq)).resolve_right z
      rw [hag q zo z]
      by_cases e : q = lx
      · subst e
        rw [hl] at hq
        rw [upd_same]
        exact hq
      · rw [upd_ne (B.ne zo hlx e)]
        rw [hc q zo z e] at hq
        exact e1 _ _ (B.at_ q o hq)
  · rw [upd_ne (fun z => (B.fr p o hp).2 lx hlx z.symm)]
    exact e1 _ _ (B.fr p o hp).1
/-- a thing put elsewhere -/
def Ad.put (A : Ad) (q : Pl) (p dx : Addr) : Ad := ⟨fun r => if r = q then p else A.at_ r, fun r => if r = q then dx else A.dx r⟩
theorem Ad.put_same {q : Pl} {p dx : Addr} : (A.put q p dx).at_ q = p := if_pos rfl
theorem Ad.put_dx {q : Pl} {p dx : Addr} : (A.put q p dx).dx q = dx := if_pos rfl
theorem Ad.put_ne {q r : Pl} {p dx : Addr} (h : r ≠ q) : (A.put q p dx).at_ r = A.at_ r := if_neg h
theorem Ad.put_dne {q r : Pl} {p dx : Addr} (h : r ≠ q) : (A.put q p dx).dx r = A.dx r := if_neg h
theorem cont_agree (hag : ∀ q, okp h q → A2.at_ q = A.at_ q ∧ A2.dx q = A.dx q) (q : Pl) : cont C A2 h q = cont C A h q := by
  have ib : fsB A2 h = fsB A h := by
    unfold fsB
    rw [(hag .lr trivial).1, (hag .la trivial).1, (hag .ls trivial).1, (hag .ld trivial).1]
  cases q with
  | b =>
    show some (HO.ins _ (A2.dx .b) (fsB A2 h)) = some (HO.ins _ (A.dx .b) (fsB A h))
    rw [(hag .b trivial).2, ib]
  | lr =>
    show some (HO.lst (refs A2 _ _)) = some (HO.lst (refs A _ _))
    rw [refs_congr fun k hk => (hag (.r k) hk).1]
  | la =>
    show some (HO.lst (refs A2 _ _)) = some (HO.lst (refs A _ _))
    rw [refs_congr fun k hk => (hag (.a k) hk).1]
  | ls =>
    show some (HO.lst (refs A2 _ _)) = some (HO.lst (refs A _ _))
    rw [refs_congr fun k hk => (hag (.g k) hk).1]
  | ld =>
    show some (HO.lst (refs A2 _ _)) = some (HO.lst (refs A _ _))
    rw [refs_congr fun k hk => (hag (.d k) hk).1]
  | r k =>
    show Option.map _ _ = Option.map _ _
    cases e : h.rules[k]? with
    | none => rfl
    | some R =>
      show some (HO.ins _ (A2.dx (.r k)) _) = some (HO.ins _ (A.dx (.r k)) _)
      rw [(hag (.r k) (some_lt e)).2]
      rfl
  | a k =>
    show Option.map _ _ = Option.map _ _
    cases e : h.asked[k]? with
    | none => rfl
    | some R =>
      show some (HO.ins _ (A2.dx (.a k)) (fsA A2 k R)) = some (HO.ins _ (A.dx (.a k)) (fsA A k R))
      have : fsA A2 k R = fsA A k R := by
        unfold fsA
        rw [(hag (.u k) (some_lt e)).1]
      rw [(hag (.a k) (some_lt e)).2, this]
  | u k => rfl
  | g k =>
    show Option.map _ _ = Option.map _ _
    cases e : h.grants[k]? with
    | none => rfl
    | some R =>
      show some (HO.ins _ (A2.dx (.g k)) (fsS A2 k R)) = some (HO.ins _ (A.dx (.g k)) (fsS A k R))
      have : fsS A2 k R = fsS A k R := by
        unfold fsS
        rw [(hag (.c k) (some_lt e)).1]
      rw [(hag (.g k) (some_lt e)).2, this]
  | c k => rfl
  | d k =>
    show Option.map _ _ = Option.map _ _
    cases e : h.done[k]? with
    | none => rfl
    | some R =>
      show some (HO.ins _ (A2.dx (.d k)) _) = some (HO.ins _ (A.dx (.d k)) _)
      rw [(hag (.d k) (some_lt e)).2]
      rfl
theorem cont_day {t : Nat} {q : Pl} (hq : q ≠ .b) : cont C A { h with day := t } q = cont C A h q := by
  cases q with
  | b => exact absurd rfl hq
  | c k =>
    show (h.grants[k]?.map fun _ => HO.lst (nums (Kp332.chain { h with day := t } k))) = _
    rw [chain_day]
    rfl
  | _ => rfl
theorem cont_setAsked {r : Nat} {a : Kp332.Asked} {q : Pl} (h1 : q ≠ .a r) (h2 : q ≠ .u r) : cont C A (setAsked h r a) q = cont C A h q := by
  cases q with
  | la =>
    show some (HO.lst (refs A (h.asked.set r a).length .a)) = _
    rw [List.length_set]
    rfl
  | a k =>
    show (h.asked.set r a)[k]?.map _ = _
    rw [List.getElem?_set_ne (fun z => h1 (by rw [z]))]
    rfl
  | u k =>
    show (h.asked.set r a)[k]?.map _ = _
    rw [List.getElem?_set_ne (fun z => h2 (by rw [z]))]
    rfl
  | c k =>
    show (h.grants[k]?.map fun _ => HO.lst (nums (Kp332.chain { h with asked := h.asked.set r a } k))) = _
    rw [chain_asked]
    rfl
  | _ => rfl
theorem cont_sa_a {r : Nat} {a : Kp332.Asked} (hr : r < h.asked.length) : cont C A (setAsked h r a) (.a r) = some (.ins C.cA (A.dx (.a r)) (fsA A r a)) := by
  show (h.asked.set r a)[r]?.map _ = _
  rw [List.getElem?_set_self hr]
  rfl
theorem cont_sa_u {r : Nat} {a : Kp332.Asked} (hr : r < h.asked.length) : cont C A (setAsked h r a) (.u r) = some (.lst (nums a.uses)) := by
  show (h.asked.set r a)[r]?.map _ = _
  rw [List.getElem?_set_self hr]
  rfl
theorem cont_u {r : Nat} (hr : r < h.asked.length) : cont C A h (.u r) = some (.lst (nums (askedAt h r).uses)) := by
  show h.asked[r]?.map _ = _
  rw [asked_at hr]
  rfl
theorem okp_setAsked {r : Nat} {a : Kp332.Asked} {q : Pl} : okp (setAsked h r a) q ↔ okp h q := by
  cases q <;> simp [okp, setAsked]
theorem cont_ask {a : Kp332.Asked} {q : Pl} (hq : okp h q) (h1 : q ≠ .la) : cont C A { h with asked := h.asked ++ [a] } q = cont C A h q := by
  cases q with
  | la => exact absurd rfl h1
  | a k =>
    show (h.asked ++ [a])[k]?.map _ = _
    rw [List.getElem?_append_left hq]
    rfl
  | u k =>
    show (h.asked ++ [a])[k]?.map _ = _
    rw [List.getElem?_append_left hq]
    rfl
  | c k =>
    show (h.grants[k]?.map fun _ => HO.lst (nums (Kp332.chain { h with asked := h.asked ++ [a] } k))) = _
    rw [chain_asked]
    rfl
  | _ => rfl
theorem cont_rule {a : Kp332.Rule} {q : Pl} (hq : okp h q) (h1 : q ≠ .lr) : cont C A { h with rules := h.rules ++ [a] } q = cont C A h q := by
  cases q with
  | lr => exact absurd rfl h1
  | r k =>
    show (h.rules ++ [a])[k]?.map _ = _
    rw [List.getElem?_append_left hq]
    rfl
  | c k =>
    show (h.grants[k]?.map fun _ => HO.lst (nums (Kp332.chain { h with rules := h.rules ++ [a] } k))) = _
    rw [chain_rules]
    rfl
  | _ => rfl
theorem cont_rerule {k : Nat} {a : Kp332.Rule} {q : Pl} (h1 : q ≠ .r k) : cont C A { h with rules := h.rules.set k a } q = cont C A h q := by
  cases q with
  | lr =>
    show some (HO.lst (refs A (h.rules.set k a).length .r)) = _
    rw [List.length_set]
    rfl
  | r i =>
    show (h.rules.set k a)[i]?.map _ = _
    rw [List.getElem?_set_ne (fun z => h1 (by rw [z]))]
    rfl
  | c i =>
    show (h.grants[i]?.map fun _ => HO.lst (nums (Kp332.chain { h with rules := h.rules.set k a } i))) = _
    rw [chain_rules]
    rfl
  | _ => rfl
theorem cont_grant (w : Wf h) {x : Grant} (hx : ∀ p, x.from_ = some p → p < h.grants.length) {q : Pl} (hq : okp h q) (h1 : q ≠ .ls) : cont C A { h with grants := h.grants ++ [x] } q = cont C A h q := by
  cases q with
  | ls => exact absurd rfl h1
  | g k =>
    show (h.grants ++ [x])[k]?.map _ = _
    rw [List.getElem?_append_left hq]
    rfl
  | c k =>
    show ((h.grants ++ [x])[k]?.map fun _ => HO.lst (nums (Kp332.chain { h with grants := h.grants ++ [x] } k))) = _
    rw [List.getElem?_append_left hq, chain_snoc w.down hx hq]
    rfl
  | _ => rfl
theorem cont_revoke {g : Nat} (hg : g < h.grants.length) {x : Grant} (hx : x.from_ = (grantAt h g).from_) {q : Pl} (h1 : q ≠ .g g) : cont C A { h with grants := h.grants.set g x } q = cont C A h q := by
  cases q with
  | ls =>
    show some (HO.lst (refs A (h.grants.set g x).length .g)) = _
    rw [List.length_set]
    rfl
  | g k =>
    show (h.grants.set g x)[k]?.map _ = _
    rw [List.getElem?_set_ne (fun z => h1 (by rw [z]))]
    rfl
  | c k =>
    show ((h.grants.set g x)[k]?.map fun _ => HO.lst (nums (Kp332.chain { h with grants := h.grants.set g x } k))) = _
    rw [chain_back hg hx]
    show Option.map _ _ = Option.map _ _
    by_cases e : k = g
    · subst e
      rw [List.getElem?_set_self hg, grant_at hg]
      rfl
    · rw [List.getElem?_set_ne (fun z => e z.symm)]
  | _ => rfl
theorem cont_deed {d : Kp332.Deed} {q : Pl} (hq : okp h q) (h1 : q ≠ .ld) : cont C A { h with done := h.done ++ [d] } q = cont C A h q := by
  cases q with
  | ld => exact absurd rfl h1
  | d k =>
    show (h.done ++ [d])[k]?.map _ = _
    rw [List.getElem?_append_left hq]
    rfl
  | c k =>
    show (h.grants[k]?.map fun _ => HO.lst (nums (Kp332.chain { h with done := h.done ++ [d] } k))) = _
    rw [chain_done]
    rfl
  | _ => rfl
end

/-! ### objects made -/
def Fr (H H' : Hp) (p : Addr) : Prop := ∀ b o, H b = some o → b ≠ p → H' b = some o
section
variable {X : Cx} {N : List Str} {sc : Scope} {k : Nat} {σ : L2.St} {H : Hp} {e a b c : Expr} {v : V} {pos : Pos} {es : List Expr} {vs : List V} {xn : Str} {rest : List Stmt} {D : Ends}
def EN (X : Cx) (e : Expr) (σ : L2.St) (H : Hp) (φ : Hp → Addr → Hp → Prop) : Prop := ∀ H1, Ex H H1 → ∀ Q : VK, (∀ p H2, H1 p = none → Ex H1 H2 → φ H1 p H2 → Q (.ref p) H2) → WE X e σ H1 Q
def EAN (X : Cx) (es : List Expr) (σ : L2.St) (H : Hp) (vs xs : List V) : Prop := ∀ H1, Ex H H1 → ∀ Q : List V → Hp → Prop, (∀ p H2, H1 p = none → Ex H1 H2 → H2 p = some (.lst xs) → Q (vs ++ [.ref p]) H2) → WA X es σ H1 Q
theorem an_last {xs : List V} (h : EL X e σ H xs) (hs : starEach [e] X.env = (false, eval e X.env) :: starEach [] X.env := by exact star_cons rfl) : EAN X [e] σ H [] xs := fun H1 e1 Q q pos pins s I =>
  (pa_cons we_pe pa_nil hs).run pos pins s σ H1 Q I (h H1 e1 _ fun p H2 hp e2 h2 => q p H2 hp e2 h2)
theorem an_cons {xs : List V} (h : EV X e σ H v) (hr : EAN X es σ H vs xs) (hs : starEach (e :: es) X.env = (false, eval e X.env) :: starEach es X.env := by exact star_cons rfl) : EAN X (e :: es) σ H (v :: vs) xs := fun H1 e1 Q q pos pins s I =>
  (pa_cons we_pe wa_pa hs).run pos pins s σ H1 Q I (h H1 e1 _ fun H2 e2 => hr H2 (e1.trans e2) _ fun p H3 hp e3 h3 => q p H3 (fresh_back e2 hp) (e2.trans e3) h3)
/-- a class's __init__ and what it promises -/
def MkOk (X : Cx) (x : Str) (C : Addr) (k : Nat) (sp : Sp) : Prop := ∃ (f : Addr) (fd : FuncData) (ps : List Str), Mk X.K C f ∧ FnOk X.prog X.w X.K X.mg X.base CX0 k f fd ps sp ∧ X.mg x = some (.ref C) ∧ Binds X.K fd ps []
def spInit (C : Addr) (n : Nat) (φ : List V → Hp → Addr → Addr → Hp → Prop) : Sp := fun vs H Q _ => ∃ (p dx : Addr) (args : List V), vs = .ref p :: args ∧ args.length = n ∧ H p = some (.ins C dx []) ∧ ∀ H', φ args H p dx H' → (∀ b o, H b = some o → b ≠ p → H' b = some o) → Q .non H'
/-- the heap as it was when a class began to make one -/
def made (H : Hp) (C x dx : Addr) : Hp := upd (upd H dx (.own x)) x (.ins C dx [])
theorem XC.make {C : Addr} {j n : Nat} {φ : List V → Hp → Addr → Addr → Hp → Prop} (x : XC X N sc k) (M : MkOk X xn C j (spInit C n φ)) (hj : j + 1 ≤ k) {p : Pos} (ha : EA X (e :: es) σ H vs) (hl : vs.length = n) (hg : GlS sc xn := by rfl) (hdb : (xn == ("__debug__" : Str)) = false := by decide)
    (he : starEach (e :: es) X.env = (false, eval e X.env) :: starEach es X.env := by exact star_cons rfl) (hpl : (backTo pos (starEach es X.env)).any (·.1) = false := by rfl) : EN X (.Call (.Name xn p) (e :: es) [] pos) σ H (fun H1 p H2 => ∃ H0 dx, Ex H1 H0 ∧ H0 p = none ∧ H0 dx = none ∧ dx ≠ p ∧ φ vs (made H0 C p dx) p dx H2) := by
  obtain ⟨f, fd, ps, M, F, hm, hb⟩ := M
  refine fun H1 e1 Q q pins s I => (pe_make M F (x.r.mono hj) (x.gl hg) hm hb .nil pass0 wa_pa hdb he hpl).run pins s σ H1 Q I (ha H1 e1 _ fun H2 e2 px dx hx hd hne => ?_)
  refine ⟨px, dx, vs, by rw [List.append_nil], hl, upd_same, fun H' h1 h2 => ⟨rfl, q px H' (fresh_back e2 hx) (e2.trans fun a o ho => h2 a o ?_ (ne_of_none ho hx)) ⟨H2, dx, e2, hx, hd, hne, h1⟩⟩⟩
  rw [upd_ne (ne_of_none ho hx), upd_ne (ne_of_none ho hd)]
  exact ho
theorem XC.makeN {C : Addr} {j n : Nat} {xs : List V} {φ : List V → Hp → Addr → Addr → Hp → Prop} (x : XC X N sc k) (M : MkOk X xn C j (spInit C n φ)) (hj : j + 1 ≤ k) {p : Pos} (ha : EAN X (e :: es) σ H vs xs) (hl : vs.length + 1 = n) (hg : GlS sc xn := by rfl) (hdb : (xn == ("__debug__" : Str)) = false := by decide)
    (he : starEach (e :: es) X.env = (false, eval e X.env) :: starEach es X.env := by exact star_cons rfl) (hpl : (backTo pos (starEach es X.env)).any (·.1) = false := by rfl) : EN X (.Call (.Name xn p) (e :: es) [] pos) σ H (fun H1 p H2 => ∃ H0 dx c, Ex H1 H0 ∧ H1 c = none ∧ H0 c = some (.lst xs) ∧ H0 p = none ∧ H0 dx = none ∧ dx ≠ p ∧ φ (vs ++ [.ref c]) (made H0 C p dx) p dx H2 ∧ Ex H0 H2) := by
  obtain ⟨f, fd, ps, M, F, hm, hb⟩ := M
  refine fun H1 e1 Q q pins s I => (pe_make M F (x.r.mono hj) (x.gl hg) hm hb .nil pass0 wa_pa hdb he hpl).run pins s σ H1 Q I (ha H1 e1 _ fun c H2 hc e2 h2 px dx hx hd hne => ?_)
  refine ⟨px, dx, vs ++ [.ref c], by rw [List.append_nil], by rw [List.length_append]; exact hl, upd_same, fun H' h1 h3 => ⟨rfl, ?_⟩⟩
  have e3 : Ex H2 H' := fun a o ho => h3 a o (by
    show (made H2 C px dx) a = some o
    unfold made
    rw [upd_ne (ne_of_none ho hx), upd_ne (ne_of_none ho hd)]
    exact ho) (ne_of_none ho hx)
  exact q px H' (fresh_back e2 hx) (e2.trans e3) ⟨H2, dx, c, e2, hc, h2, hx, hd, hne, h1, e3⟩
theorem putF_lt {f : Str} {v : V} {fs : List (Str × V)} {n : Nat} (h : fs.length < n) : (putF f v fs).length < n + 1 := by
  have := length_putF f v fs
  omega
/-- an __init__'s stores -/
theorem b_self {f : Str} {p2 p3 : Pos} {p C dx : Addr} {fs : List (Str × V)} (hv : EV X e σ H v) (ho : EV X (.Name xn p3) σ H (.ref p)) (hp : H p = some (.ins C dx fs)) (hc : Cls X.K C) (hn : NoAttr X.K C f) (q : ∀ H1, H1 p = some (.ins C dx (putF f v fs)) → Fr H H1 p → BS X rest D σ H1)
    (hl : fs.length < 1000 := by repeat (first | decide | apply putF_lt)) (hs : swapsWith e (some (.Attribute (.Name xn p3) f p2)) pos.line X.env = pure false := by rfl) : BS X (.Assign [.Attribute (.Name xn p3) f p2] e pos :: rest) D σ H :=
  b_fld hv ho hp hc hn hl (fun H1 e1 => q _ upd_same fun b o hb hne => by rw [upd_ne hne]; exact e1 _ _ hb) hs
theorem b_selfL {f : Str} {p2 p3 : Pos} {p C dx : Addr} {fs : List (Str × V)} {xs : List V} (hv : EL X e σ H xs) (ho : ∀ H1, EV X (.Name xn p3) σ H1 (.ref p)) (hp : H p = some (.ins C dx fs)) (hc : Cls X.K C) (hn : NoAttr X.K C f)
    (q : ∀ u H1, H u = none → H1 u = some (.lst xs) → H1 p = some (.ins C dx (putF f (.ref u) fs)) → Fr H H1 p → BS X rest D σ H1)
    (hl : fs.length < 1000 := by repeat (first | decide | apply putF_lt)) (hs : swapsWith e (some (.Attribute (.Name xn p3) f p2)) pos.line X.env = pure false := by rfl) : BS X (.Assign [.Attribute (.Name xn p3) f p2] e pos :: rest) D σ H :=
  bs_cons (ps_fld we_pe we_pe hs) fun H1 e1 => hv H1 e1 _ fun u H2 hu e2 h2 => ho H2 H2 (Ex.refl H2) _ fun H3 e3 => ⟨p, C, dx, fs, rfl, ((e1.trans e2).trans e3) p _ hp, hc, hn, hl,
    q u _ (fresh_back e1 hu) (by rw [upd_ne (fun z => by rw [z] at hu; rw [e1 p _ hp] at hu; cases hu)]; exact e3 _ _ h2) upd_same (fun b o hb hne => by rw [upd_ne hne]; exact ((e1.trans e2).trans e3) _ _ hb) _ (Ex.refl _)⟩
/-- xs.append(a new object) -/
theorem b_appN {φ : Hp → Addr → Hp → Prop} {o : Expr} {p2 p3 : Pos} {l : Addr} {xs : List V} (ho : EV X o σ H (.ref l)) (hl : H l = some (.lst xs)) (h : EN X e σ H φ) (hz : xs.length < 100000) (q : ∀ p H0 H1, Ex H H0 → Ex H0 H1 → H0 p = none → φ H0 p H1 → BS X rest D σ (upd H1 l (.lst (xs ++ [.ref p]))))
    (hs : swapsWith (.Call (.Attribute o "append" p2) [e] [] p3) none pos.line X.env = pure false := by rfl) (he : starEach [e] X.env = [(false, eval e X.env)] := by rfl)
    (h3 : PE X (.Call (.Attribute o "append" p2) [e] [] p3) (tBM X.K "list" rAppend (WE X o) (tCons (WE X e) tNil)) := by exact pe_bm PySem.F.plainAttrs_list PySem.F.slot_list_append PySem.F.type_list_append mt_append we_pe (pa_cons we_pe pa_nil)) : BS X (.Expr (.Call (.Attribute o "append" p2) [e] [] p3) pos :: rest) D σ H :=
  bs_cons (ps_expr h3 hs) fun H1 e1 => ho H1 e1 _ fun H2 e2 => ⟨Or.inl ⟨rfl, xs, SqL.of ((e1.trans e2) l _ hl)⟩, h H2 (e1.trans e2) _ fun p H3 hp e3 hφ => ⟨l, xs, .ref p, rfl, rfl, ((e1.trans e2).trans e3) l _ hl, sz_lt hz, q p H2 H3 (e1.trans e2) e3 hp hφ _ (Ex.refl _)⟩⟩
theorem b_setN {φ : Hp → Addr → Hp → Prop} {o ix : Expr} {p2 : Pos} {l : Addr} {xs : List V} {j : Nat} (h : EN X e σ H φ) (ho : EV X o σ H (.ref l)) (hi : EV X ix σ H (.int (j : Int))) (hl : H l = some (.lst xs)) (hj : j < xs.length)
    (q : ∀ p H0 H1, Ex H H0 → Ex H0 H1 → H0 p = none → φ H0 p H1 → ∀ H2, Ex H1 H2 → BS X rest D σ (upd H2 l (.lst (xs.set j (.ref p)))))
    (hs : swapsWithSole [.Subscript o ix p2] e pos.line X.env = pure false := by rfl) (hw : swappedStores [.Subscript o ix p2] e X.env = pure none := by rfl)
    (h3 : PG X (.Subscript o ix p2) (gSub (WE X o) (WE X ix) rSetL) := by exact pg_sub we_pe we_pe set_list) (h4 : (assignEach [.Subscript o ix p2] X.env).map (·.2) = [assign (.Subscript o ix p2) X.env] := by rfl) : BS X (.Assign [.Subscript o ix p2] e pos :: rest) D σ H :=
  b_setL (fun H1 e1 => h H1 e1 _ fun p H2 hp e2 hφ => ⟨e2, fun H3 e3 => q p H1 H2 e1 e2 hp hφ H3 e3⟩) ho hi hl hj hs hw h3 h4
end

/-! ### the classes' __init__ -/
def fR : List V → List (Str × V)
  | [a, b, c, d, e] => [("may", a), ("need", b), ("free", c), ("daily", d), ("lives", e)]
  | _ => []
def sp_iR (C : Addr) : Sp := spInit C 5 fun args _ p dx H' => H' p = some (.ins C dx (fR args))
def fA (u : Addr) : List V → List (Str × V)
  | [a, b, c, d, e] => [("asker", a), ("kind", b), ("number", c), ("amount", d), ("told", e), ("said", I 0), ("uses", .ref u), ("stage", I 0)]
  | _ => []
def sp_iA (C : Addr) : Sp := spInit C 5 fun args H p dx H' => ∃ u, H u = none ∧ H' u = some (.lst []) ∧ H' p = some (.ins C dx (fA u args))
def fS : List V → List (Str × V)
  | [a, b, c, d, e, f, g] => [("kind", a), ("giver", b), ("holder", c), ("each", d), ("total", e), ("till", f), ("chain", g), ("taken_back", .bl false)]
  | _ => []
def sp_iS (C : Addr) : Sp := spInit C 7 fun args _ p dx H' => H' p = some (.ins C dx (fS args))
def fD : List V → List (Str × V)
  | [a, b, c] => [("asked", a), ("day", b), ("counted", c)]
  | _ => []
def sp_iD (C : Addr) : Sp := spInit C 3 fun args _ p dx H' => H' p = some (.ins C dx (fD args))
def fB (l1 l2 l3 l4 : Addr) : List V → List (Str × V)
  | [a] => [("people", a), ("day", I 0), ("rules", .ref l1), ("asked", .ref l2), ("standing", .ref l3), ("deeds", .ref l4)]
  | _ => []
def sp_iB (C : Addr) : Sp := spInit C 1 fun args H p dx H' => ∃ l1 l2 l3 l4, H l1 = none ∧ H l2 = none ∧ H l3 = none ∧ H l4 = none ∧ l1 ≠ l2 ∧ l1 ≠ l3 ∧ l1 ≠ l4 ∧ l2 ≠ l3 ∧ l2 ≠ l4 ∧ l3 ≠ l4 ∧ H' l1 = some (.lst []) ∧ H' l2 = some (.lst []) ∧ H' l3 = some (.lst []) ∧ H' l4 = some (.lst []) ∧ H' p = some (.ins C dx (fB l1 l2 l3 l4 args))
section
variable {X : Cx} {C : Cs} {j : Nat} {H : Hp} {D : Ends} {p dx : Addr}
theorem Fr.trans {H H1 H2 : Hp} {p : Addr} (a : Fr H H1 p) (b : Fr H1 H2 p) : Fr H H2 p := fun x o h n => b x o (a x o h n) n
theorem b_iR (x : XC X N_iR (defScope s_iR) j) (T : TxC X C) {a b c d e : V} (hp : H p = some (.ins C.cR dx [])) (q : ∀ H', H' p = some (.ins C.cR dx (fR [a, b, c, d, e])) → Fr H H' p → D.nx [some (.ref p), some a, some b, some c, some d, some e] H') :
    BS X (defBody s_iR) D [some (.ref p), some a, some b, some c, some d, some e] H :=
  b_self (x.lv 1) (x.lv 0) hp T.kR T.nrM fun H1 h1 f1 => b_self (x.lv 2) (x.lv 0) h1 T.kR T.nrN fun H2 h2 f2 => b_self (x.lv 3) (x.lv 0) h2 T.kR T.nrF fun H3 h3 f3 => b_self (x.lv 4) (x.lv 0) h3 T.kR T.nrD fun H4 h4 f4 => b_self (x.lv 5) (x.lv 0) h4 T.kR T.nrL fun H5 h5 f5 =>
    b_nil fun H6 e6 => q H6 (e6 _ _ h5) fun b o hb hn => e6 _ _ ((((f1.trans f2).trans f3).trans f4).trans f5 b o hb hn)
theorem b_iA (x : XC X N_iA (defScope s_iA) j) (T : TxC X C) {a b c d e : V} (hp : H p = some (.ins C.cA dx [])) (q : ∀ u H', H u = none → H' u = some (.lst []) → H' p = some (.ins C.cA dx (fA u [a, b, c, d, e])) → Fr H H' p → D.nx [some (.ref p), some a, some b, some c, some d, some e] H') :
    BS X (defBody s_iA) D [some (.ref p), some a, some b, some c, some d, some e] H :=
  b_self (x.lv 1) (x.lv 0) hp T.kA T.naA fun H1 h1 f1 => b_self (x.lv 2) (x.lv 0) h1 T.kA T.naK fun H2 h2 f2 => b_self (x.lv 3) (x.lv 0) h2 T.kA T.naN fun H3 h3 f3 => b_self (x.lv 4) (x.lv 0) h3 T.kA T.naM fun H4 h4 f4 => b_self (x.lv 5) (x.lv 0) h4 T.kA T.naT fun H5 h5 f5 =>
    b_self x_int (x.lv 0) h5 T.kA T.naS fun H6 h6 f6 => b_selfL (l_lst a_nil (by decide)) (fun _ => x.lv 0) h6 T.kA T.naU fun u H7 hu hu2 h7 f7 => b_self (x.g T.OPEN) (x.lv 0) h7 T.kA T.naG fun H8 h8 f8 =>
    have f6' := ((((f1.trans f2).trans f3).trans f4).trans f5).trans f6
    b_nil fun H9 e9 => q u H9 (by
      cases z : H u with
      | none => rfl
      | some o =>
        by_cases hup : u = p
        · rw [hup, h6] at hu; cases hu
        · rw [f6' u o z hup] at hu; cases hu) (e9 _ _ (f8 u _ hu2 (fun z => by rw [z, h6] at hu; cases hu))) (e9 _ _ h8) fun b o hb hn => e9 _ _ ((f6'.trans f7).trans f8 b o hb hn)
theorem b_iS (x : XC X N_iS (defScope s_iS) j) (T : TxC X C) {a b c d e f g : V} (hp : H p = some (.ins C.cS dx [])) (q : ∀ H', H' p = some (.ins C.cS dx (fS [a, b, c, d, e, f, g])) → Fr H H' p → D.nx [some (.ref p), some a, some b, some c, some d, some e, some f, some g] H') :
    BS X (defBody s_iS) D [some (.ref p), some a, some b, some c, some d, some e, some f, some g] H :=
  b_self (x.lv 1) (x.lv 0) hp T.kS T.nsK fun H1 h1 f1 => b_self (x.lv 2) (x.lv 0) h1 T.kS T.nsG fun H2 h2 f2 => b_self (x.lv 3) (x.lv 0) h2 T.kS T.nsH fun H3 h3 f3 => b_self (x.lv 4) (x.lv 0) h3 T.kS T.nsE fun H4 h4 f4 => b_self (x.lv 5) (x.lv 0) h4 T.kS T.nsT fun H5 h5 f5 =>
    b_self (x.lv 6) (x.lv 0) h5 T.kS T.nsL fun H6 h6 f6 => b_self (x.lv 7) (x.lv 0) h6 T.kS T.nsC fun H7 h7 f7 => b_self x_bl (x.lv 0) h7 T.kS T.nsB fun H8 h8 f8 =>
    b_nil fun H9 e9 => q H9 (e9 _ _ h8) fun b o hb hn => e9 _ _ (((((((f1.trans f2).trans f3).trans f4).trans f5).trans f6).trans f7).trans f8 b o hb hn)
theorem b_iD (x : XC X N_iD (defScope s_iD) j) (T : TxC X C) {a b c : V} (hp : H p = some (.ins C.cD dx [])) (q : ∀ H', H' p = some (.ins C.cD dx (fD [a, b, c])) → Fr H H' p → D.nx [some (.ref p), some a, some b, some c] H') :
    BS X (defBody s_iD) D [some (.ref p), some a, some b, some c] H :=
  b_self (x.lv 1) (x.lv 0) hp T.kD T.ndA fun H1 h1 f1 => b_self (x.lv 2) (x.lv 0) h1 T.kD T.ndD fun H2 h2 f2 => b_self (x.lv 3) (x.lv 0) h2 T.kD T.ndC fun H3 h3 f3 =>
    b_nil fun H6 e6 => q H6 (e6 _ _ h3) fun b o hb hn => e6 _ _ ((f1.trans f2).trans f3 b o hb hn)
theorem Fr.none {H H' : Hp} {p u : Addr} (f : Fr H H' p) (hu : H' u = none) (hp : ∃ o, H' p = some o) : H u = none := by
  cases z : H u with
  | none => rfl
  | some o =>
    by_cases hup : u = p
    · obtain ⟨o', ho⟩ := hp; rw [hup, ho] at hu; cases hu
    · rw [f u o z hup] at hu; cases hu
theorem b_iB (x : XC X N_iB (defScope s_iB) j) (T : TxC X C) {a : V} (hp : H p = some (.ins C.cB dx [])) (q : ∀ l1 l2 l3 l4 H', H l1 = none → H l2 = none → H l3 = none → H l4 = none → l1 ≠ l2 → l1 ≠ l3 → l1 ≠ l4 → l2 ≠ l3 → l2 ≠ l4 → l3 ≠ l4 → H' l1 = some (.lst []) → H' l2 = some (.lst []) → H' l3 = some (.lst []) → H' l4 = some (.lst []) →
      H' p = some (.ins C.cB dx (fB l1 l2 l3 l4 [a])) → Fr H H' p → D.nx [some (.ref p), some a] H') :
    BS X (defBody s_iB) D [some (.ref p), some a] H :=
  b_self (x.lv 1) (x.lv 0) hp T.kB T.nbP fun H1 h1 f1 => b_self x_int (x.lv 0) h1 T.kB T.nbD fun H2 h2 f2 =>
    b_selfL (l_lst a_nil (by decide)) (fun _ => x.lv 0) h2 T.kB T.nbR fun l1 H3 n1 g1 h3 f3 => b_selfL (l_lst a_nil (by decide)) (fun _ => x.lv 0) h3 T.kB T.nbA fun l2 H4 n2 g2 h4 f4 =>
    b_selfL (l_lst a_nil (by decide)) (fun _ => x.lv 0) h4 T.kB T.nbS fun l3 H5 n3 g3 h5 f5 => b_selfL (l_lst a_nil (by decide)) (fun _ => x.lv 0) h5 T.kB T.nbE fun l4 H6 n4 g4 h6 f6 =>
    have k2 : Fr H H2 p := f1.trans f2
    have k3 : Fr H H3 p := k2.trans f3
    have k4 : Fr H H4 p := k3.trans f4
    have k5 : Fr H H5 p := k4.trans f5
    have np : ∀ {u : Addr} {G : Hp} {o : HO}, G u = none → G p = some o → u ≠ p := fun {u G o} z1 z2 z => by rw [z, z2] at z1; cases z1
    have m1 := np n1 h2
    have m2 := np n2 h3
    have m3 := np n3 h4
    have a1 := f4 l1 _ g1 m1
    have a2 := f5 l1 _ a1 m1
    have a3 := f6 l1 _ a2 m1
    have b2 := f5 l2 _ g2 m2
    have b3 := f6 l2 _ b2 m2
    have c3 := f6 l3 _ g3 m3
    b_nil fun H7 e7 => q l1 l2 l3 l4 H7 (k2.none n1 ⟨_, h2⟩) (k3.none n2 ⟨_, h3⟩) (k4.none n3 ⟨_, h4⟩) (k5.none n4 ⟨_, h5⟩) (ne_of_none g1 n2) (ne_of_none a1 n3) (ne_of_none a2 n4) (ne_of_none g2 n3) (ne_of_none b2 n4) (ne_of_none g3 n4)
      (e7 _ _ a3) (e7 _ _ b3) (e7 _ _ c3) (e7 _ _ g4) (e7 _ _ h6) fun b o hb hn => e7 _ _ (k5.trans f6 b o hb hn)
end
end Jd
namespace Jd
open PySem PySem.Spec PyProof.Rows L2 Evl Kp332

/-! ### calls that change the book -/
def spC (C : Cs) (φ : Ad → List V → Kp332.Call → Prop) : Sp := fun vs H Q _ => ∃ A h F c, Bk C H A h F ∧ φ A vs c ∧ ∀ H2 A2 h2, Bk C H2 A2 h2 F → A2.at_ .b = A.at_ .b → (Kp332.step (some h) c).1 = some h2 → Q (.int (num h c)) H2
def RC (C : Cs) (D : Ends) (A : Ad) (h : House) (F : Hp) (c : Kp332.Call) : Prop := ∀ H2 A2 h2, Bk C H2 A2 h2 F → A2.at_ .b = A.at_ .b → (Kp332.step (some h) c).1 = some h2 → D.rt (.int (num h c)) H2
theorem RC.new {C : Cs} {D : Ends} {A A2 : Ad} {h h2 : House} {F : Hp} {c : Kp332.Call} {H2 : Hp} {v : Int} (q : RC C D A h F c) (B : Bk C H2 A2 h2 F) (ea : A2.at_ .b = A.at_ .b) (es : Kp332.step (some h) c = (some h2, say v)) : RT D (.int v) H2 := fun H3 e3 => by
  have := q H3 A2 h2 (B.mono e3) ea (by rw [es])
  unfold num at this
  rw [es] at this
  exact this
theorem RC.same {C : Cs} {D : Ends} {A : Ad} {h : House} {F : Hp} {c : Kp332.Call} {H2 : Hp} {v : Int} (q : RC C D A h F c) (B : Bk C H2 A h F) (es : Kp332.step (some h) c = (some h, say v)) : RT D (.int v) H2 := q.new B rfl es

section
variable {X : Cx} {j : Nat} {C : Cs} {H : Hp} {A : Ad} {h : House} {F : Hp} {D : Ends}
theorem W.pA {N : List Str} {sc : Scope} (w : W X N sc j C H A h F) {r : Nat} (hr : r < h.asked.length) : H (A.at_ (.a r)) = some (.ins C.cA (A.dx (.a r)) (fsA A r (askedAt h r))) := w.b.rep.at_ (.a r) _ (by show Option.map _ _ = _; rw [asked_at hr]; rfl)
theorem W.pG {N : List Str} {sc : Scope} (w : W X N sc j C H A h F) {g : Nat} (hg : g < h.grants.length) : H (A.at_ (.g g)) = some (.ins C.cS (A.dx (.g g)) (fsS A g (grantAt h g))) := w.b.rep.at_ (.g g) _ (by show Option.map _ _ = _; rw [grant_at hg]; rfl)
theorem b_tick (w : W X N_tick (defScope s_tick) j C H A h F) {t : Nat} (q : RC C D A h F (.tick t)) : BS X (defBody s_tick) D [some (.ref (A.at_ .b)), some (I t)] H := by
  have es : Kp332.step (some h) (.tick t) = (if t < 1 ∨ 30 < t then (some h, say (-22)) else (some { h with day := h.day + t }, say (h.day + t : Nat))) := rfl
  refine b_when (w_or (t_lt (w.s 1) x_int) fun _ => w_or1 (t_gt (w.s 1) (w.x.g w.t.LONGEST_TICK))).t (fun h1 => b_ret (x_neg (w.x.g w.t.WRONG_VALUE)) (q.same w.b (by rw [es, if_pos (by omega)]))) fun h1 => ?_
  rw [if_neg (by omega)] at es
  refine b_fld (x_addN (w.bD (w.s 0)) (w.s 1)) (w.s 0) (w.b.rep.at_ .b (.ins C.cB (A.dx .b) (fsB A h)) rfl) w.t.kB w.t.nbD (by decide : 6 < 1000) fun H1 e1 => ?_
  have B2 : Bk C (upd H1 (A.at_ .b) (.ins C.cB (A.dx .b) (putF "day" (I (h.day + t)) (fsB A h)))) A { h with day := h.day + t } F := ⟨w.b.rep.set1 (x := .b) e1 trivial (fun q z => by cases q <;> exact z) rfl (fun q hq => cont_day hq), w.b.wf.tick _⟩
  have w2 := w.at_ B2
  exact b_ret (w2.bD (w2.s 0)) (q.new B2 rfl es)
theorem b_withdraw (w : W X N_withdraw (defScope s_withdraw) j C H A h F) {r : Nat} (q : RC C D A h F (.withdraw r)) : BS X (defBody s_withdraw) D [some (.ref (A.at_ .b)), some (I r), none] H := by
  have es : Kp332.step (some h) (.withdraw r) = ofR (some h) h r fun a => if a.state ≠ 0 then (some h, say (-6)) else (some (setAsked h r { a with state := 3 }), say 0) := rfl
  refine b_when (t_ge (w.s 1) (w.nA (w.bA (w.s 0)))) (fun h1 => b_ret (x_neg (w.x.g w.t.NO_SUCH)) (q.same w.b (by rw [es, ofR_out (by omega)]))) fun h1 => ?_
  have hr : r < h.asked.length := by omega
  rw [ofR_in hr] at es
  refine b_asg w.x 2 (w.iA (w.bA (w.s 0)) (w.s 1)) (b_when (t_ne (w.aG (w.s 2)) (w.x.g w.t.OPEN)) (fun h2 => b_ret (x_neg (w.x.g w.t.NOT_OPEN)) (q.same w.b (by rw [es, if_pos (by omega)]))) fun h2 => ?_)
  rw [if_neg (by omega)] at es
  refine b_fld (w.x.g w.t.WITHDRAWN) (w.s 2) (w.pA hr) w.t.kA w.t.naG (by decide : 8 < 1000) fun H1 e1 => ?_
  have B2 : Bk C (upd H1 (A.at_ (.a r)) (.ins C.cA (A.dx (.a r)) (putF "stage" (.int 3) (fsA A r (askedAt h r))))) A (setAsked h r { askedAt h r with state := 3 }) F := ⟨w.b.rep.set1 (x := .a r) e1 hr (fun q z => okp_setAsked.mp z) (cont_sa_a hr) (fun q hq => by
    by_cases e : q = .u r
    · subst e
      rw [cont_sa_u hr, cont_u hr]
    · exact cont_setAsked hq e), w.b.wf.setAsked hr (by omega) (w.b.wf.akind r hr) (w.b.wf.aasker r hr) (w.b.wf.ayes r hr) (w.b.wf.ause r hr) (w.b.wf.ausel r hr)⟩
  exact b_ret x_int (q.new B2 rfl es)
theorem b_no (w : W X N_no (defScope s_no) j C H A h F) (c1 : Callee X "has" j sp_has) {p r : Nat} (q : RC C D A h F (.no p r)) : BS X (defBody s_no) D [some (.ref (A.at_ .b)), some (I p), some (I r), none] H := by
  have es : Kp332.step (some h) (.no p r) = if is h p = false then (some h, say (-2)) else ofR (some h) h r fun a => if a.state ≠ 0 then (some h, say (-6)) else if (ruleAt h a.kind).may.testBit p = false then (some h, say (-13)) else (some (setAsked h r { a with state := 2 }), say 0) := rfl
  refine b_when (w_or (t_ge (w.s 1) (w.bP (w.s 0))) fun _ => w_or1 (t_ge (w.s 2) (w.nA (w.bA (w.s 0))))).t (fun h1 => b_ret (x_neg (w.x.g w.t.NO_SUCH)) (q.same w.b ?_)) fun h1 => ?_
  · rw [es]
    by_cases hp : p < h.n
    · rw [if_neg (by simp [is, hp]), ofR_out (by omega)]
    · rw [if_pos (by simp [is, hp])]
  have hr : r < h.asked.length := by omega
  have hk := w.b.wf.akind r hr
  rw [if_neg (by simp [is]; omega), ofR_in hr] at es
  refine b_asg w.x 3 (w.iA (w.bA (w.s 0)) (w.s 2)) (b_when (t_ne (w.aG (w.s 3)) (w.x.g w.t.OPEN)) (fun h2 => b_ret (x_neg (w.x.g w.t.NOT_OPEN)) (q.same w.b (by rw [es, if_pos (by omega)]))) fun h2 => ?_)
  rw [if_neg (by omega)] at es
  refine b_when (t_not (EB.of (w.x.call c1 (a_cons (w.rM (w.iR (w.bR (w.s 0)) (w.aK (w.s 3)))) (a_cons (w.s 1) a_nil)) fun _ _ => ⟨_, _, rfl, rfl⟩)).t) (fun h3 => b_ret (x_neg (w.x.g w.t.NOT_ALLOWED)) (q.same w.b (by rw [es, if_pos (by simpa using h3)]))) fun h3 => ?_
  rw [if_neg (by simpa using h3)] at es
  refine b_fld (w.x.g w.t.REFUSED) (w.s 3) (w.pA hr) w.t.kA w.t.naG (by decide : 8 < 1000) fun H1 e1 => ?_
  have B2 : Bk C (upd H1 (A.at_ (.a r)) (.ins C.cA (A.dx (.a r)) (putF "stage" (.int 2) (fsA A r (askedAt h r))))) A (setAsked h r { askedAt h r with state := 2 }) F := ⟨w.b.rep.set1 (x := .a r) e1 hr (fun q z => okp_setAsked.mp z) (cont_sa_a hr) (fun q hq => by
    by_cases e : q = .u r
    · subst e
      rw [cont_sa_u hr, cont_u hr]
    · exact cont_setAsked hq e), w.b.wf.setAsked hr (by omega) (w.b.wf.akind r hr) (w.b.wf.aasker r hr) (w.b.wf.ayes r hr) (w.b.wf.ause r hr) (w.b.wf.ausel r hr)⟩
  exact b_ret x_int (q.new B2 rfl es)
theorem refYes_cases (h : House) (p : Nat) (a : Kp332.Asked) (x m : Nat) : refYes h p a x m < 0 ∨ refYes h p a x m = 0 := by
  unfold refYes
  repeat' split
  all_goals first | (left; decide) | (right; rfl)
theorem step_yes {h : House} {p r x m : Nat} (hp : p < h.n) (hr : r < h.asked.length) : Kp332.step (some h) (.yes p r x m) = if refYes h p (askedAt h r) x m < 0 then (some h, say (refYes h p (askedAt h r) x m)) else (some (setAsked h r { askedAt h r with yes := (askedAt h r).yes ||| 2 ^ p }), say (size h.n ((askedAt h r).yes ||| 2 ^ p) : Nat)) := by
  have es : Kp332.step (some h) (.yes p r x m) = if is h p = false then (some h, say (-2)) else ofR (some h) h r fun a => if a.state ≠ 0 then (some h, say (-6)) else if old h a then (some h, say (-8)) else if p = a.asker then (some h, say (-12)) else if (ruleAt h a.kind).may.testBit p = false then (some h, say (-13)) else if x ≠ a.x ∨ m ≠ a.amount then (some h, say (-9)) else if a.yes.testBit p then (some h, say (-17)) else (some (setAsked h r { a with yes := a.yes ||| 2 ^ p }), say (size h.n (a.yes ||| 2 ^ p) : Nat)) := rfl
  rw [es, if_neg (by simp [is, hp]), ofR_in hr]
  unfold refYes
  by_cases h1 : (askedAt h r).state ≠ 0
  · simp only [if_pos h1]; rw [if_pos (by decide)]
  simp only [if_neg h1]
  by_cases h2 : old h (askedAt h r) = true
  · simp only [if_pos h2]; rw [if_pos (by decide)]
  simp only [if_neg h2]
  by_cases h3 : p = (askedAt h r).asker
  · simp only [if_pos h3]; rw [if_pos (by decide)]
  simp only [if_neg h3]
  by_cases h4 : (ruleAt h (askedAt h r).kind).may.testBit p = false
  · simp only [if_pos h4]; rw [if_pos (by decide)]
  simp only [if_neg h4]
  by_cases h5 : x ≠ (askedAt h r).x ∨ m ≠ (askedAt h r).amount
  · simp only [if_pos h5]; rw [if_pos (by decide)]
  simp only [if_neg h5]
  by_cases h6 : (askedAt h r).yes.testBit p = true
  · simp only [if_pos h6]; rw [if_pos (by decide)]
  simp only [if_neg h6]
  rw [if_neg (by decide)]
theorem b_yes (w : W X N_yes (defScope s_yes) j C H A h F) (c1 : Callee X "refusal_of_yes" j (sp_refusal_of_yes C)) (c2 : Callee X "how_many" j sp_how_many) {p r x m : Nat} (q : RC C D A h F (.yes p r x m)) :
    BS X (defBody s_yes) D [some (.ref (A.at_ .b)), some (I p), some (I r), some (I x), some (I m), none, none] H := by
  have hn8 := w.b.wf.n8
  refine b_when (w_or (t_ge (w.s 1) (w.bP (w.s 0))) fun _ => w_or1 (t_ge (w.s 2) (w.nA (w.bA (w.s 0))))).t (fun h1 => b_ret (x_neg (w.x.g w.t.NO_SUCH)) (q.same w.b ?_)) fun h1 => ?_
  · have es : Kp332.step (some h) (.yes p r x m) = if is h p = false then (some h, say (-2)) else ofR (some h) h r fun a => if a.state ≠ 0 then (some h, say (-6)) else if old h a then (some h, say (-8)) else if p = a.asker then (some h, say (-12)) else if (ruleAt h a.kind).may.testBit p = false then (some h, say (-13)) else if x ≠ a.x ∨ m ≠ a.amount then (some h, say (-9)) else if a.yes.testBit p then (some h, say (-17)) else (some (setAsked h r { a with yes := a.yes ||| 2 ^ p }), say (size h.n (a.yes ||| 2 ^ p) : Nat)) := rfl
    rw [es]
    by_cases hp : p < h.n
    · rw [if_neg (by simp [is, hp]), ofR_out (by omega)]
    · rw [if_pos (by simp [is, hp])]
  have hr : r < h.asked.length := by omega
  have hp : p < h.n := by omega
  have es := step_yes (x := x) (m := m) hp hr
  refine b_asg w.x 5 (w.iA (w.bA (w.s 0)) (w.s 2)) (b_asg w.x 6 (w.call c1 (a_cons (w.s 0) (a_cons (w.s 1) (a_cons (w.s 5) (a_cons (w.s 3) (a_cons (w.s 4) a_nil))))) ⟨r, p, x, m, hr, rfl, rfl⟩) (b_when (t_lt (w.s 6) x_int) (fun h2 => b_ret (w.s 6) (q.same w.b (by rw [es, if_pos h2]))) fun h2 => ?_))
  rw [if_neg h2] at es
  have hy := or_lt (w.b.wf.ayes r hr) (bit_lt hp)
  refine b_fld (x_orN (w.aS (w.s 5)) (x_bit (w.s 1) (by omega))) (w.s 5) (w.pA hr) w.t.kA w.t.naS (by decide : 8 < 1000) fun H1 e1 => ?_
  have B2 : Bk C (upd H1 (A.at_ (.a r)) (.ins C.cA (A.dx (.a r)) (putF "said" (I ((askedAt h r).yes ||| 2 ^ p)) (fsA A r (askedAt h r))))) A (setAsked h r { askedAt h r with yes := (askedAt h r).yes ||| 2 ^ p }) F := ⟨w.b.rep.set1 (x := .a r) e1 hr (fun q z => okp_setAsked.mp z) (cont_sa_a hr) (fun q hq => by
    by_cases e : q = .u r
    · subst e
      rw [cont_sa_u hr, cont_u hr]
    · exact cont_setAsked hq e), w.b.wf.setAsked hr (fun z => by
        rcases refYes_cases h p (askedAt h r) x m with y | y
        · exact h2 y
        · unfold refYes at y
          rw [if_pos (by omega)] at y
          cases y) (w.b.wf.akind r hr) (w.b.wf.aasker r hr) hy (w.b.wf.ause r hr) (w.b.wf.ausel r hr)⟩
  have w2 := w.at_ B2
  have hr2 : r < (setAsked h r { askedAt h r with yes := (askedAt h r).yes ||| 2 ^ p }).asked.length := by
    show r < (h.asked.set r _).length
    rw [List.length_set]
    exact hr
  have e2 : (askedAt (setAsked h r { askedAt h r with yes := (askedAt h r).yes ||| 2 ^ p }) r).yes = (askedAt h r).yes ||| 2 ^ p := by rw [askedAt_set hr, if_pos rfl]
  exact b_ret (w2.x.call c2 (a_cons (w2.aS (w2.s 5) hr2) a_nil) fun _ _ => ⟨_, h.n, by rw [e2]; exact hy, rfl, by rw [e2]⟩) (q.new B2 rfl es)
theorem b_use (w : W X N_use (defScope s_use) j C H A h F) {r g : Nat} (q : RC C D A h F (.use r g)) : BS X (defBody s_use) D [some (.ref (A.at_ .b)), some (I r), some (I g), none, none] H := by
  have es : Kp332.step (some h) (.use r g) = if isG h g = false then (some h, say (-2)) else ofR (some h) h r fun a => if a.state ≠ 0 then (some h, say (-6)) else if (grantAt h g).taker ≠ a.asker then (some h, say (-12)) else if (grantAt h g).kind ≠ a.kind then (some h, say (-22)) else if a.uses.contains g then (some h, say (-17)) else if USES ≤ a.uses.length then (some h, say (-28)) else (some (setAsked h r { a with uses := a.uses ++ [g] }), say (a.uses.length + 1 : Nat)) := rfl
  refine b_when (w_or (t_ge (w.s 1) (w.nA (w.bA (w.s 0)))) fun _ => w_or1 (t_ge (w.s 2) (w.nS (w.bS (w.s 0))))).t (fun h1 => b_ret (x_neg (w.x.g w.t.NO_SUCH)) (q.same w.b ?_)) fun h1 => ?_
  · rw [es]
    by_cases hg : g < h.grants.length
    · rw [if_neg (by simp [isG, hg]), ofR_out (by omega)]
    · rw [if_pos (by simp [isG, hg])]
  have hr : r < h.asked.length := by omega
  have hg : g < h.grants.length := by omega
  rw [if_neg (by simp [isG, hg]), ofR_in hr] at es
  refine b_asg w.x 3 (w.iA (w.bA (w.s 0)) (w.s 1)) (b_asg w.x 4 (w.iS (w.bS (w.s 0)) (w.s 2)) (b_when (t_ne (w.aG (w.s 3)) (w.x.g w.t.OPEN)) (fun h2 => b_ret (x_neg (w.x.g w.t.NOT_OPEN)) (q.same w.b (by rw [es, if_pos (by omega)]))) fun h2 => ?_))
  rw [if_neg (by omega)] at es
  refine b_when (t_ne (w.aA (w.s 3)) (w.sH (w.s 4))) (fun h3 => b_ret (x_neg (w.x.g w.t.WRONG_PERSON)) (q.same w.b (by rw [es, if_pos (by omega)]))) fun h3 => ?_
  rw [if_neg (by omega)] at es
  refine b_when (t_ne (w.aK (w.s 3)) (w.sK (w.s 4))) (fun h3 => b_ret (x_neg (w.x.g w.t.WRONG_VALUE)) (q.same w.b (by rw [es, if_pos (by omega)]))) fun h3 => ?_
  rw [if_neg (by omega)] at es
  refine b_when (t_inN (w.s 2) (w.aU (w.s 3)) (SqL.of (w.qU hr))) (fun h3 => b_ret (x_neg (w.x.g w.t.ALREADY)) (q.same w.b (by rw [es, if_pos (List.contains_iff_mem.mpr h3)]))) fun h3 => ?_
  rw [if_neg (fun z => h3 (List.contains_iff_mem.mp z))] at es
  refine b_when (t_ge (w.x.len w.t.m_len (w.aU (w.s 3)) (SqL.of (w.qU hr))) (w.x.g w.t.MOST_USED)) (fun h4 => b_ret (x_neg (w.x.g w.t.NO_MORE)) (q.same w.b (by rw [nums_len] at h4; rw [es, if_pos (by unfold USES; omega)]))) fun h4 => ?_
  rw [nums_len] at h4
  rw [if_neg (by unfold USES; omega)] at es
  refine b_app (w.aU (w.s 3)) (w.qU hr) (w.s 2) (by rw [nums_len]; omega) fun H1 e1 => ?_
  have en : nums (askedAt h r).uses ++ [I g] = nums ((askedAt h r).uses ++ [g]) := by
    unfold nums
    rw [List.map_append]
    rfl
  rw [en]
  have B2 : Bk C (upd H1 (A.at_ (.u r)) (.lst (nums ((askedAt h r).uses ++ [g])))) A (setAsked h r { askedAt h r with uses := (askedAt h r).uses ++ [g] }) F := ⟨w.b.rep.set1 (x := .u r) e1 hr (fun q z => okp_setAsked.mp z) (cont_sa_u hr) (fun q hq => by
    by_cases e : q = .a r
    · subst e
      rw [cont_sa_a hr]
      show _ = Option.map _ _
      rw [asked_at hr]
      rfl
    · exact cont_setAsked e hq), w.b.wf.setAsked hr (by omega) (w.b.wf.akind r hr) (w.b.wf.aasker r hr) (w.b.wf.ayes r hr) (fun i hi => by
        rcases List.mem_append.mp hi with hi | hi
        · exact w.b.wf.ause r hr i hi
        · obtain rfl := List.mem_singleton.mp hi
          exact hg) (by show ((askedAt h r).uses ++ [g]).length ≤ 3; rw [len_snoc]; omega)⟩
  have w2 := w.at_ B2
  have hr2 : r < (setAsked h r { askedAt h r with uses := (askedAt h r).uses ++ [g] }).asked.length := by
    show r < (h.asked.set r _).length
    rw [List.length_set]
    exact hr
  refine b_ret (x_is (w2.x.len w2.t.m_len (w2.aU (w2.s 3) hr2) (SqL.of (xs := nums ((askedAt h r).uses ++ [g])) upd_same)) ?_) (q.new B2 rfl es)
  rw [nums_len, len_snoc]
theorem b_revoke (w : W X N_revoke (defScope s_revoke) j C H A h F) (c1 : Callee X "beneath" j (sp_beneath C)) (c2 : Callee X "is_living" j (sp_is_living C)) {g : Nat} (hfn : X.fn "book" = true) (q : RC C D A h F (.revoke g)) :
    BS X (defBody s_revoke) D [some (.ref (A.at_ .b)), some (I g), none, none, none] H := by
  have es : Kp332.step (some h) (.revoke g) = if isG h g = false then (some h, say (-2)) else if (grantAt h g).back then (some h, say (-17)) else (some { h with grants := h.grants.set g (backed (grantAt h g)) }, say (((Kp332.under h g).filter fun i => living h i).length : Nat)) := rfl
  refine b_when (t_ge (w.s 1) (w.nS (w.bS (w.s 0)))) (fun h1 => b_ret (x_neg (w.x.g w.t.NO_SUCH)) (q.same w.b (by rw [es, if_pos (by simp [isG]; omega)]))) fun h1 => ?_
  have hg : g < h.grants.length := by omega
  have hgl := w.b.wf.gl
  have hul := under_len h g
  rw [if_neg (by simp [isG, hg])] at es
  refine b_asg w.x 2 (w.iS (w.bS (w.s 0)) (w.s 1)) (b_when (EB.of (w.sB (w.s 2))).t (fun h2 => b_ret (x_neg (w.x.g w.t.ALREADY)) (q.same w.b (by rw [es, if_pos h2]))) fun h2 => ?_)
  rw [if_neg h2] at es
  have hin : ∀ i ∈ Kp332.under h g, i < h.grants.length := fun i hi => List.mem_range.mp (List.mem_filter.mp hi).1
  refine b_asg w.x 3 (x_is (w.x.lenN w.t.m_len (w.x.lcL (xs := nums (Kp332.under h g)) (f := fun n => living h ((Kp332.under h g).getD n 0)) (g := fun n => I ((Kp332.under h g).getD n 0)) (on := "h") (oi := 4) (Or.inr (w.callL c1 (a_cons (w.s 0) (a_cons (w.s 1) a_nil)) ⟨g, hg, rfl, rfl⟩)) (by rw [nums_len]; omega) (by decide +kernel) rfl rfl (fun _ => rfl)
    (fun Y y c n x H1 e1 hx cc hcc => ?_) (Or.inl rfl) (fun Y y c n x H1 e1 hx _ => ?_))) (z := I ((Kp332.under h g).filter fun i => living h i).length) ?_) ?_
  · obtain rfl := List.mem_singleton.mp hcc
    obtain ⟨i, hi, rfl⟩ := nums_get hx
    have w1 := (w.mono e1).blk y c
    rw [getD_some hi]
    exact (EB.of (w1.call (y.callee c2) (a_cons (w1.s 0) (a_cons (w1.s 4) a_nil)) ⟨i, hin i (List.mem_of_getElem? hi), rfl, rfl⟩)).t
  · obtain ⟨i, hi, rfl⟩ := nums_get hx
    rw [getD_some hi]
    exact c.lv 4
  · congr 2
    unfold given
    rw [List.length_map, nums_len, ← List.countP_eq_length_filter, ← List.countP_eq_length_filter]
    have : Kp332.under h g = (List.range (Kp332.under h g).length).map fun n => (Kp332.under h g).getD n 0 := by
      refine List.ext_getElem? fun n => ?_
      rw [List.getElem?_map]
      by_cases hn : n < (Kp332.under h g).length
      · obtain ⟨y, hy⟩ := get_some hn
        rw [List.getElem?_range hn, hy]
        show _ = some ((Kp332.under h g).getD n 0)
        rw [getD_some hy]
      · rw [List.getElem?_eq_none (by omega), List.getElem?_eq_none (by rw [List.length_range]; omega)]
        rfl
    conv => rhs; rw [this, List.countP_map]
    rfl
  refine b_fld x_bl (w.s 2) (w.pG hg) w.t.kS w.t.nsB (by decide : 8 < 1000) fun H1 e1 => ?_
  have B2 : Bk C (upd H1 (A.at_ (.g g)) (.ins C.cS (A.dx (.g g)) (putF "taken_back" (.bl true) (fsS A g (grantAt h g))))) A { h with grants := h.grants.set g (backed (grantAt h g)) } F := ⟨w.b.rep.set1 (x := .g g) e1 hg (fun q z => by cases q <;> first | exact z | simpa [okp] using z) (by
      show (h.grants.set g (backed (grantAt h g)))[g]?.map _ = _
      rw [List.getElem?_set_self hg]
      rfl) (fun q hq => cont_revoke (x := backed (grantAt h g)) hg rfl hq), w.b.wf.revoke hg⟩
  have w2 := w.at_ B2
  exact b_ret (w2.s 3) (q.new B2 rfl es)
end
end Jd
namespace Jd
open PySem PySem.Spec PyProof.Rows L2 Evl Kp332

section
variable {X : Cx} {j : Nat} {C : Cs} {H : Hp} {A : Ad} {h : House} {F : Hp} {D : Ends}
theorem made_none {H : Hp} {c x dx u : Addr} (h : made H c x dx u = none) : H u = none ∧ u ≠ x := by
  unfold made at h
  have h1 : u ≠ x := fun z => by
    rw [z, upd_same] at h
    cases h
  rw [upd_ne h1] at h
  have h2 : u ≠ dx := fun z => by
    rw [z, upd_same] at h
    cases h
  rw [upd_ne h2] at h
  exact ⟨h, h1⟩
/-- one more rule -/
theorem b_rule (w : W X N_rule (defScope s_rule) j C H A h F) (c1 : Callee X "is_rule" j (sp_is_rule C)) {jm : Nat} (M : MkOk X "Rule" C.cR jm (sp_iR C.cR)) (hj : jm + 1 ≤ j) {m n f d l : Nat} (q : RC C D A h F (.rule m n f d l)) :
    BS X (defBody s_rule) D [some (.ref (A.at_ .b)), some (I m), some (I n), some (I f), some (I d), some (I l)] H := by
  have es : Kp332.step (some h) (.rule m n f d l) = if okRule h m n f d l = false then (some h, say (-22)) else if KINDS ≤ h.rules.length then (some h, say (-28)) else (some { h with rules := h.rules ++ [⟨m, n, f, d, l⟩] }, say (h.rules.length : Nat)) := rfl
  refine b_when (t_not (EB.of (w.call c1 (a_cons (w.s 0) (a_cons (w.s 1) (a_cons (w.s 2) (a_cons (w.s 3) (a_cons (w.s 4) (a_cons (w.s 5) a_nil)))))) ⟨m, n, f, d, l, rfl, rfl⟩)).t) (fun h1 => b_ret (x_neg (w.x.g w.t.WRONG_VALUE)) (q.same w.b (by rw [es, if_pos (by simpa using h1)]))) fun h1 => ?_
  have ho : okRule h m n f d l = true := Classical.not_not.mp h1
  rw [if_neg (by rw [ho]; decide)] at es
  refine b_when (t_ge (w.nR (w.bR (w.s 0))) (w.x.g w.t.MOST_KINDS)) (fun h2 => b_ret (x_neg (w.x.g w.t.NO_MORE)) (q.same w.b (by rw [es, if_pos (by unfold KINDS; omega)]))) fun h2 => ?_
  rw [if_neg (by unfold KINDS; omega)] at es
  have hw : m < 2 ^ h.n ∧ n ≤ 3 := by
    unfold okRule isSet at ho
    simp only [Bool.and_eq_true, decide_eq_true_iff] at ho
    omega
  refine b_appN (w.bR (w.s 0)) w.qR (w.x.make M hj (a_cons (w.s 1) (a_cons (w.s 2) (a_cons (w.s 3) (a_cons (w.s 4) (a_cons (w.s 5) a_nil))))) rfl) (by rw [refs_len]; omega) fun p H0 H1 e0 e1 hp hφ => ?_
  obtain ⟨H0', dx, e0', hp', hdx, hne, hφ⟩ := hφ
  have hag : ∀ q, okp h q → (A.put (.r h.rules.length) p dx).at_ q = A.at_ q ∧ (A.put (.r h.rules.length) p dx).dx q = A.dx q := fun q hq => by
    have : q ≠ .r h.rules.length := fun z => by rw [z] at hq; exact absurd hq (Nat.lt_irrefl _)
    exact ⟨Ad.put_ne this, Ad.put_dne this⟩
  have B2 : Bk C (upd H1 (A.at_ .lr) (.lst (refs A h.rules.length .r ++ [.ref p]))) (A.put (.r h.rules.length) p dx) { h with rules := h.rules ++ [⟨m, n, f, d, l⟩] } F := by
    refine ⟨w.b.rep.add (e0.trans e1) (fun q => q = .r h.rules.length) (fun q hq _ => (hag q hq).1) (fun q hq => ?_) (fun q hq => ?_) (fun q q' hq hq' _ => hq.trans hq'.symm) (lx := .lr) trivial (fun z => nomatch z) ?_ (fun q hq _ hl => (cont_rule hq hl).trans (cont_agree hag q)) (fun q o hq ho => ?_), w.b.wf.rule (by omega) hw.1 hw.2⟩
    · cases q with
      | r k =>
        have : k < (h.rules ++ [_]).length := hq
        rw [len_snoc] at this
        by_cases z : k = h.rules.length
        · exact Or.inr (by rw [z])
        · exact Or.inl (show k < h.rules.length by omega)
      | _ => exact Or.inl hq
    · rw [hq, Ad.put_same]
      exact fresh_back e0 hp
    · show some (HO.lst (refs _ (h.rules ++ [_]).length .r)) = _
      rw [len_snoc, refs_succ, Ad.put_same, refs_congr fun k hk => (hag (.r k) hk).1]
    · subst hq
      have : cont C (A.put (.r h.rules.length) p dx) { h with rules := h.rules ++ [⟨m, n, f, d, l⟩] } (.r h.rules.length) = some (.ins C.cR ((A.put (.r h.rules.length) p dx).dx (.r h.rules.length)) (fsR (A.put (.r h.rules.length) p dx) h.rules.length ⟨m, n, f, d, l⟩)) := by
        show (h.rules ++ [_])[h.rules.length]?.map _ = _
        rw [List.getElem?_append_right (Nat.le_refl _), Nat.sub_self]
        rfl
      rw [this, Ad.put_dx] at ho
      rw [Ad.put_same, ← ho]
      exact hφ
  have w2 := w.at_ B2
  refine b_ret (x_is (x_sub (w2.nR (w2.bR (w2.s 0))) x_int) ?_) (q.new B2 (Ad.put_ne (by simp)) es)
  show V.int (((h.rules ++ [_]).length : Nat) - 1 : Int) = _
  rw [len_snoc]
  congr 1
  omega
theorem b_rerule (w : W X N_rerule (defScope s_rerule) j C H A h F) (c1 : Callee X "is_rule" j (sp_is_rule C)) {jm : Nat} (M : MkOk X "Rule" C.cR jm (sp_iR C.cR)) (hj : jm + 1 ≤ j) {k m n f d l : Nat} (q : RC C D A h F (.rerule k m n f d l)) :
    BS X (defBody s_rerule) D [some (.ref (A.at_ .b)), some (I k), some (I m), some (I n), some (I f), some (I d), some (I l)] H := by
  have es : Kp332.step (some h) (.rerule k m n f d l) = if isK h k = false then (some h, say (-2)) else if okRule h m n f d l = false then (some h, say (-22)) else (some { h with rules := h.rules.set k ⟨m, n, f, d, l⟩ }, say 0) := rfl
  refine b_when (t_ge (w.s 1) (w.nR (w.bR (w.s 0)))) (fun h1 => b_ret (x_neg (w.x.g w.t.NO_SUCH)) (q.same w.b (by rw [es, if_pos (isK_out (by omega))]))) fun h1 => ?_
  have hk : k < h.rules.length := by omega
  rw [if_neg (by rw [isK_in hk]; decide)] at es
  refine b_when (t_not (EB.of (w.call c1 (a_cons (w.s 0) (a_cons (w.s 2) (a_cons (w.s 3) (a_cons (w.s 4) (a_cons (w.s 5) (a_cons (w.s 6) a_nil)))))) ⟨m, n, f, d, l, rfl, rfl⟩)).t) (fun h1 => b_ret (x_neg (w.x.g w.t.WRONG_VALUE)) (q.same w.b (by rw [es, if_pos (by simpa using h1)]))) fun h1 => ?_
  have ho : okRule h m n f d l = true := Classical.not_not.mp h1
  rw [if_neg (by rw [ho]; decide)] at es
  have hw : m < 2 ^ h.n ∧ n ≤ 3 := by
    unfold okRule isSet at ho
    simp only [Bool.and_eq_true, decide_eq_true_iff] at ho
    omega
  refine b_setN (w.x.make M hj (a_cons (w.s 2) (a_cons (w.s 3) (a_cons (w.s 4) (a_cons (w.s 5) (a_cons (w.s 6) a_nil))))) rfl) (w.bR (w.s 0)) (w.s 1) w.qR (by rw [refs_len]; exact hk) fun p H0 H1 e0 e1 hp hφ H2 e2 => ?_
  obtain ⟨H0', dx, e0', hp', hdx, hne, hφ⟩ := hφ
  have hag : ∀ q, q ≠ .r k → (A.put (.r k) p dx).at_ q = A.at_ q ∧ (A.put (.r k) p dx).dx q = A.dx q := fun q hq => ⟨Ad.put_ne hq, Ad.put_dne hq⟩
  have B2 : Bk C (upd H2 (A.at_ .lr) (.lst ((refs A h.rules.length .r).set k (.ref p)))) (A.put (.r k) p dx) { h with rules := h.rules.set k ⟨m, n, f, d, l⟩ } F := by
    refine ⟨w.b.rep.add ((e0.trans e1).trans e2) (fun q => q = .r k) (fun q hq hn => (hag q hn).1) (fun q hq => ?_) (fun q hq => ?_) (fun q q' hq hq' _ => hq.trans hq'.symm) (lx := .lr) trivial (fun z => nomatch z) ?_ (fun q hq hn hl => ?_) (fun q o hq ho => ?_), w.b.wf.rerule hk hw.1 hw.2⟩
    · cases q <;> first | exact Or.inl hq | exact Or.inl (by simpa [okp] using hq)
    · rw [hq, Ad.put_same]
      exact fresh_back e0 hp
    · show some (HO.lst (refs _ (h.rules.set k _).length .r)) = _
      rw [List.length_set]
      congr 2
      refine List.ext_getElem? fun i => ?_
      by_cases hi : i < h.rules.length
      · rw [refs_at hi]
        by_cases z : i = k
        · subst z
          rw [List.getElem?_set_self (by rw [refs_len]; exact hi), Ad.put_same]
        · rw [List.getElem?_set_ne (fun y => z y.symm), refs_at hi, (hag (.r i) (fun y => z (by injection y))).1]
      · rw [List.getElem?_eq_none (by rw [refs_len]; omega), List.getElem?_eq_none (by rw [List.length_set, refs_len]; omega)]
    · rw [cont_rerule hn]
      cases q with
      | lr => exact absurd rfl hl
      | r i =>
        show Option.map _ _ = Option.map _ _
        cases e : h.rules[i]? with
        | none => rfl
        | some R =>
          show some (HO.ins _ ((A.put (.r k) p dx).dx (.r i)) _) = some (HO.ins _ (A.dx (.r i)) _)
          rw [(hag (.r i) hn).2]
          rfl
      | _ => rfl
    · subst hq
      have : cont C (A.put (.r k) p dx) { h with rules := h.rules.set k ⟨m, n, f, d, l⟩ } (.r k) = some (.ins C.cR ((A.put (.r k) p dx).dx (.r k)) (fsR (A.put (.r k) p dx) k ⟨m, n, f, d, l⟩)) := by
        show (h.rules.set k _)[k]?.map _ = _
        rw [List.getElem?_set_self hk]
        rfl
      rw [this, Ad.put_dx] at ho
      rw [Ad.put_same, ← ho]
      exact e2 _ _ hφ
  exact b_ret x_int (q.new B2 (Ad.put_ne (by simp)) es)
theorem b_ask (w : W X N_ask (defScope s_ask) j C H A h F) {jm : Nat} (M : MkOk X "Asked" C.cA jm (sp_iA C.cA)) (hj : jm + 1 ≤ j) {p k x m : Nat} (q : RC C D A h F (.ask p k x m)) :
    BS X (defBody s_ask) D [some (.ref (A.at_ .b)), some (I p), some (I k), some (I x), some (I m)] H := by
  have es : Kp332.step (some h) (.ask p k x m) = if is h p = false ∨ isK h k = false then (some h, say (-2)) else if MOST < m then (some h, say (-22)) else if ASKED ≤ h.asked.length then (some h, say (-28)) else (some { h with asked := h.asked ++ [⟨k, p, x, m, h.day, 0, [], 0⟩] }, say (h.asked.length : Nat)) := rfl
  refine b_when (w_or (t_ge (w.s 1) (w.bP (w.s 0))) fun _ => w_or1 (t_ge (w.s 2) (w.nR (w.bR (w.s 0))))).t (fun h1 => b_ret (x_neg (w.x.g w.t.NO_SUCH)) (q.same w.b (by rw [es, if_pos (by simp [is, isK]; omega)]))) fun h1 => ?_
  rw [if_neg (by simp [is, isK]; omega)] at es
  refine b_when (t_gt (w.s 4) (w.x.g w.t.MOST_AMOUNT)) (fun h2 => b_ret (x_neg (w.x.g w.t.WRONG_VALUE)) (q.same w.b (by rw [es, if_pos (by unfold MOST; omega)]))) fun h2 => ?_
  rw [if_neg (by unfold MOST; omega)] at es
  refine b_when (t_ge (w.nA (w.bA (w.s 0))) (w.x.g w.t.MOST_ASKED)) (fun h3 => b_ret (x_neg (w.x.g w.t.NO_MORE)) (q.same w.b (by rw [es, if_pos (by unfold ASKED; omega)]))) fun h3 => ?_
  rw [if_neg (by unfold ASKED; omega)] at es
  refine b_appN (w.bA (w.s 0)) w.qA (w.x.make M hj (a_cons (w.s 1) (a_cons (w.s 2) (a_cons (w.s 3) (a_cons (w.s 4) (a_cons (w.bD (w.s 0)) a_nil))))) rfl) (by rw [refs_len]; omega) fun pp H0 H1 e0 e1 hp hφ => ?_
  obtain ⟨H0', dx, e0', hp', hdx, hne, u, hu, hu1, hφ⟩ := hφ
  obtain ⟨hu, hup⟩ := made_none hu
  have hag : ∀ q, q ≠ .a h.asked.length → q ≠ .u h.asked.length → ((A.put (.a h.asked.length) pp dx).put (.u h.asked.length) u 0).at_ q = A.at_ q ∧ ((A.put (.a h.asked.length) pp dx).put (.u h.asked.length) u 0).dx q = A.dx q := fun q h1 h2 => ⟨(Ad.put_ne h2).trans (Ad.put_ne h1), (Ad.put_dne h2).trans (Ad.put_dne h1)⟩
  have hag2 : ∀ q, okp h q → ((A.put (.a h.asked.length) pp dx).put (.u h.asked.length) u 0).at_ q = A.at_ q ∧ ((A.put (.a h.asked.length) pp dx).put (.u h.asked.length) u 0).dx q = A.dx q := fun q hq => hag q (fun z => by rw [z] at hq; exact absurd hq (Nat.lt_irrefl _)) (fun z => by rw [z] at hq; exact absurd hq (Nat.lt_irrefl _))
  have ea : ((A.put (.a h.asked.length) pp dx).put (.u h.asked.length) u 0).at_ (.a h.asked.length) = pp := (Ad.put_ne (by simp)).trans Ad.put_same
  have eu : ((A.put (.a h.asked.length) pp dx).put (.u h.asked.length) u 0).at_ (.u h.asked.length) = u := Ad.put_same
  have ed : ((A.put (.a h.asked.length) pp dx).put (.u h.asked.length) u 0).dx (.a h.asked.length) = dx := (Ad.put_dne (by simp)).trans Ad.put_dx
  have B2 : Bk C (upd H1 (A.at_ .la) (.lst (refs A h.asked.length .a ++ [.ref pp]))) ((A.put (.a h.asked.length) pp dx).put (.u h.asked.length) u 0) { h with asked := h.asked ++ [⟨k, p, x, m, h.day, 0, [], 0⟩] } F := by
    refine ⟨w.b.rep.add (e0.trans e1) (fun q => q = .a h.asked.length ∨ q = .u h.asked.length) (fun q hq _ => (hag2 q hq).1) (fun q hq => ?_) (fun q hq => ?_) (fun q q' hq hq' e => ?_) (lx := .la) trivial (fun z => by simp at z) ?_ (fun q hq _ hl => (cont_ask hq hl).trans (cont_agree hag2 q)) (fun q o hq ho => ?_), w.b.wf.ask (by omega) (show k < h.rules.length by omega) (show p < h.n by omega) (Nat.two_pow_pos _) (fun g hg => by cases hg) (Nat.zero_le _)⟩
    · cases q with
      | a i =>
        have : i < (h.asked ++ [_]).length := hq
        rw [len_snoc] at this
        by_cases z : i = h.asked.length
        · exact Or.inr (Or.inl (by rw [z]))
        · exact Or.inl (show i < h.asked.length by omega)
      | u i =>
        have : i < (h.asked ++ [_]).length := hq
        rw [len_snoc] at this
        by_cases z : i = h.asked.length
        · exact Or.inr (Or.inr (by rw [z]))
        · exact Or.inl (show i < h.asked.length by omega)
      | _ => exact Or.inl hq
    · rcases hq with rfl | rfl
      · rw [ea]
        exact fresh_back e0 hp
      · rw [eu]
        exact fresh_back (e0.trans e0') hu
    · rcases hq with rfl | rfl <;> rcases hq' with rfl | rfl
      · rfl
      · rw [ea, eu] at e
        exact absurd e.symm hup
      · rw [ea, eu] at e
        exact absurd e hup
      · rfl
    · show some (HO.lst (refs _ (h.asked ++ [_]).length .a)) = _
      rw [len_snoc, refs_succ, ea, refs_congr fun i hi => (hag2 (.a i) hi).1]
    · rcases hq with rfl | rfl
      · have : cont C ((A.put (.a h.asked.length) pp dx).put (.u h.asked.length) u 0) { h with asked := h.asked ++ [⟨k, p, x, m, h.day, 0, [], 0⟩] } (.a h.asked.length) = some (.ins C.cA (((A.put (.a h.asked.length) pp dx).put (.u h.asked.length) u 0).dx (.a h.asked.length)) (fsA ((A.put (.a h.asked.length) pp dx).put (.u h.asked.length) u 0) h.asked.length ⟨k, p, x, m, h.day, 0, [], 0⟩)) := by
          show (h.asked ++ [_])[h.asked.length]?.map _ = _
          rw [List.getElem?_append_right (Nat.le_refl _), Nat.sub_self]
          rfl
        rw [this, ed] at ho
        unfold fsA at ho
        rw [eu] at ho
        rw [ea, ← ho]
        exact hφ
      · have : cont C ((A.put (.a h.asked.length) pp dx).put (.u h.asked.length) u 0) { h with asked := h.asked ++ [⟨k, p, x, m, h.day, 0, [], 0⟩] } (.u h.asked.length) = some (.lst (nums [])) := by
          show (h.asked ++ [_])[h.asked.length]?.map _ = _
          rw [List.getElem?_append_right (Nat.le_refl _), Nat.sub_self]
          rfl
        rw [this] at ho
        rw [eu, ← ho]
        exact hu1
  have w2 := w.at_ B2
  have e3 : ((A.put (.a h.asked.length) pp dx).put (.u h.asked.length) u 0).at_ .b = A.at_ .b := (hag .b (by simp) (by simp)).1
  refine b_ret (x_is (x_sub (w2.nA (w2.bA (w2.x.lv 0 (hσ := by rw [e3]; rfl)))) x_int) ?_) (q.new B2 e3 es)
  show V.int (((h.asked ++ [_]).length : Nat) - 1 : Int) = _
  rw [len_snoc]
  congr 1
  omega
end
end Jd
namespace Jd
open PySem PySem.Spec PyProof.Rows L2 Evl Kp332

section
variable {X : Cx} {j : Nat} {C : Cs} {H : Hp} {A : Ad} {h : House} {F : Hp} {D : Ends}
theorem b_change (w : W X N_change (defScope s_change) j C H A h F) {jm : Nat} (M : MkOk X "Asked" C.cA jm (sp_iA C.cA)) (hj : jm + 1 ≤ j) {r x m : Nat} (q : RC C D A h F (.change r x m)) :
    BS X (defBody s_change) D [some (.ref (A.at_ .b)), some (I r), some (I x), some (I m), none] H := by
  have es : Kp332.step (some h) (.change r x m) = ofR (some h) h r fun a => if MOST < m then (some h, say (-22)) else if a.state ≠ 0 then (some h, say (-6)) else (some (setAsked h r { a with x := x, amount := m, told := h.day, yes := 0, uses := [] }), say 0) := rfl
  refine b_when (t_ge (w.s 1) (w.nA (w.bA (w.s 0)))) (fun h1 => b_ret (x_neg (w.x.g w.t.NO_SUCH)) (q.same w.b (by rw [es, ofR_out (by omega)]))) fun h1 => ?_
  have hr : r < h.asked.length := by omega
  rw [ofR_in hr] at es
  refine b_when (t_gt (w.s 3) (w.x.g w.t.MOST_AMOUNT)) (fun h2 => b_ret (x_neg (w.x.g w.t.WRONG_VALUE)) (q.same w.b (by rw [es, if_pos (by unfold MOST; omega)]))) fun h2 => ?_
  rw [if_neg (by unfold MOST; omega)] at es
  refine b_asg w.x 4 (w.iA (w.bA (w.s 0)) (w.s 1)) (b_when (t_ne (w.aG (w.s 4)) (w.x.g w.t.OPEN)) (fun h3 => b_ret (x_neg (w.x.g w.t.NOT_OPEN)) (q.same w.b (by rw [es, if_pos (by omega)]))) fun h3 => ?_)
  have hst : (askedAt h r).state = 0 := by omega
  rw [if_neg (by omega)] at es
  refine b_setN (w.x.make M hj (a_cons (w.aA (w.s 4)) (a_cons (w.aK (w.s 4)) (a_cons (w.s 2) (a_cons (w.s 3) (a_cons (w.bD (w.s 0)) a_nil))))) rfl) (w.bA (w.s 0)) (w.s 1) w.qA (by rw [refs_len]; exact hr) fun pp H0 H1 e0 e1 hp hφ H2 e2 => ?_
  obtain ⟨H0', dx, e0', hp', hdx, hne, u, hu, hu1, hφ⟩ := hφ
  obtain ⟨hu, hup⟩ := made_none hu
  generalize ha2 : ({ askedAt h r with x := x, amount := m, told := h.day, yes := 0, uses := [] } : Kp332.Asked) = a2 at es
  have hag : ∀ q, q ≠ .a r → q ≠ .u r → ((A.put (.a r) pp dx).put (.u r) u 0).at_ q = A.at_ q ∧ ((A.put (.a r) pp dx).put (.u r) u 0).dx q = A.dx q := fun q h1 h2 => ⟨(Ad.put_ne h2).trans (Ad.put_ne h1), (Ad.put_dne h2).trans (Ad.put_dne h1)⟩
  have ea : ((A.put (.a r) pp dx).put (.u r) u 0).at_ (.a r) = pp := (Ad.put_ne (by simp)).trans Ad.put_same
  have eu : ((A.put (.a r) pp dx).put (.u r) u 0).at_ (.u r) = u := Ad.put_same
  have ed : ((A.put (.a r) pp dx).put (.u r) u 0).dx (.a r) = dx := (Ad.put_dne (by simp)).trans Ad.put_dx
  have B2 : Bk C (upd H2 (A.at_ .la) (.lst ((refs A h.asked.length .a).set r (.ref pp)))) ((A.put (.a r) pp dx).put (.u r) u 0) (setAsked h r a2) F := by
    refine ⟨w.b.rep.add ((e0.trans e1).trans e2) (fun q => q = .a r ∨ q = .u r) (fun q hq hn => (hag q (fun z => hn (Or.inl z)) (fun z => hn (Or.inr z))).1) (fun q hq => Or.inl (okp_setAsked.mp hq)) (fun q hq => ?_) (fun q q' hq hq' e => ?_) (lx := .la) trivial (fun z => by simp at z) ?_ (fun q hq hn hl => ?_) (fun q o hq ho => ?_),
      w.b.wf.setAsked hr (by omega) (by rw [← ha2]; exact w.b.wf.akind r hr) (by rw [← ha2]; exact w.b.wf.aasker r hr) (by rw [← ha2]; exact Nat.two_pow_pos _) (by rw [← ha2]; intro g hg; cases hg) (by rw [← ha2]; exact Nat.zero_le _)⟩
    · rcases hq with rfl | rfl
      · rw [ea]
        exact fresh_back e0 hp
      · rw [eu]
        exact fresh_back (e0.trans e0') hu
    · rcases hq with rfl | rfl <;> rcases hq' with rfl | rfl
      · rfl
      · rw [ea, eu] at e
        exact absurd e.symm hup
      · rw [ea, eu] at e
        exact absurd e hup
      · rfl
    · show some (HO.lst (refs _ (h.asked.set r _).length .a)) = _
      rw [List.length_set]
      congr 2
      refine List.ext_getElem? fun i => ?_
      by_cases hi : i < h.asked.length
      · rw [refs_at hi]
        by_cases z : i = r
        · subst z
          rw [List.getElem?_set_self (by rw [refs_len]; exact hi), ea]
        · rw [List.getElem?_set_ne (fun y => z y.symm), refs_at hi, (hag (.a i) (fun y => z (by injection y)) (by simp)).1]
      · rw [List.getElem?_eq_none (by rw [refs_len]; omega), List.getElem?_eq_none (by rw [List.length_set, refs_len]; omega)]
    · have n1 : q ≠ .a r := fun z => hn (Or.inl z)
      have n2 : q ≠ .u r := fun z => hn (Or.inr z)
      rw [cont_setAsked n1 n2]
      cases q with
      | la => exact absurd rfl hl
      | a i =>
        show Option.map _ _ = Option.map _ _
        cases e : h.asked[i]? with
        | none => rfl
        | some R =>
          show some (HO.ins _ (((A.put (.a r) pp dx).put (.u r) u 0).dx (.a i)) (fsA ((A.put (.a r) pp dx).put (.u r) u 0) i R)) = some (HO.ins _ (A.dx (.a i)) (fsA A i R))
          have : fsA ((A.put (.a r) pp dx).put (.u r) u 0) i R = fsA A i R := by
            unfold fsA
            rw [(hag (.u i) (by simp) (fun y => n1 (by injection y with y; rw [y]))).1]
          rw [(hag (.a i) n1 n2).2, this]
      | _ => rfl
    · rcases hq with rfl | rfl
      · rw [cont_sa_a hr, ed] at ho
        unfold fsA at ho
        rw [eu, ← ha2] at ho
        rw [ea, ← ho]
        have : (V.int ((askedAt h r).state : Nat)) = I 0 := by rw [hst]
        show H2 pp = some (.ins C.cA dx [("asker", I (askedAt h r).asker), ("kind", I (askedAt h r).kind), ("number", I x), ("amount", I m), ("told", I h.day), ("said", I 0), ("uses", .ref u), ("stage", V.int ((askedAt h r).state : Nat))])
        rw [this]
        exact e2 _ _ hφ
      · rw [cont_sa_u hr, ← ha2] at ho
        rw [eu, ← ho]
        exact e2 _ _ hu1
  exact b_ret x_int (q.new B2 ((hag .b (by simp) (by simp)).1) es)
/-- one more standing yes -/
theorem Bk.grant (B : Bk C H A h F) {x : Grant} {H1 : Hp} {p c dx : Addr} (hl : h.grants.length < 10) (h1 : x.giver < h.n) (h2 : x.taker < h.n) (hx : ∀ p, x.from_ = some p → p < h.grants.length) (e1 : Ex H H1) (hp : H p = none) (hc : H c = none) (hpc : c ≠ p)
    (hcl : H1 c = some (.lst (nums (h.grants.length :: (match x.from_ with | some i => Kp332.chain h i | none => []))))) (hpi : H1 p = some (.ins C.cS dx (fS [I x.kind, I x.giver, I x.taker, I x.each, I x.total, I x.till, .ref c]))) (hb : x.back = false) :
    Bk C (upd H1 (A.at_ .ls) (.lst (refs A h.grants.length .g ++ [.ref p]))) ((A.put (.g h.grants.length) p dx).put (.c h.grants.length) c 0) { h with grants := h.grants ++ [x] } F := by
  have hag : ∀ q, okp h q → ((A.put (.g h.grants.length) p dx).put (.c h.grants.length) c 0).at_ q = A.at_ q ∧ ((A.put (.g h.grants.length) p dx).put (.c h.grants.length) c 0).dx q = A.dx q := fun q hq => by
    have n1 : q ≠ .g h.grants.length := fun z => by rw [z] at hq; exact absurd hq (Nat.lt_irrefl _)
    have n2 : q ≠ .c h.grants.length := fun z => by rw [z] at hq; exact absurd hq (Nat.lt_irrefl _)
    exact ⟨(Ad.put_ne n2).trans (Ad.put_ne n1), (Ad.put_dne n2).trans (Ad.put_dne n1)⟩
  have ea : ((A.put (.g h.grants.length) p dx).put (.c h.grants.length) c 0).at_ (.g h.grants.length) = p := (Ad.put_ne (by simp)).trans Ad.put_same
  have eu : ((A.put (.g h.grants.length) p dx).put (.c h.grants.length) c 0).at_ (.c h.grants.length) = c := Ad.put_same
  have ed : ((A.put (.g h.grants.length) p dx).put (.c h.grants.length) c 0).dx (.g h.grants.length) = dx := (Ad.put_dne (by simp)).trans Ad.put_dx
  refine ⟨B.rep.add e1 (fun q => q = .g h.grants.length ∨ q = .c h.grants.length) (fun q hq _ => (hag q hq).1) (fun q hq => ?_) (fun q hq => ?_) (fun q q' hq hq' e => ?_) (lx := .ls) trivial (fun z => by simp at z) ?_ (fun q hq _ hl => (cont_grant B.wf hx hq hl).trans (cont_agree hag q)) (fun q o hq ho => ?_), B.wf.grant hl h1 h2 hx⟩
  · cases q with
    | g i =>
      have : i < (h.grants ++ [_]).length := hq
      rw [len_snoc] at this
      by_cases z : i = h.grants.length
      · exact Or.inr (Or.inl (by rw [z]))
      · exact Or.inl (show i < h.grants.length by omega)
    | c i =>
      have : i < (h.grants ++ [_]).length := hq
      rw [len_snoc] at this
      by_cases z : i = h.grants.length
      · exact Or.inr (Or.inr (by rw [z]))
      · exact Or.inl (show i < h.grants.length by omega)
    | _ => exact Or.inl hq
  · rcases hq with rfl | rfl
    · rw [ea]
      exact hp
    · rw [eu]
      exact hc
  · rcases hq with rfl | rfl <;> rcases hq' with rfl | rfl
    · rfl
    · rw [ea, eu] at e
      exact absurd e.symm hpc
    · rw [ea, eu] at e
      exact absurd e hpc
    · rfl
  · show some (HO.lst (refs _ (h.grants ++ [_]).length .g)) = _
    rw [len_snoc, refs_succ, ea, refs_congr fun i hi => (hag (.g i) hi).1]
  · rcases hq with rfl | rfl
    · have : cont C ((A.put (.g h.grants.length) p dx).put (.c h.grants.length) c 0) { h with grants := h.grants ++ [x] } (.g h.grants.length) = some (.ins C.cS (((A.put (.g h.grants.length) p dx).put (.c h.grants.length) c 0).dx (.g h.grants.length)) (fsS ((A.put (.g h.grants.length) p dx).put (.c h.grants.length) c 0) h.grants.length x)) := by
        show (h.grants ++ [_])[h.grants.length]?.map _ = _
        rw [List.getElem?_append_right (Nat.le_refl _), Nat.sub_self]
        rfl
      rw [this, ed] at ho
      unfold fsS at ho
      rw [eu, hb] at ho
      rw [ea, ← ho]
      exact hpi
    · have : cont C ((A.put (.g h.grants.length) p dx).put (.c h.grants.length) c 0) { h with grants := h.grants ++ [x] } (.c h.grants.length) = some (.lst (nums (h.grants.length :: (match x.from_ with | some i => Kp332.chain h i | none => [])))) := by
        show (h.grants ++ [_])[h.grants.length]?.map (fun _ => HO.lst (nums (Kp332.chain { h with grants := h.grants ++ [x] } h.grants.length))) = _
        rw [List.getElem?_append_right (Nat.le_refl _), Nat.sub_self, chain_new B.wf.down hx]
        rfl
      rw [this] at ho
      rw [eu, ← ho]
      exact hcl
theorem b_grant (w : W X N_grant (defScope s_grant) j C H A h F) (c1 : Callee X "has" j sp_has) {jm : Nat} (M : MkOk X "Standing" C.cS jm (sp_iS C.cS)) (hj : jm + 1 ≤ j) {p t k e to u : Nat} (q : RC C D A h F (.grant p t k e to u)) :
    BS X (defBody s_grant) D [some (.ref (A.at_ .b)), some (I p), some (I t), some (I k), some (I e), some (I to), some (I u), none] H := by
  have es : Kp332.step (some h) (.grant p t k e to u) = if is h p = false ∨ is h t = false ∨ isK h k = false then (some h, say (-2)) else if MOST < e ∨ MOST < to ∨ u < h.day then (some h, say (-22)) else if p = t then (some h, say (-12)) else if (ruleAt h k).may.testBit p = false then (some h, say (-13)) else if GRANTS ≤ h.grants.length then (some h, say (-28)) else (some { h with grants := h.grants ++ [⟨k, p, t, e, to, u, none, false⟩] }, say (h.grants.length : Nat)) := rfl
  refine b_when (w_or (t_ge (w.s 1) (w.bP (w.s 0))) fun _ => w_or (t_ge (w.s 2) (w.bP (w.s 0))) fun _ => w_or1 (t_ge (w.s 3) (w.nR (w.bR (w.s 0))))).t (fun h1 => b_ret (x_neg (w.x.g w.t.NO_SUCH)) (q.same w.b (by rw [es, if_pos (by simp [is, isK]; omega)]))) fun h1 => ?_
  rw [if_neg (by simp [is, isK]; omega)] at es
  have hk : k < h.rules.length := by omega
  refine b_when (w_or (t_gt (w.s 4) (w.x.g w.t.MOST_AMOUNT)) fun _ => w_or (t_gt (w.s 5) (w.x.g w.t.MOST_AMOUNT)) fun _ => w_or1 (t_lt (w.s 6) (w.bD (w.s 0)))).t (fun h2 => b_ret (x_neg (w.x.g w.t.WRONG_VALUE)) (q.same w.b (by rw [es, if_pos (by unfold MOST; omega)]))) fun h2 => ?_
  rw [if_neg (by unfold MOST; omega)] at es
  refine b_when (t_eq (w.s 1) (w.s 2)) (fun h3 => b_ret (x_neg (w.x.g w.t.WRONG_PERSON)) (q.same w.b (by rw [es, if_pos (by omega)]))) fun h3 => ?_
  rw [if_neg (by omega)] at es
  refine b_when (t_not (EB.of (w.x.call c1 (a_cons (w.rM (w.iR (w.bR (w.s 0)) (w.s 3))) (a_cons (w.s 1) a_nil)) fun _ _ => ⟨_, _, rfl, rfl⟩)).t) (fun h4 => b_ret (x_neg (w.x.g w.t.NOT_ALLOWED)) (q.same w.b (by rw [es, if_pos (by simpa using h4)]))) fun h4 => ?_
  rw [if_neg (by simpa using h4)] at es
  refine b_asg w.x 7 (w.nS (w.bS (w.s 0))) (b_when (t_ge (w.s 7) (w.x.g w.t.MOST_STANDING)) (fun h5 => b_ret (x_neg (w.x.g w.t.NO_MORE)) (q.same w.b (by rw [es, if_pos (by unfold GRANTS; omega)]))) fun h5 => ?_)
  rw [if_neg (by unfold GRANTS; omega)] at es
  refine b_appN (w.bS (w.s 0)) w.qS (w.x.makeN M hj (an_cons (w.s 3) (an_cons (w.s 1) (an_cons (w.s 2) (an_cons (w.s 4) (an_cons (w.s 5) (an_cons (w.s 6) (an_last (l_lst (a_cons (w.s 7) a_nil) (by decide : 1 ≤ 100000))))))))) rfl) (by rw [refs_len]; omega) fun pp H0 H1 e0 e1 hp hφ => ?_
  obtain ⟨H0', dx, c, e0', hc, hc2, hp', hdx, hne, hφ, e2⟩ := hφ
  have B2 := w.b.grant (x := ⟨k, p, t, e, to, u, none, false⟩) (by omega) (show p < h.n by omega) (show t < h.n by omega) (fun _ z => nomatch z) (e0.trans e1) (fresh_back e0 hp) (fresh_back e0 hc) (ne_of_none hc2 hp') (e2 _ _ hc2) hφ rfl
  exact b_ret ((w.at_ B2).s 7) (q.new B2 ((Ad.put_ne (by simp)).trans (Ad.put_ne (by simp))) es)
theorem b_hand (w : W X N_hand (defScope s_hand) j C H A h F) (c1 : Callee X "is_living" j (sp_is_living C)) {jm : Nat} (M : MkOk X "Standing" C.cS jm (sp_iS C.cS)) (hj : jm + 1 ≤ j) {g t e to u : Nat} (q : RC C D A h F (.hand g t e to u)) :
    BS X (defBody s_hand) D [some (.ref (A.at_ .b)), some (I g), some (I t), some (I e), some (I to), some (I u), none, none] H := by
  have es : Kp332.step (some h) (.hand g t e to u) = if isG h g = false ∨ is h t = false then (some h, say (-2)) else if t = (grantAt h g).taker then (some h, say (-12)) else if living h g = false then (some h, say (-14)) else if (grantAt h g).each < e ∨ (grantAt h g).total < to ∨ (grantAt h g).till < u then (some h, say (-15)) else if GRANTS ≤ h.grants.length then (some h, say (-28)) else (some { h with grants := h.grants ++ [⟨(grantAt h g).kind, (grantAt h g).taker, t, e, to, u, some g, false⟩] }, say (h.grants.length : Nat)) := rfl
  refine b_when (w_or (t_ge (w.s 1) (w.nS (w.bS (w.s 0)))) fun _ => w_or1 (t_ge (w.s 2) (w.bP (w.s 0)))).t (fun h1 => b_ret (x_neg (w.x.g w.t.NO_SUCH)) (q.same w.b (by rw [es, if_pos (by simp [is, isG]; omega)]))) fun h1 => ?_
  rw [if_neg (by simp [is, isG]; omega)] at es
  have hg : g < h.grants.length := by omega
  refine b_asg w.x 6 (w.iS (w.bS (w.s 0)) (w.s 1)) (b_when (t_eq (w.s 2) (w.sH (w.s 6))) (fun h3 => b_ret (x_neg (w.x.g w.t.WRONG_PERSON)) (q.same w.b (by rw [es, if_pos (by omega)]))) fun h3 => ?_)
  rw [if_neg (by omega)] at es
  refine b_when (t_not (EB.of (w.call c1 (a_cons (w.s 0) (a_cons (w.s 1) a_nil)) ⟨g, hg, rfl, rfl⟩)).t) (fun h4 => b_ret (x_neg (w.x.g w.t.NOT_HOLDING)) (q.same w.b (by rw [es, if_pos (by simpa using h4)]))) fun h4 => ?_
  rw [if_neg (by simpa using h4)] at es
  refine b_when (w_or (t_gt (w.s 3) (w.sE (w.s 6))) fun _ => w_or (t_gt (w.s 4) (w.sT (w.s 6))) fun _ => w_or1 (t_gt (w.s 5) (w.sL (w.s 6)))).t (fun h5 => b_ret (x_neg (w.x.g w.t.MORE_THAN_IT_HAS)) (q.same w.b (by rw [es, if_pos (by omega)]))) fun h5 => ?_
  rw [if_neg (by omega)] at es
  refine b_asg w.x 7 (w.nS (w.bS (w.s 0))) (b_when (t_ge (w.s 7) (w.x.g w.t.MOST_STANDING)) (fun h5 => b_ret (x_neg (w.x.g w.t.NO_MORE)) (q.same w.b (by rw [es, if_pos (by unfold GRANTS; omega)]))) fun h5 => ?_)
  rw [if_neg (by unfold GRANTS; omega)] at es
  refine b_appN (w.bS (w.s 0)) w.qS (w.x.makeN M hj (an_cons (w.sK (w.s 6)) (an_cons (w.sH (w.s 6)) (an_cons (w.s 2) (an_cons (w.s 3) (an_cons (w.s 4) (an_cons (w.s 5) (an_last (l_cat (l_lst (a_cons (w.s 7) a_nil) (by decide : 1 ≤ 100000)) (w.sC (w.s 6)) (w.qC hg) (by rw [nums_len]; have := w.b.wf.chain_len hg; show 1 + _ ≤ _; omega))))))))) rfl) (by rw [refs_len]; omega) fun pp H0 H1 e0 e1 hp hφ => ?_
  obtain ⟨H0', dx, c, e0', hc, hc2, hp', hdx, hne, hφ, e2⟩ := hφ
  have B2 := w.b.grant (x := ⟨(grantAt h g).kind, (grantAt h g).taker, t, e, to, u, some g, false⟩) (by omega) (w.b.wf.taker g hg) (show t < h.n by omega) (fun _ z => by cases z; exact hg) (e0.trans e1) (fresh_back e0 hp) (fresh_back e0 hc) (ne_of_none hc2 hp') (e2 _ _ hc2) hφ rfl
  exact b_ret ((w.at_ B2).s 7) (q.new B2 ((Ad.put_ne (by simp)).trans (Ad.put_ne (by simp))) es)
theorem whyNot_neg {h : House} {r s : Nat} {v : Int} (e : whyNot h r s = some v) : v < 0 := by
  have ew : whyNot h r s = (if h.asked.length ≤ r then some (-2) else if (askedAt h r).state ≠ 0 then some (-6) else if old h (askedAt h r) = true then some (-8) else if ((askedAt h r).uses.all fun g => Kp332.holds h (askedAt h r) g) = false then some (-14) else if size h.n (Kp332.counts h (askedAt h r) s) < need h (askedAt h r) then some (-13) else if left h (askedAt h r).kind < (askedAt h r).amount then some (-28) else none) := rfl
  rw [ew] at e
  repeat' split at e
  all_goals first | (cases e; decide) | cases e
theorem whyNot_none {h : House} {r s : Nat} (e : whyNot h r s = none) : r < h.asked.length ∧ (askedAt h r).state = 0 ∧ ∀ g ∈ (askedAt h r).uses, Kp332.holds h (askedAt h r) g = true := by
  have ew : whyNot h r s = (if h.asked.length ≤ r then some (-2) else if (askedAt h r).state ≠ 0 then some (-6) else if old h (askedAt h r) = true then some (-8) else if ((askedAt h r).uses.all fun g => Kp332.holds h (askedAt h r) g) = false then some (-14) else if size h.n (Kp332.counts h (askedAt h r) s) < need h (askedAt h r) then some (-13) else if left h (askedAt h r).kind < (askedAt h r).amount then some (-28) else none) := rfl
  rw [ew] at e
  by_cases h1 : h.asked.length ≤ r
  · rw [if_pos h1] at e; cases e
  rw [if_neg h1] at e
  by_cases h2 : (askedAt h r).state ≠ 0
  · rw [if_pos h2] at e; cases e
  rw [if_neg h2] at e
  by_cases h3 : old h (askedAt h r) = true
  · rw [if_pos h3] at e; cases e
  rw [if_neg h3] at e
  by_cases h4 : ((askedAt h r).uses.all fun g => Kp332.holds h (askedAt h r) g) = false
  · rw [if_pos h4] at e; cases e
  exact ⟨by omega, by omega, List.all_eq_true.mp (by simpa using h4)⟩
theorem b_do (w : W X N_do (defScope s_do) j C H A h F) (c1 : Callee X "could" j (sp_q1 C .could)) (c2 : Callee X "who_count" j (sp_who_count C)) {jm : Nat} (M : MkOk X "Deed" C.cD jm (sp_iD C.cD)) (hj : jm + 1 ≤ j) {r : Nat} (q : RC C D A h F (.do_ r)) :
    BS X (defBody s_do) D [some (.ref (A.at_ .b)), some (I r), none, none, none] H := by
  have es : Kp332.step (some h) (.do_ r) = (match whyNot h r 0 with
        | some v => (some h, say v)
        | none => (some { setAsked h r { askedAt h r with state := 1 } with done := h.done ++ [⟨r, h.day, (askedAt h r).kind, (askedAt h r).asker, (askedAt h r).x, (askedAt h r).amount, Kp332.counts h (askedAt h r) 0, (askedAt h r).uses⟩] }, say (h.done.length + 1 : Nat))) := rfl
  have ec : num h (.could r) = (match whyNot h r 0 with | some v => v | none => 0) := why_say _ (some h)
  refine b_asg w.x 2 (w.call c1 (a_cons (w.s 0) (a_cons (w.s 1) a_nil)) ⟨r, rfl, rfl⟩) ?_
  cases ew : whyNot h r 0 with
  | some v =>
    rw [ew] at es ec
    have hv := whyNot_neg ew
    refine b_when (t_lt (w.s 2) x_int) (fun h1 => b_ret (w.s 2) (by rw [ec]; exact q.same w.b es)) fun h1 => absurd (by rw [ec]; exact hv) h1
  | none =>
    rw [ew] at es ec
    have ec : num h (.could r) = 0 := ec
    obtain ⟨hr, hst, hu⟩ := whyNot_none ew
    refine b_when (t_lt (w.s 2) x_int) (fun h1 => by rw [ec] at h1; exact absurd h1 (by decide)) fun h1 => ?_
    refine b_asg w.x 3 (w.iA (w.bA (w.s 0)) (w.s 1)) (b_asg w.x 4 (w.call c2 (a_cons (w.s 0) (a_cons (w.s 3) (a_cons (w.aS (w.s 3)) a_nil))) ⟨r, _, hr, rfl, rfl⟩) ?_)
    rw [saying_self]
    generalize hcn : Kp332.counts h (askedAt h r) 0 = cn at es ⊢
    refine b_fld (w.x.g w.t.DONE) (w.s 3) (w.pA hr) w.t.kA w.t.naG (by decide : 8 < 1000) fun H1 e1 => ?_
    have B1 : Bk C (upd H1 (A.at_ (.a r)) (.ins C.cA (A.dx (.a r)) (putF "stage" (.int 1) (fsA A r (askedAt h r))))) A (setAsked h r { askedAt h r with state := 1 }) F := ⟨w.b.rep.set1 (x := .a r) e1 hr (fun q z => okp_setAsked.mp z) (cont_sa_a hr) (fun q hq => by
      by_cases e : q = .u r
      · subst e
        rw [cont_sa_u hr, cont_u hr]
      · exact cont_setAsked hq e), w.b.wf.setAsked hr (by omega) (w.b.wf.akind r hr) (w.b.wf.aasker r hr) (w.b.wf.ayes r hr) (w.b.wf.ause r hr) (w.b.wf.ausel r hr)⟩
    have hdl := B1.wf.dl
    generalize hH1 : upd H1 (A.at_ (.a r)) (.ins C.cA (A.dx (.a r)) (putF "stage" (.int 1) (fsA A r (askedAt h r)))) = G1 at B1 ⊢
    have hg1 : ∃ h1, h1 = setAsked h r { askedAt h r with state := 1 } := ⟨_, rfl⟩
    obtain ⟨h1, hh1⟩ := hg1
    have w1 : W X N_do (defScope s_do) j C G1 A h1 F := by rw [hh1]; exact w.at_ B1
    have hd1 : h1.done = h.done := by rw [hh1]; rfl
    have hday : h1.day = h.day := by rw [hh1]; rfl
    rw [← hh1] at hdl
    refine b_appN (w1.bE (w1.s 0)) w1.qE (w1.x.make M hj (a_cons (w1.s 1) (a_cons (w1.bD (w1.s 0)) (a_cons (w1.s 4) a_nil))) rfl) (by rw [refs_len]; omega) fun p H0 H2 e0 e2 hp hφ => ?_
    obtain ⟨H0', dx, e0', hp', hdx, hne, hφ⟩ := hφ
    have hag : ∀ q, okp h1 q → (A.put (.d h1.done.length) p dx).at_ q = A.at_ q ∧ (A.put (.d h1.done.length) p dx).dx q = A.dx q := fun q hq => by
      have : q ≠ .d h1.done.length := fun z => by rw [z] at hq; exact absurd hq (Nat.lt_irrefl _)
      exact ⟨Ad.put_ne this, Ad.put_dne this⟩
    have hr1 : r < h1.asked.length := by
      rw [hh1]
      show r < (h.asked.set r _).length
      rw [List.length_set]
      exact hr
    have ha1 : askedAt h1 r = { askedAt h r with state := 1 } := by rw [hh1, askedAt_set hr, if_pos rfl]
    have hc1 : ∀ i, Kp332.chain h1 i = Kp332.chain h i := fun i => by rw [hh1]; exact chain_asked i
    have hgr : h1.grants = h.grants := by rw [hh1]; rfl
    have B2 : Bk C (upd H2 (A.at_ .ld) (.lst (refs A h1.done.length .d ++ [.ref p]))) (A.put (.d h1.done.length) p dx) { h1 with done := h1.done ++ [⟨r, h.day, (askedAt h r).kind, (askedAt h r).asker, (askedAt h r).x, (askedAt h r).amount, cn, (askedAt h r).uses⟩] } F := by
      refine ⟨w1.b.rep.add (e0.trans e2) (fun q => q = .d h1.done.length) (fun q hq _ => (hag q hq).1) (fun q hq => ?_) (fun q hq => ?_) (fun q q' hq hq' _ => hq.trans hq'.symm) (lx := .ld) trivial (fun z => nomatch z) ?_ (fun q hq _ hl => (cont_deed hq hl).trans (cont_agree hag q)) (fun q o hq ho => ?_), w1.b.wf.deedDone (d := ⟨r, h.day, (askedAt h r).kind, (askedAt h r).asker, (askedAt h r).x, (askedAt h r).amount, cn, (askedAt h r).uses⟩) hr1 ?_ ?_ ?_⟩
      · cases q with
        | d i =>
          have : i < (h1.done ++ [_]).length := hq
          rw [len_snoc] at this
          by_cases z : i = h1.done.length
          · exact Or.inr (by rw [z])
          · exact Or.inl (show i < h1.done.length by omega)
        | _ => exact Or.inl hq
      · rw [hq, Ad.put_same]
        exact fresh_back e0 hp
      · show some (HO.lst (refs _ (h1.done ++ [_]).length .d)) = _
        rw [len_snoc, refs_succ, Ad.put_same, refs_congr fun k hk => (hag (.d k) hk).1]
      · subst hq
        have : cont C (A.put (.d h1.done.length) p dx) { h1 with done := h1.done ++ [⟨r, h.day, (askedAt h r).kind, (askedAt h r).asker, (askedAt h r).x, (askedAt h r).amount, cn, (askedAt h r).uses⟩] } (.d h1.done.length) = some (.ins C.cD ((A.put (.d h1.done.length) p dx).dx (.d h1.done.length)) (fsD (A.put (.d h1.done.length) p dx) h1.done.length ⟨r, h.day, (askedAt h r).kind, (askedAt h r).asker, (askedAt h r).x, (askedAt h r).amount, cn, (askedAt h r).uses⟩)) := by
          show (h1.done ++ [_])[h1.done.length]?.map _ = _
          rw [List.getElem?_append_right (Nat.le_refl _), Nat.sub_self]
          rfl
        rw [this, Ad.put_dx] at ho
        rw [Ad.put_same, ← ho]
        rw [hday] at hφ
        exact hφ
      · show (askedAt h1 r).kind = _ ∧ (askedAt h1 r).asker = _ ∧ (askedAt h1 r).x = _ ∧ (askedAt h1 r).amount = _ ∧ (askedAt h1 r).uses = _ ∧ (askedAt h1 r).state = 1
        rw [ha1]
        exact ⟨rfl, rfl, rfl, rfl, rfl, rfl⟩
      · rw [hd1]
        intro z
        obtain ⟨d, hd, e⟩ := List.mem_map.mp z
        have := (w.b.wf.done d hd).2.2.2.2.2.2
        have e : d.asked = r := e
        rw [e] at this
        omega
      · intro i hi g hgi
        have hi : i ∈ (askedAt h r).uses := hi
        rw [hc1] at hgi
        have := holds_room w.b.wf (w.b.wf.ause r hr i hi) (hu i hi) hgi
        have e3 : drawn h1 g = drawn h g := drawn_same hc1 hd1 g
        have e4 : grantAt h1 g = grantAt h g := by rw [hh1]; rfl
        rw [e3, e4]
        exact this
    have w2 := w1.at_ B2
    have ehh : ({ setAsked h r { askedAt h r with state := 1 } with done := h.done ++ [⟨r, h.day, (askedAt h r).kind, (askedAt h r).asker, (askedAt h r).x, (askedAt h r).amount, cn, (askedAt h r).uses⟩] } : House) = { h1 with done := h1.done ++ [⟨r, h.day, (askedAt h r).kind, (askedAt h r).asker, (askedAt h r).x, (askedAt h r).amount, cn, (askedAt h r).uses⟩] } := by
      rw [hd1, hh1]
    refine b_ret (x_is (w2.nE (w2.bE (w2.s 0))) ?_) (q.new B2 (Ad.put_ne (by simp)) (es.trans (by rw [ehh])))
    show V.int (((h1.done ++ [_]).length : Nat) : Int) = _
    rw [len_snoc, hd1]
end
end Jd
namespace Jd
open PySem PySem.Spec PyProof.Rows L2 Evl Kp332

def sp_c1 (C : Cs) (fn : Nat → Kp332.Call) : Sp := spC C fun A l k => ∃ a : Nat, l = [.ref (A.at_ .b), I a] ∧ k = fn a
def sp_c2 (C : Cs) (fn : Nat → Nat → Kp332.Call) : Sp := spC C fun A l k => ∃ a b : Nat, l = [.ref (A.at_ .b), I a, I b] ∧ k = fn a b
def sp_c3 (C : Cs) (fn : Nat → Nat → Nat → Kp332.Call) : Sp := spC C fun A l k => ∃ a b c : Nat, l = [.ref (A.at_ .b), I a, I b, I c] ∧ k = fn a b c
def sp_c4 (C : Cs) (fn : Nat → Nat → Nat → Nat → Kp332.Call) : Sp := spC C fun A l k => ∃ a b c d : Nat, l = [.ref (A.at_ .b), I a, I b, I c, I d] ∧ k = fn a b c d
def sp_c5 (C : Cs) (fn : Nat → Nat → Nat → Nat → Nat → Kp332.Call) : Sp := spC C fun A l k => ∃ a b c d e : Nat, l = [.ref (A.at_ .b), I a, I b, I c, I d, I e] ∧ k = fn a b c d e
def sp_c6 (C : Cs) (fn : Nat → Nat → Nat → Nat → Nat → Nat → Kp332.Call) : Sp := spC C fun A l k => ∃ a b c d e f : Nat, l = [.ref (A.at_ .b), I a, I b, I c, I d, I e, I f] ∧ k = fn a b c d e f
def spD (C : Cs) (P : Nat → Prop) : Sp := fun vs H Q _ => ∃ A h F p cn args c, Bk C H A h F ∧ F p = some (.lst (nums args)) ∧ vs = [.ref (A.at_ .b), I cn, .ref p] ∧ P cn ∧ CN cn args c ∧ ∀ H2 A2 h2, Bk C H2 A2 h2 F → A2.at_ .b = A.at_ .b → (Kp332.step (some h) c).1 = some h2 → Q (.int (num h c)) H2
def spDL (C : Cs) (P : Nat → Prop) : Sp := fun vs H Q _ => ∃ A h F p cn args c, Bk C H A h F ∧ F p = some (.lst (nums args)) ∧ vs = [.ref (A.at_ .b), I cn, .ref p] ∧ P cn ∧ CN cn args c ∧ ∀ p2 H2, H p2 = none → Ex H H2 → (Kp332.step (some h) c).1 = some h → H2 p2 = some (.lst (ans h c)) → Q (.ref p2) H2
theorem askG_st {st : State} {h : House} {g : Nat} {f : Grant → Ans} : (askG st h g f).1 = st := by
  unfold askG
  split <;> rfl
theorem ofR_st {st : State} {h : House} {r : Nat} {f : Kp332.Asked → State × Ans} (hf : ∀ a, (f a).1 = st) : (ofR st h r f).1 = st := by
  unfold ofR
  split
  · exact hf _
  · rfl
section
variable {X : Cx} {N : List Str} {sc : Scope} {j : Nat} {C : Cs} {H : Hp} {A : Ad} {h : House} {F : Hp} {σ : L2.St} {e a b c : Expr} {es : List Expr} {pos pos2 p : Pos} {v : V} {xn : Str} {vs xs : List V} {D : Ends} {rest sts : List Stmt} {P : Prop}
theorem b_whenT (h : ET X c σ H P) (hp : P) (q : BS X sts { D with nx := WS X rest D } σ H) : BS X (.If c sts [] pos :: rest) D σ H := b_when h (fun _ => q) fun z => absurd hp z
theorem b_whenF (h : ET X c σ H P) (hp : ¬ P) (q : BS X rest D σ H) : BS X (.If c sts [] pos :: rest) D σ H := b_when h (fun z => absurd z hp) fun _ => q
theorem b_retC {φ : Ad → List V → Kp332.Call → Prop} (w : W X N sc j C H A h F) (f : Callee X xn j (spC C φ)) (ha : EA X (e :: es) σ H vs) (k : Kp332.Call) (hφ : φ A vs k) (q : RC C D A h F k) (hg : GlS sc xn := by rfl) (hdb : (xn == ("__debug__" : Str)) = false := by decide)
    (he : starEach (e :: es) X.env = (false, eval e X.env) :: starEach es X.env := by exact star_cons rfl) (hpl : (backTo pos (starEach es X.env)).any (·.1) = false := by rfl) : BS X (.Return (some (.Call (.Name xn p) (e :: es) [] pos)) pos2 :: rest) D σ H :=
  bs_cons (ps_ret (w.x.pc f wa_pa hg hdb he hpl)) fun H1 e1 => ha H1 e1 _ fun H2 e2 => ⟨A, h, F, k, w.b.mono (e1.trans e2), by rw [List.append_nil]; exact hφ, q⟩
theorem b_retD {Pr : Nat → Prop} {pp : Addr} {cn : Nat} {args : List Nat} {k : Kp332.Call} (w : W X N sc j C H A h F) (f : Callee X xn j (spD C Pr)) (ha : EA X (e :: es) σ H [.ref (A.at_ .b), I cn, .ref pp]) (hF : F pp = some (.lst (nums args))) (hP : Pr cn) (hc : CN cn args k) (q : RC C D A h F k) (hg : GlS sc xn := by rfl) (hdb : (xn == ("__debug__" : Str)) = false := by decide)
    (he : starEach (e :: es) X.env = (false, eval e X.env) :: starEach es X.env := by exact star_cons rfl) (hpl : (backTo pos (starEach es X.env)).any (·.1) = false := by rfl) : BS X (.Return (some (.Call (.Name xn p) (e :: es) [] pos)) pos2 :: rest) D σ H :=
  bs_cons (ps_ret (w.x.pc f wa_pa hg hdb he hpl)) fun H1 e1 => ha H1 e1 _ fun H2 e2 => ⟨A, h, F, pp, cn, args, k, w.b.mono (e1.trans e2), hF, by rw [List.append_nil], hP, hc, q⟩
theorem W.td {i : Nat} {ii : Int} {jj : Nat} {pp : Pos} {q : Addr} {args : List Nat} {a : Nat} (w : W X N sc j C H A h F) (hF : F q = some (.lst (nums args))) (he : EV X e σ H (.ref q)) (hi : ii = (i : Int)) (ha : args[i]? = some a) : EV X (.Subscript e (.Constant (.int ii) jj pp) pos) σ H (I a) :=
  x_ixL he (x_nat x_int hi) (SqL.of (w.b.rep.fr q _ hF).1) (atI_nat (nums_at ha))
theorem RC.qry {k : Kp332.Call} (q : RC C D A h F k) (B : Bk C H A h F) (es : (Kp332.step (some h) k).1 = some h) : RT D (.int (num h k)) H := fun H1 e1 => q H1 A h (B.mono e1) rfl es
end
section
variable {X : Cx} {j : Nat} {C : Cs} {H : Hp} {A : Ad} {h : House} {F : Hp} {D : Ends}
theorem b_answer_on_rules (w : W X N_answer_on_rules (defScope s_answer_on_rules) j C H A h F) (k1 : Callee X "rule" j (sp_c5 C .rule)) (k2 : Callee X "rerule" j (sp_c6 C .rerule)) {p : Addr} {cn : Nat} {args : List Nat} {c : Kp332.Call} (hF : F p = some (.lst (nums args))) (hP : cn = 1 ∨ cn = 2) (hc : CN cn args c) (q : RC C D A h F c) : BS X (defBody s_answer_on_rules) D [some (.ref (A.at_ .b)), some (I cn), some (.ref p)] H := by
  rcases hP with rfl | rfl
  · cases hc with
    | c1 a b c d e => exact b_whenT (t_eq (w.s 1) (w.x.g w.t.RULE)) rfl (b_retC w k1 (a_cons (w.s 0) (a_cons (w.td (i := 0) hF (w.s 2) rfl rfl) (a_cons (w.td (i := 1) hF (w.s 2) rfl rfl) (a_cons (w.td (i := 2) hF (w.s 2) rfl rfl) (a_cons (w.td (i := 3) hF (w.s 2) rfl rfl) (a_cons (w.td (i := 4) hF (w.s 2) rfl rfl) a_nil)))))) _ ⟨a, b, c, d, e, rfl, rfl⟩ q)
  · cases hc with
    | c2 a b c d e f => exact b_whenF (t_eq (w.s 1) (w.x.g w.t.RULE)) (by decide) (b_retC w k2 (a_cons (w.s 0) (a_cons (w.td (i := 0) hF (w.s 2) rfl rfl) (a_cons (w.td (i := 1) hF (w.s 2) rfl rfl) (a_cons (w.td (i := 2) hF (w.s 2) rfl rfl) (a_cons (w.td (i := 3) hF (w.s 2) rfl rfl) (a_cons (w.td (i := 4) hF (w.s 2) rfl rfl) (a_cons (w.td (i := 5) hF (w.s 2) rfl rfl) a_nil))))))) _ ⟨a, b, c, d, e, f, rfl, rfl⟩ q)
theorem b_answer_on_asking (w : W X N_answer_on_asking (defScope s_answer_on_asking) j C H A h F) (k3 : Callee X "ask" j (sp_c4 C .ask)) (k4 : Callee X "change" j (sp_c3 C .change)) (k5 : Callee X "yes" j (sp_c4 C .yes)) (k6 : Callee X "no" j (sp_c2 C .no)) (k7 : Callee X "withdraw" j (sp_c1 C .withdraw)) {p : Addr} {cn : Nat} {args : List Nat} {c : Kp332.Call} (hF : F p = some (.lst (nums args))) (hP : cn = 3 ∨ cn = 4 ∨ cn = 5 ∨ cn = 6 ∨ cn = 7) (hc : CN cn args c) (q : RC C D A h F c) : BS X (defBody s_answer_on_asking) D [some (.ref (A.at_ .b)), some (I cn), some (.ref p)] H := by
  rcases hP with rfl | rfl | rfl | rfl | rfl
  · cases hc with
    | c3 a b c d => exact b_whenT (t_eq (w.s 1) (w.x.g w.t.ASK)) rfl (b_retC w k3 (a_cons (w.s 0) (a_cons (w.td (i := 0) hF (w.s 2) rfl rfl) (a_cons (w.td (i := 1) hF (w.s 2) rfl rfl) (a_cons (w.td (i := 2) hF (w.s 2) rfl rfl) (a_cons (w.td (i := 3) hF (w.s 2) rfl rfl) a_nil))))) _ ⟨a, b, c, d, rfl, rfl⟩ q)
  · cases hc with
    | c4 a b c => exact b_whenF (t_eq (w.s 1) (w.x.g w.t.ASK)) (by decide) (b_whenT (t_eq (w.s 1) (w.x.g w.t.CHANGE)) rfl (b_retC w k4 (a_cons (w.s 0) (a_cons (w.td (i := 0) hF (w.s 2) rfl rfl) (a_cons (w.td (i := 1) hF (w.s 2) rfl rfl) (a_cons (w.td (i := 2) hF (w.s 2) rfl rfl) a_nil)))) _ ⟨a, b, c, rfl, rfl⟩ q))
  · cases hc with
    | c5 a b c d => exact b_whenF (t_eq (w.s 1) (w.x.g w.t.ASK)) (by decide) (b_whenF (t_eq (w.s 1) (w.x.g w.t.CHANGE)) (by decide) (b_whenT (t_eq (w.s 1) (w.x.g w.t.YES)) rfl (b_retC w k5 (a_cons (w.s 0) (a_cons (w.td (i := 0) hF (w.s 2) rfl rfl) (a_cons (w.td (i := 1) hF (w.s 2) rfl rfl) (a_cons (w.td (i := 2) hF (w.s 2) rfl rfl) (a_cons (w.td (i := 3) hF (w.s 2) rfl rfl) a_nil))))) _ ⟨a, b, c, d, rfl, rfl⟩ q)))
  · cases hc with
    | c6 a b => exact b_whenF (t_eq (w.s 1) (w.x.g w.t.ASK)) (by decide) (b_whenF (t_eq (w.s 1) (w.x.g w.t.CHANGE)) (by decide) (b_whenF (t_eq (w.s 1) (w.x.g w.t.YES)) (by decide) (b_whenT (t_eq (w.s 1) (w.x.g w.t.NO)) rfl (b_retC w k6 (a_cons (w.s 0) (a_cons (w.td (i := 0) hF (w.s 2) rfl rfl) (a_cons (w.td (i := 1) hF (w.s 2) rfl rfl) a_nil))) _ ⟨a, b, rfl, rfl⟩ q))))
  · cases hc with
    | c7 a => exact b_whenF (t_eq (w.s 1) (w.x.g w.t.ASK)) (by decide) (b_whenF (t_eq (w.s 1) (w.x.g w.t.CHANGE)) (by decide) (b_whenF (t_eq (w.s 1) (w.x.g w.t.YES)) (by decide) (b_whenF (t_eq (w.s 1) (w.x.g w.t.NO)) (by decide) (b_retC w k7 (a_cons (w.s 0) (a_cons (w.td (i := 0) hF (w.s 2) rfl rfl) a_nil)) _ ⟨a, rfl, rfl⟩ q))))
theorem b_answer_on_standing (w : W X N_answer_on_standing (defScope s_answer_on_standing) j C H A h F) (k8 : Callee X "grant" j (sp_c6 C .grant)) (k9 : Callee X "hand" j (sp_c5 C .hand)) (k10 : Callee X "revoke" j (sp_c1 C .revoke)) (k11 : Callee X "use" j (sp_c2 C .use)) {p : Addr} {cn : Nat} {args : List Nat} {c : Kp332.Call} (hF : F p = some (.lst (nums args))) (hP : cn = 8 ∨ cn = 9 ∨ cn = 10 ∨ cn = 11) (hc : CN cn args c) (q : RC C D A h F c) : BS X (defBody s_answer_on_standing) D [some (.ref (A.at_ .b)), some (I cn), some (.ref p)] H := by
  rcases hP with rfl | rfl | rfl | rfl
  · cases hc with
    | c8 a b c d e f => exact b_whenT (t_eq (w.s 1) (w.x.g w.t.GRANT)) rfl (b_retC w k8 (a_cons (w.s 0) (a_cons (w.td (i := 0) hF (w.s 2) rfl rfl) (a_cons (w.td (i := 1) hF (w.s 2) rfl rfl) (a_cons (w.td (i := 2) hF (w.s 2) rfl rfl) (a_cons (w.td (i := 3) hF (w.s 2) rfl rfl) (a_cons (w.td (i := 4) hF (w.s 2) rfl rfl) (a_cons (w.td (i := 5) hF (w.s 2) rfl rfl) a_nil))))))) _ ⟨a, b, c, d, e, f, rfl, rfl⟩ q)
  · cases hc with
    | c9 a b c d e => exact b_whenF (t_eq (w.s 1) (w.x.g w.t.GRANT)) (by decide) (b_whenT (t_eq (w.s 1) (w.x.g w.t.HAND)) rfl (b_retC w k9 (a_cons (w.s 0) (a_cons (w.td (i := 0) hF (w.s 2) rfl rfl) (a_cons (w.td (i := 1) hF (w.s 2) rfl rfl) (a_cons (w.td (i := 2) hF (w.s 2) rfl rfl) (a_cons (w.td (i := 3) hF (w.s 2) rfl rfl) (a_cons (w.td (i := 4) hF (w.s 2) rfl rfl) a_nil)))))) _ ⟨a, b, c, d, e, rfl, rfl⟩ q))
  · cases hc with
    | c10 a => exact b_whenF (t_eq (w.s 1) (w.x.g w.t.GRANT)) (by decide) (b_whenF (t_eq (w.s 1) (w.x.g w.t.HAND)) (by decide) (b_whenT (t_eq (w.s 1) (w.x.g w.t.REVOKE)) rfl (b_retC w k10 (a_cons (w.s 0) (a_cons (w.td (i := 0) hF (w.s 2) rfl rfl) a_nil)) _ ⟨a, rfl, rfl⟩ q)))
  · cases hc with
    | c11 a b => exact b_whenF (t_eq (w.s 1) (w.x.g w.t.GRANT)) (by decide) (b_whenF (t_eq (w.s 1) (w.x.g w.t.HAND)) (by decide) (b_whenF (t_eq (w.s 1) (w.x.g w.t.REVOKE)) (by decide) (b_retC w k11 (a_cons (w.s 0) (a_cons (w.td (i := 0) hF (w.s 2) rfl rfl) (a_cons (w.td (i := 1) hF (w.s 2) rfl rfl) a_nil))) _ ⟨a, b, rfl, rfl⟩ q)))
theorem b_answer_on_deeds (w : W X N_answer_on_deeds (defScope s_answer_on_deeds) j C H A h F) (k12 : Callee X "do" j (sp_c1 C .do_)) (k13 : Callee X "could" j (sp_q1 C .could)) (k14 : Callee X "lacks" j (sp_q1 C .lacks)) (k15 : Callee X "counts" j (sp_q1 C .counts)) (k16 : Callee X "maysay" j (sp_q1 C .maySay)) (k17 : Callee X "can" j (sp_q1 C .can)) {p : Addr} {cn : Nat} {args : List Nat} {c : Kp332.Call} (hF : F p = some (.lst (nums args))) (hP : cn = 12 ∨ cn = 13 ∨ cn = 14 ∨ cn = 15 ∨ cn = 16 ∨ cn = 17) (hc : CN cn args c) (q : RC C D A h F c) : BS X (defBody s_answer_on_deeds) D [some (.ref (A.at_ .b)), some (I cn), some (.ref p)] H := by
  rcases hP with rfl | rfl | rfl | rfl | rfl | rfl
  · cases hc with
    | c12 a => exact b_whenT (t_eq (w.s 1) (w.x.g w.t.DO)) rfl (b_retC w k12 (a_cons (w.s 0) (a_cons (w.td (i := 0) hF (w.s 2) rfl rfl) a_nil)) _ ⟨a, rfl, rfl⟩ q)
  · cases hc with
    | c13 a => exact b_whenF (t_eq (w.s 1) (w.x.g w.t.DO)) (by decide) (b_whenT (t_eq (w.s 1) (w.x.g w.t.COULD)) rfl (b_ret (w.call k13 (a_cons (w.s 0) (a_cons (w.td (i := 0) hF (w.s 2) rfl rfl) a_nil)) ⟨a, rfl, rfl⟩) (q.qry w.b rfl)))
  · cases hc with
    | c14 a => exact b_whenF (t_eq (w.s 1) (w.x.g w.t.DO)) (by decide) (b_whenF (t_eq (w.s 1) (w.x.g w.t.COULD)) (by decide) (b_whenT (t_eq (w.s 1) (w.x.g w.t.LACKS)) rfl (b_ret (w.call k14 (a_cons (w.s 0) (a_cons (w.td (i := 0) hF (w.s 2) rfl rfl) a_nil)) ⟨a, rfl, rfl⟩) (q.qry w.b (ofR_st fun _ => rfl)))))
  · cases hc with
    | c15 a => exact b_whenF (t_eq (w.s 1) (w.x.g w.t.DO)) (by decide) (b_whenF (t_eq (w.s 1) (w.x.g w.t.COULD)) (by decide) (b_whenF (t_eq (w.s 1) (w.x.g w.t.LACKS)) (by decide) (b_whenT (t_eq (w.s 1) (w.x.g w.t.COUNTS)) rfl (b_ret (w.call k15 (a_cons (w.s 0) (a_cons (w.td (i := 0) hF (w.s 2) rfl rfl) a_nil)) ⟨a, rfl, rfl⟩) (q.qry w.b (ofR_st fun _ => rfl))))))
  · cases hc with
    | c16 a => exact b_whenF (t_eq (w.s 1) (w.x.g w.t.DO)) (by decide) (b_whenF (t_eq (w.s 1) (w.x.g w.t.COULD)) (by decide) (b_whenF (t_eq (w.s 1) (w.x.g w.t.LACKS)) (by decide) (b_whenF (t_eq (w.s 1) (w.x.g w.t.COUNTS)) (by decide) (b_whenT (t_eq (w.s 1) (w.x.g w.t.MAYSAY)) rfl (b_ret (w.call k16 (a_cons (w.s 0) (a_cons (w.td (i := 0) hF (w.s 2) rfl rfl) a_nil)) ⟨a, rfl, rfl⟩) (q.qry w.b (ofR_st fun _ => rfl)))))))
  · cases hc with
    | c17 a => exact b_whenF (t_eq (w.s 1) (w.x.g w.t.DO)) (by decide) (b_whenF (t_eq (w.s 1) (w.x.g w.t.COULD)) (by decide) (b_whenF (t_eq (w.s 1) (w.x.g w.t.LACKS)) (by decide) (b_whenF (t_eq (w.s 1) (w.x.g w.t.COUNTS)) (by decide) (b_whenF (t_eq (w.s 1) (w.x.g w.t.MAYSAY)) (by decide) (b_ret (w.call k17 (a_cons (w.s 0) (a_cons (w.td (i := 0) hF (w.s 2) rfl rfl) a_nil)) ⟨a, rfl, rfl⟩) (q.qry w.b (ofR_st fun _ => rfl)))))))
theorem b_answer_on_chains (w : W X N_answer_on_chains (defScope s_answer_on_chains) j C H A h F) (k19 : Callee X "lives" j (sp_q1 C .lives)) (k20 : Callee X "room" j (sp_q1 C .room)) (k21 : Callee X "root" j (sp_q1 C .root)) (k24 : Callee X "drawn" j (sp_q1 C .drawn)) {p : Addr} {cn : Nat} {args : List Nat} {c : Kp332.Call} (hF : F p = some (.lst (nums args))) (hP : cn = 19 ∨ cn = 20 ∨ cn = 21 ∨ cn = 24) (hc : CN cn args c) (q : RC C D A h F c) : BS X (defBody s_answer_on_chains) D [some (.ref (A.at_ .b)), some (I cn), some (.ref p)] H := by
  rcases hP with rfl | rfl | rfl | rfl
  · cases hc with
    | c19 a => exact b_whenT (t_eq (w.s 1) (w.x.g w.t.LIVES)) rfl (b_ret (w.call k19 (a_cons (w.s 0) (a_cons (w.td (i := 0) hF (w.s 2) rfl rfl) a_nil)) ⟨a, rfl, rfl⟩) (q.qry w.b askG_st))
  · cases hc with
    | c20 a => exact b_whenF (t_eq (w.s 1) (w.x.g w.t.LIVES)) (by decide) (b_whenT (t_eq (w.s 1) (w.x.g w.t.ROOM)) rfl (b_ret (w.call k20 (a_cons (w.s 0) (a_cons (w.td (i := 0) hF (w.s 2) rfl rfl) a_nil)) ⟨a, rfl, rfl⟩) (q.qry w.b askG_st)))
  · cases hc with
    | c21 a => exact b_whenF (t_eq (w.s 1) (w.x.g w.t.LIVES)) (by decide) (b_whenF (t_eq (w.s 1) (w.x.g w.t.ROOM)) (by decide) (b_whenT (t_eq (w.s 1) (w.x.g w.t.ROOT)) rfl (b_ret (w.call k21 (a_cons (w.s 0) (a_cons (w.td (i := 0) hF (w.s 2) rfl rfl) a_nil)) ⟨a, rfl, rfl⟩) (q.qry w.b askG_st))))
  · cases hc with
    | c24 a => exact b_whenF (t_eq (w.s 1) (w.x.g w.t.LIVES)) (by decide) (b_whenF (t_eq (w.s 1) (w.x.g w.t.ROOM)) (by decide) (b_whenF (t_eq (w.s 1) (w.x.g w.t.ROOT)) (by decide) (b_ret (w.call k24 (a_cons (w.s 0) (a_cons (w.td (i := 0) hF (w.s 2) rfl rfl) a_nil)) ⟨a, rfl, rfl⟩) (q.qry w.b askG_st))))
theorem b_answer_on_the_past (w : W X N_answer_on_the_past (defScope s_answer_on_the_past) j C H A h F) (k25 : Callee X "left" j (sp_q1 C .left)) (k27 : Callee X "sum_of" j (sp_q3 C .sum)) (k30 : Callee X "done" j (sp_q0 C .done)) {p : Addr} {cn : Nat} {args : List Nat} {c : Kp332.Call} (hF : F p = some (.lst (nums args))) (hP : cn = 25 ∨ cn = 27 ∨ cn = 30) (hc : CN cn args c) (q : RC C D A h F c) : BS X (defBody s_answer_on_the_past) D [some (.ref (A.at_ .b)), some (I cn), some (.ref p)] H := by
  rcases hP with rfl | rfl | rfl
  · cases hc with
    | c25 a => exact b_whenT (t_eq (w.s 1) (w.x.g w.t.LEFT)) rfl (b_ret (w.call k25 (a_cons (w.s 0) (a_cons (w.td (i := 0) hF (w.s 2) rfl rfl) a_nil)) ⟨a, rfl, rfl⟩) (q.qry w.b rfl))
  · cases hc with
    | c27 a b c => exact b_whenF (t_eq (w.s 1) (w.x.g w.t.LEFT)) (by decide) (b_whenT (t_eq (w.s 1) (w.x.g w.t.SUM_OF)) rfl (b_ret (w.call k27 (a_cons (w.s 0) (a_cons (w.td (i := 0) hF (w.s 2) rfl rfl) (a_cons (w.td (i := 1) hF (w.s 2) rfl rfl) (a_cons (w.td (i := 2) hF (w.s 2) rfl rfl) a_nil)))) ⟨a, b, c, rfl, rfl⟩) (q.qry w.b rfl)))
  · cases hc with
    | c30 => exact b_whenF (t_eq (w.s 1) (w.x.g w.t.LEFT)) (by decide) (b_whenF (t_eq (w.s 1) (w.x.g w.t.SUM_OF)) (by decide) (b_ret (w.call k30 (a_cons (w.s 0) a_nil) ⟨rfl, rfl⟩) (q.qry w.b rfl)))
theorem b_several_numbers (w : W X N_several_numbers (defScope s_several_numbers) j C H A h F) (k22 : Callee X "under" j (sp_l1 C .under)) (k23 : Callee X "chain" j (sp_l1 C .chain)) (k29 : Callee X "log" j (sp_l1 C .log)) (k31 : Callee X "askedis" j (sp_l1 C .asked)) (k32 : Callee X "grantis" j (sp_l1 C .grantIs)) (k33 : Callee X "ruleis" j (sp_l1 C .ruleIs)) {p : Addr} {cn : Nat} {args : List Nat} {c : Kp332.Call} (hF : F p = some (.lst (nums args))) (hP : cn = 22 ∨ cn = 23 ∨ cn = 29 ∨ cn = 31 ∨ cn = 32 ∨ cn = 33) (hc : CN cn args c) (q : ∀ p2 H2, H p2 = none → Ex H H2 → (Kp332.step (some h) c).1 = some h → H2 p2 = some (.lst (ans h c)) → D.rt (.ref p2) H2) : BS X (defBody s_several_numbers) D [some (.ref (A.at_ .b)), some (I cn), some (.ref p)] H := by
  rcases hP with rfl | rfl | rfl | rfl | rfl | rfl
  · cases hc with
    | c22 a => exact b_whenT (t_eq (w.s 1) (w.x.g w.t.UNDER)) rfl (b_retL (w.callL k22 (a_cons (w.s 0) (a_cons (w.td (i := 0) hF (w.s 2) rfl rfl) a_nil)) ⟨a, rfl, rfl⟩) fun p2 H2 h1 h2 h3 => q p2 H2 h1 h2 askG_st h3)
  · cases hc with
    | c23 a => exact b_whenF (t_eq (w.s 1) (w.x.g w.t.UNDER)) (by decide) (b_whenT (t_eq (w.s 1) (w.x.g w.t.CHAIN)) rfl (b_retL (w.callL k23 (a_cons (w.s 0) (a_cons (w.td (i := 0) hF (w.s 2) rfl rfl) a_nil)) ⟨a, rfl, rfl⟩) fun p2 H2 h1 h2 h3 => q p2 H2 h1 h2 askG_st h3))
  · cases hc with
    | c29 a => exact b_whenF (t_eq (w.s 1) (w.x.g w.t.UNDER)) (by decide) (b_whenF (t_eq (w.s 1) (w.x.g w.t.CHAIN)) (by decide) (b_whenT (t_eq (w.s 1) (w.x.g w.t.LOG)) rfl (b_retL (w.callL k29 (a_cons (w.s 0) (a_cons (w.td (i := 0) hF (w.s 2) rfl rfl) a_nil)) ⟨a, rfl, rfl⟩) fun p2 H2 h1 h2 h3 => q p2 H2 h1 h2 rfl h3)))
  · cases hc with
    | c31 a => exact b_whenF (t_eq (w.s 1) (w.x.g w.t.UNDER)) (by decide) (b_whenF (t_eq (w.s 1) (w.x.g w.t.CHAIN)) (by decide) (b_whenF (t_eq (w.s 1) (w.x.g w.t.LOG)) (by decide) (b_whenT (t_eq (w.s 1) (w.x.g w.t.ASKED)) rfl (b_retL (w.callL k31 (a_cons (w.s 0) (a_cons (w.td (i := 0) hF (w.s 2) rfl rfl) a_nil)) ⟨a, rfl, rfl⟩) fun p2 H2 h1 h2 h3 => q p2 H2 h1 h2 (ofR_st fun _ => rfl) h3))))
  · cases hc with
    | c32 a => exact b_whenF (t_eq (w.s 1) (w.x.g w.t.UNDER)) (by decide) (b_whenF (t_eq (w.s 1) (w.x.g w.t.CHAIN)) (by decide) (b_whenF (t_eq (w.s 1) (w.x.g w.t.LOG)) (by decide) (b_whenF (t_eq (w.s 1) (w.x.g w.t.ASKED)) (by decide) (b_whenT (t_eq (w.s 1) (w.x.g w.t.GRANTIS)) rfl (b_retL (w.callL k32 (a_cons (w.s 0) (a_cons (w.td (i := 0) hF (w.s 2) rfl rfl) a_nil)) ⟨a, rfl, rfl⟩) fun p2 H2 h1 h2 h3 => q p2 H2 h1 h2 askG_st h3)))))
  · cases hc with
    | c33 a => exact b_whenF (t_eq (w.s 1) (w.x.g w.t.UNDER)) (by decide) (b_whenF (t_eq (w.s 1) (w.x.g w.t.CHAIN)) (by decide) (b_whenF (t_eq (w.s 1) (w.x.g w.t.LOG)) (by decide) (b_whenF (t_eq (w.s 1) (w.x.g w.t.ASKED)) (by decide) (b_whenF (t_eq (w.s 1) (w.x.g w.t.GRANTIS)) (by decide) (b_retL (w.callL k33 (a_cons (w.s 0) (a_cons (w.td (i := 0) hF (w.s 2) rfl rfl) a_nil)) ⟨a, rfl, rfl⟩) fun p2 H2 h1 h2 h3 => q p2 H2 h1 h2 rfl h3)))))
def P_answer_on_rules (cn : Nat) : Prop := cn = 1 ∨ cn = 2
def P_answer_on_asking (cn : Nat) : Prop := cn = 3 ∨ cn = 4 ∨ cn = 5 ∨ cn = 6 ∨ cn = 7
def P_answer_on_standing (cn : Nat) : Prop := cn = 8 ∨ cn = 9 ∨ cn = 10 ∨ cn = 11
def P_answer_on_deeds (cn : Nat) : Prop := cn = 12 ∨ cn = 13 ∨ cn = 14 ∨ cn = 15 ∨ cn = 16 ∨ cn = 17
def P_answer_on_chains (cn : Nat) : Prop := cn = 19 ∨ cn = 20 ∨ cn = 21 ∨ cn = 24
def P_answer_on_the_past (cn : Nat) : Prop := cn = 25 ∨ cn = 27 ∨ cn = 30
def P_one (cn : Nat) : Prop := cn ≠ 0 ∧ cn ≠ 22 ∧ cn ≠ 23 ∧ cn ≠ 29 ∧ cn ≠ 31 ∧ cn ≠ 32 ∧ cn ≠ 33
def P_several (cn : Nat) : Prop := cn = 22 ∨ cn = 23 ∨ cn = 29 ∨ cn = 31 ∨ cn = 32 ∨ cn = 33
theorem b_one_number (w : W X N_one_number (defScope s_one_number) j C H A h F) (g_answer_on_rules : Callee X "answer_on_rules" j (spD C P_answer_on_rules)) (g_answer_on_asking : Callee X "answer_on_asking" j (spD C P_answer_on_asking)) (g_answer_on_standing : Callee X "answer_on_standing" j (spD C P_answer_on_standing)) (g_answer_on_deeds : Callee X "answer_on_deeds" j (spD C P_answer_on_deeds)) (g_answer_on_chains : Callee X "answer_on_chains" j (spD C P_answer_on_chains)) (g_answer_on_the_past : Callee X "answer_on_the_past" j (spD C P_answer_on_the_past)) (k18 : Callee X "tick" j (sp_c1 C .tick)) (k26 : Callee X "most" j (sp_q2 C .most)) (k28 : Callee X "ifyes" j (sp_q2 C .ifYes)) (k34 : Callee X "today" j (sp_q0 C .today)) {p : Addr} {cn : Nat} {args : List Nat} {c : Kp332.Call} (hF : F p = some (.lst (nums args))) (hP : P_one cn) (hc : CN cn args c) (q : RC C D A h F c) : BS X (defBody s_one_number) D [some (.ref (A.at_ .b)), some (I cn), some (.ref p)] H := by
  have hle := hc.le
  unfold P_one at hP
  refine b_when (t_le (w.s 1) (w.x.g w.t.RERULE)) (fun h0 => b_retD w g_answer_on_rules (a_cons (w.s 0) (a_cons (w.s 1) (a_cons (w.s 2) a_nil))) hF (show P_answer_on_rules cn by unfold P_answer_on_rules; omega) hc q) fun h0 => ?_
  refine b_when (t_le (w.s 1) (w.x.g w.t.WITHDRAW)) (fun h1 => b_retD w g_answer_on_asking (a_cons (w.s 0) (a_cons (w.s 1) (a_cons (w.s 2) a_nil))) hF (show P_answer_on_asking cn by unfold P_answer_on_asking; omega) hc q) fun h1 => ?_
  refine b_when (t_le (w.s 1) (w.x.g w.t.USE)) (fun h2 => b_retD w g_answer_on_standing (a_cons (w.s 0) (a_cons (w.s 1) (a_cons (w.s 2) a_nil))) hF (show P_answer_on_standing cn by unfold P_answer_on_standing; omega) hc q) fun h2 => ?_
  refine b_when (t_le (w.s 1) (w.x.g w.t.CAN)) (fun h3 => b_retD w g_answer_on_deeds (a_cons (w.s 0) (a_cons (w.s 1) (a_cons (w.s 2) a_nil))) hF (show P_answer_on_deeds cn by unfold P_answer_on_deeds; omega) hc q) fun h3 => ?_
  refine b_when (t_eq (w.s 1) (w.x.g w.t.TICK)) (fun h4 => (by
    obtain rfl : cn = 18 := by omega
    cases hc with
    | c18 a => exact b_retC w k18 (a_cons (w.s 0) (a_cons (w.td (i := 0) hF (w.s 2) rfl rfl) a_nil)) _ ⟨a, rfl, rfl⟩ q)) fun h4 => ?_
  refine b_when (t_le (w.s 1) (w.x.g w.t.DRAWN)) (fun h5 => b_retD w g_answer_on_chains (a_cons (w.s 0) (a_cons (w.s 1) (a_cons (w.s 2) a_nil))) hF (show P_answer_on_chains cn by unfold P_answer_on_chains; omega) hc q) fun h5 => ?_
  refine b_when (t_eq (w.s 1) (w.x.g w.t.MOST)) (fun h6 => (by
    obtain rfl : cn = 26 := by omega
    cases hc with
    | c26 a b => exact b_ret (w.call k26 (a_cons (w.s 0) (a_cons (w.td (i := 0) hF (w.s 2) rfl rfl) (a_cons (w.td (i := 1) hF (w.s 2) rfl rfl) a_nil))) ⟨a, b, rfl, rfl⟩) (q.qry w.b rfl))) fun h6 => ?_
  refine b_when (t_eq (w.s 1) (w.x.g w.t.IFYES)) (fun h7 => (by
    obtain rfl : cn = 28 := by omega
    cases hc with
    | c28 a b => exact b_ret (w.call k28 (a_cons (w.s 0) (a_cons (w.td (i := 0) hF (w.s 2) rfl rfl) (a_cons (w.td (i := 1) hF (w.s 2) rfl rfl) a_nil))) ⟨a, b, rfl, rfl⟩) (q.qry w.b (ofR_st fun _ => rfl)))) fun h7 => ?_
  refine b_when (t_eq (w.s 1) (w.x.g w.t.TODAY)) (fun h8 => (by
    obtain rfl : cn = 34 := by omega
    cases hc with
    | c34 => exact b_ret (w.call k34 (a_cons (w.s 0) a_nil) ⟨rfl, rfl⟩) (q.qry w.b rfl))) fun h8 => ?_
  exact b_retD w g_answer_on_the_past (a_cons (w.s 0) (a_cons (w.s 1) (a_cons (w.s 2) a_nil))) hF (show P_answer_on_the_past cn by unfold P_answer_on_the_past; omega) hc q
end
end Jd
namespace Jd
open PySem PySem.Spec PyProof.Rows L2 Evl Kp332

def spAns (C : Cs) : Sp := fun vs H Q _ => ∃ A h F p cn args c, Bk C H A h F ∧ F p = some (.lst (nums args)) ∧ vs = [.ref (A.at_ .b), I cn, .ref p] ∧ cn ≠ 0 ∧ CN cn args c ∧
  ∀ H2 A2 h2 p2, Bk C H2 A2 h2 F → A2.at_ .b = A.at_ .b → (Kp332.step (stOf h) c).1 = stOf h2 → H2 p2 = some (.lst ((answ (stOf h) c).map V.int)) → F p2 = none → Q (.ref p2) H2
theorem stOf_some {h : House} (hn : h.n ≠ 0) : stOf h = some h := if_neg hn
theorem stOf_none {h : House} (hn : h.n = 0) : stOf h = none := if_pos hn
theorem Bk.fr_none {C : Cs} {H : Hp} {A : Ad} {h : House} {F : Hp} (B : Bk C H A h F) {p : Addr} (hp : H p = none) : F p = none := by
  cases e : F p with
  | none => rfl
  | some o =>
    rw [(B.rep.fr p o e).1] at hp
    cases hp
theorem Bk.exF {C : Cs} {H : Hp} {A : Ad} {h : House} {F : Hp} (B : Bk C H A h F) : Ex F H := fun p o e => (B.rep.fr p o e).1
/-- a new thing put beside the book -/
theorem Bk.extF {C : Cs} {H H1 : Hp} {A : Ad} {h : House} {F : Hp} {p : Addr} {o : HO} (B : Bk C H A h F) (hp : H p = none) (e : Ex H H1) (h1 : H1 p = some o) : Bk C H1 A h (upd F p o) := by
  refine ⟨⟨fun q o' hq => e _ _ (B.rep.at_ q o' hq), B.rep.inj, fun r o' hr => ?_⟩, B.wf⟩
  by_cases z : r = p
  · subst z
    rw [upd_same] at hr
    rw [← hr]
    refine ⟨h1, fun q hq e2 => ?_⟩
    obtain ⟨x, hx⟩ := B.rep.ex hq
    rw [e2, hp] at hx
    cases hx
  · rw [upd_ne z] at hr
    exact ⟨e _ _ (B.rep.fr r o' hr).1, (B.rep.fr r o' hr).2⟩
/-- a thing beside the book changes -/
theorem Bk.setF {C : Cs} {H H1 : Hp} {A : Ad} {h : House} {F : Hp} {p : Addr} {o o2 : HO} (B : Bk C H A h F) (hp : F p = some o) (e : Ex H H1) : Bk C (upd H1 p o2) A h (upd F p o2) := by
  refine ⟨⟨fun q o' hq => ?_, B.rep.inj, fun r o' hr => ?_⟩, B.wf⟩
  · rw [upd_ne ((B.rep.fr p o hp).2 q (cont_okp hq))]
    exact e _ _ (B.rep.at_ q o' hq)
  · by_cases z : r = p
    · subst z
      rw [upd_same] at hr
      exact ⟨by rw [upd_same]; exact hr, (B.rep.fr r o hp).2⟩
    · rw [upd_ne z] at hr
      exact ⟨by rw [upd_ne z]; exact e _ _ (B.rep.fr r o' hr).1, (B.rep.fr r o' hr).2⟩
section
variable {X : Cx} {N : List Str} {sc : Scope} {j : Nat} {C : Cs} {H : Hp} {A : Ad} {h : House} {F : Hp} {σ : L2.St} {e a b c : Expr} {es : List Expr} {pos pos2 p : Pos} {v : V} {xn yn : Str} {vs xs : List V} {D : Ends} {rest sts : List Stmt} {P : Prop}
theorem b_retLD {Pr : Nat → Prop} {pp : Addr} {cn : Nat} {args : List Nat} {k : Kp332.Call} (w : W X N sc j C H A h F) (f : Callee X xn j (spDL C Pr)) (ha : EA X (e :: es) σ H [.ref (A.at_ .b), I cn, .ref pp]) (hF : F pp = some (.lst (nums args))) (hP : Pr cn) (hc : CN cn args k)
    (q : ∀ p2 H2, H p2 = none → Ex H H2 → (Kp332.step (some h) k).1 = some h → H2 p2 = some (.lst (ans h k)) → D.rt (.ref p2) H2) (hg : GlS sc xn := by rfl) (hdb : (xn == ("__debug__" : Str)) = false := by decide)
    (he : starEach (e :: es) X.env = (false, eval e X.env) :: starEach es X.env := by exact star_cons rfl) (hpl : (backTo pos (starEach es X.env)).any (·.1) = false := by rfl) : BS X (.Return (some (.Call (.Name xn p) (e :: es) [] pos)) pos2 :: rest) D σ H :=
  bs_cons (ps_ret (w.x.pc f wa_pa hg hdb he hpl)) fun H1 e1 => ha H1 e1 _ fun H2 e2 => ⟨A, h, F, pp, cn, args, k, w.b.mono (e1.trans e2), hF, by rw [List.append_nil], hP, hc, fun p2 H3 hp e3 es h3 => q p2 H3 (fresh_back (e1.trans e2) hp) ((e1.trans e2).trans e3) es h3⟩
theorem b_retD1 {Pr : Nat → Prop} {pp : Addr} {cn : Nat} {args : List Nat} {k : Kp332.Call} {pl : Pos} (w : W X N sc j C H A h F) (f : Callee X xn j (spD C Pr)) (ha : EA X (e :: es) σ H [.ref (A.at_ .b), I cn, .ref pp]) (hF : F pp = some (.lst (nums args))) (hP : Pr cn) (hc : CN cn args k)
    (q : ∀ p2 H2 A2 h2, F p2 = none → Bk C H2 A2 h2 F → A2.at_ .b = A.at_ .b → (Kp332.step (some h) k).1 = some h2 → H2 p2 = some (.lst [.int (num h k)]) → D.rt (.ref p2) H2) (hg : GlS sc xn := by rfl) (hdb : (xn == ("__debug__" : Str)) = false := by decide)
    (he : starEach (e :: es) X.env = (false, eval e X.env) :: starEach es X.env := by exact star_cons rfl) (hpl : (backTo pos (starEach es X.env)).any (·.1) = false := by rfl) : BS X (.Return (some (.List [.Call (.Name xn p) (e :: es) [] pos] pl)) pos2 :: rest) D σ H :=
  bs_cons (ps_ret (pe_lst (pa_cons (w.x.pc f wa_pa hg hdb he hpl) pa_nil (star_cons rfl)))) fun H1 e1 => ha H1 e1 _ fun H2 e2 => ⟨A, h, F, pp, cn, args, k, w.b.mono (e1.trans e2), hF, by rw [List.append_nil], hP, hc, fun H3 A2 h2 B2 eb es => ⟨by show 1 ≤ sizeLine; decide, fun p2 hp2 =>
    q p2 _ A2 h2 (B2.fr_none hp2) (B2.mono (Ex.new hp2)) eb es upd_same⟩⟩
theorem b_answer_of (w : W X N_answer_of (defScope s_answer_of) j C H A h F) (g1 : Callee X "several_numbers" j (spDL C P_several)) (g2 : Callee X "one_number" j (spD C P_one)) {p : Addr} {cn : Nat} {args : List Nat} {c : Kp332.Call} (hF : F p = some (.lst (nums args))) (h0 : cn ≠ 0) (hc : CN cn args c)
    (q : ∀ H2 A2 h2 p2, Bk C H2 A2 h2 F → A2.at_ .b = A.at_ .b → (Kp332.step (stOf h) c).1 = stOf h2 → H2 p2 = some (.lst ((answ (stOf h) c).map V.int)) → F p2 = none → D.rt (.ref p2) H2) : BS X (defBody s_answer_of) D [some (.ref (A.at_ .b)), some (I cn), some (.ref p)] H := by
  have hb := hc.nb h0
  refine b_when (t_eq (w.bP (w.s 0)) x_int) (fun h1 => ?_) fun h1 => ?_
  · have hn : h.n = 0 := by omega
    rw [stOf_none hn] at q
    have es := step_none hb
    refine b_retL (l_lst (a_cons (x_neg (w.x.g w.t.NOT_BEGUN)) a_nil) (by decide : 1 ≤ 100000)) fun p2 H2 hp e2 h2 => q H2 A h p2 (w.b.mono e2) rfl (by rw [es, stOf_none hn]) ?_ (w.b.fr_none hp)
    rw [h2]
    unfold answ
    rw [es]
    rfl
  · have hn : h.n ≠ 0 := by omega
    rw [stOf_some hn] at q
    refine b_when (t_inU (ns := [22, 23, 29, 31, 32, 33]) (w.s 1) (u_tup (a_cons (w.x.g w.t.UNDER) (a_cons (w.x.g w.t.CHAIN) (a_cons (w.x.g w.t.LOG) (a_cons (w.x.g w.t.ASKED) (a_cons (w.x.g w.t.GRANTIS) (a_cons (w.x.g w.t.RULEIS) a_nil)))))) (by decide : 6 ≤ 100000))) (fun h2 => ?_) fun h2 => ?_
    · refine b_retLD w g1 (a_cons (w.s 0) (a_cons (w.s 1) (a_cons (w.s 2) a_nil))) hF ?_ hc fun p2 H2 hp e2 es h3 => q H2 A h p2 (w.b.mono e2) rfl (by rw [es, stOf_some hn]) h3 (w.b.fr_none hp)
      simp only [List.mem_cons, List.not_mem_nil, or_false] at h2
      unfold P_several
      omega
    · have hP : P_one cn := by
        simp only [List.mem_cons, List.not_mem_nil, or_false] at h2
        unfold P_one
        omega
      refine b_retD1 w g2 (a_cons (w.s 0) (a_cons (w.s 1) (a_cons (w.s 2) a_nil))) hF hP hc fun p2 H2 A2 h2 hp B2 eb es h3 => q H2 A2 h2 p2 B2 eb ?_ ?_ hp
      · rw [es, stOf_some (by rw [step_n hb es]; exact hn)]
      · rw [h3]
        unfold answ
        rw [nums_nil hc hP]
        rfl
/-- a new book -/
theorem Bk.start {H0 H1 : Hp} {p dx : Addr} {n : Nat} (hn : n ≤ 8) (e1 : Ex F H1) (hp : H0 p = none) (hφ : ∃ l1 l2 l3 l4, made H0 C.cB p dx l1 = none ∧ made H0 C.cB p dx l2 = none ∧ made H0 C.cB p dx l3 = none ∧ made H0 C.cB p dx l4 = none ∧ l1 ≠ l2 ∧ l1 ≠ l3 ∧ l1 ≠ l4 ∧ l2 ≠ l3 ∧ l2 ≠ l4 ∧ l3 ≠ l4 ∧ H1 l1 = some (.lst []) ∧ H1 l2 = some (.lst []) ∧ H1 l3 = some (.lst []) ∧ H1 l4 = some (.lst []) ∧ H1 p = some (.ins C.cB dx (fB l1 l2 l3 l4 [I n]))) (eF : Ex F H0) :
    ∃ A', A'.at_ .b = p ∧ Bk C H1 A' ⟨n, [], [], [], [], 0⟩ F := by
  obtain ⟨l1, l2, l3, l4, m1, m2, m3, m4, n1, n2, n3, n4, n5, n6, k1, k2, k3, k4, kp⟩ := hφ
  obtain ⟨m1, z1⟩ := made_none m1
  obtain ⟨m2, z2⟩ := made_none m2
  obtain ⟨m3, z3⟩ := made_none m3
  obtain ⟨m4, z4⟩ := made_none m4
  refine ⟨⟨fun | .b => p | .lr => l1 | .la => l2 | .ls => l3 | .ld => l4 | _ => p, fun _ => dx⟩, rfl, ⟨fun q o hq => ?_, fun q q' hq hq' e => ?_, fun r o hr => ⟨e1 _ _ hr, fun q hq e => ?_⟩⟩, Wf.start hn⟩
  · cases q with
    | b => cases hq; exact kp
    | lr => cases hq; exact k1
    | la => cases hq; exact k2
    | ls => cases hq; exact k3
    | ld => cases hq; exact k4
    | _ => cases hq
  · cases q <;> cases q' <;> first | rfl | exact absurd hq (Nat.not_lt_zero _) | exact absurd hq' (Nat.not_lt_zero _) | exact absurd e z1 | exact absurd e.symm z1 | exact absurd e z2 | exact absurd e.symm z2 | exact absurd e z3 | exact absurd e.symm z3 | exact absurd e z4 | exact absurd e.symm z4 | exact absurd e n1 | exact absurd e.symm n1 | exact absurd e n2 | exact absurd e.symm n2 | exact absurd e n3 | exact absurd e.symm n3 | exact absurd e n4 | exact absurd e.symm n4 | exact absurd e n5 | exact absurd e.symm n5 | exact absurd e n6 | exact absurd e.symm n6
  · have hr0 := eF _ _ hr
    rw [← e] at hr0
    cases q with
    | b => rw [show H0 p = none from hp] at hr0; cases hr0
    | lr => rw [show H0 l1 = none from m1] at hr0; cases hr0
    | la => rw [show H0 l2 = none from m2] at hr0; cases hr0
    | ls => rw [show H0 l3 = none from m3] at hr0; cases hr0
    | ld => rw [show H0 l4 = none from m4] at hr0; cases hr0
    | _ => exact absurd hq (Nat.not_lt_zero _)
theorem b_asgN {φ : Hp → Addr → Hp → Prop} (x : XC X N sc j) (i : Nat) (h : EN X e σ H φ) (q : ∀ p H0 H1, Ex H H0 → Ex H0 H1 → H0 p = none → φ H0 p H1 → BS X rest D (σ.set i (some (.ref p))) H1) (hi : N[i]? = some xn := by rfl) (hl : sc.names.lookup xn = some .local := by rfl)
    (hs : swapsWith e (some (.Name xn p)) pos.line X.env = pure false := by rfl) : BS X (.Assign [.Name xn p] e pos :: rest) D σ H :=
  bs_cons (ps_set (by rw [x.n]; exact x.nd) (by rw [x.n]; exact hi) (Or.inl (x.loc _ hl)) we_pe hs (Or.inr (x.loc _ hl))) fun H1 e1 => h H1 e1 _ fun p H2 hp e2 hφ => q p H1 H2 e1 e2 hp hφ H2 (Ex.refl H2)
theorem b_asgA {pp : Addr} {cn : Nat} {args : List Nat} {k : Kp332.Call} {p3 : Pos} (w : W X N sc j C H A h F) (i : Nat) (f : Callee X xn j (spAns C)) (ha : EA X (e :: es) σ H [.ref (A.at_ .b), I cn, .ref pp]) (hF : F pp = some (.lst (nums args))) (h0 : cn ≠ 0) (hc : CN cn args k)
    (q : ∀ H2 A2 h2 p2, Bk C H2 A2 h2 F → A2.at_ .b = A.at_ .b → (Kp332.step (stOf h) k).1 = stOf h2 → H2 p2 = some (.lst ((answ (stOf h) k).map V.int)) → F p2 = none → BS X rest D (σ.set i (some (.ref p2))) H2) (hi : N[i]? = some yn := by rfl) (hl : sc.names.lookup yn = some .local := by rfl) (hg : GlS sc xn := by rfl) (hdb : (xn == ("__debug__" : Str)) = false := by decide)
    (he : starEach (e :: es) X.env = (false, eval e X.env) :: starEach es X.env := by exact star_cons rfl) (hpl : (backTo pos (starEach es X.env)).any (·.1) = false := by rfl) (hs : swapsWith (.Call (.Name xn p) (e :: es) [] pos) (some (.Name yn p3)) pos2.line X.env = pure false := by rfl) : BS X (.Assign [.Name yn p3] (.Call (.Name xn p) (e :: es) [] pos) pos2 :: rest) D σ H :=
  bs_cons (ps_set (by rw [w.x.n]; exact w.x.nd) (by rw [w.x.n]; exact hi) (Or.inl (w.x.loc _ hl)) (w.x.pc f wa_pa hg hdb he hpl) hs (Or.inr (w.x.loc _ hl))) fun H1 e1 => ha H1 e1 _ fun H2 e2 => ⟨A, h, F, pp, cn, args, k, w.b.mono (e1.trans e2), hF, by rw [List.append_nil], h0, hc, fun H3 A2 h2 p2 B2 eb es h3 hn => q H3 A2 h2 p2 B2 eb es h3 hn H3 (Ex.refl H3)⟩
theorem l_slice {lo hi : Expr} {p2 : Pos} {q : Addr} {i k : Int} (he : EV X e σ H (.ref q)) (hlo : EV X lo σ H (.int i)) (hhi : EV X hi σ H (.int k)) (hs : SqL X.K H q xs) : EL X (.Subscript e (.Slice (some lo) (some hi) none p2) pos) σ H (cutV xs (some i) (some k)) :=
  el_of (pe_slice sl_list we_pe (po_some we_pe) (po_some we_pe)) (el_sl he (eo_some hlo) (eo_some hhi) hs)
theorem XC.gr {q : Addr} (x : XC X N sc j) (hm : X.mg xn = some (.ref q)) (hg : GlS sc xn := by rfl) (hd : (xn == ("__debug__" : Str)) = false := by decide) : EV X (.Name xn pos) σ H (.ref q) := ev_of (pe_glob (v := .ref q) (x.gl hg) hm rfl hd) ev_c
theorem b_appB {o : Expr} {p2 p3 : Pos} {l : Addr} {xs : List V} (ho : EV X o σ H (.ref l)) (hl : H l = some (.lst xs)) (h : EV X e σ H v) (hz : xs.length < sizeLine) (q : ∀ H1, Ex H H1 → BS X rest D σ (upd H1 l (.lst (xs ++ [v]))))
    (hs : swapsWith (.Call (.Attribute o "append" p2) [e] [] p3) none pos.line X.env = pure false := by rfl) (he : starEach [e] X.env = [(false, eval e X.env)] := by rfl)
    (h3 : PE X (.Call (.Attribute o "append" p2) [e] [] p3) (tBM X.K "list" rAppend (WE X o) (tCons (WE X e) tNil)) := by exact pe_bm PySem.F.plainAttrs_list PySem.F.slot_list_append PySem.F.type_list_append mt_append we_pe (pa_cons we_pe pa_nil)) : BS X (.Expr (.Call (.Attribute o "append" p2) [e] [] p3) pos :: rest) D σ H :=
  bs_cons (ps_expr h3 hs) fun H1 e1 => ho H1 e1 _ fun H2 e2 => ⟨Or.inl ⟨rfl, xs, SqL.of ((e1.trans e2) l _ hl)⟩, h H2 (e1.trans e2) _ fun H3 e3 => ⟨l, xs, v, rfl, rfl, ((e1.trans e2).trans e3) l _ hl, hz, q H3 ((e1.trans e2).trans e3) _ (Ex.refl _)⟩⟩
theorem cut_nums {l : List Int} {at_ n : Nat} {args : List Nat} (ha : (l.drop (at_ + 1)).take n = args.map (fun (n : Nat) => (n : Int))) (hn : n ≤ (l.drop (at_ + 1)).length) : cutV (l.map V.int) (some ((at_ + 1 : Nat) : Int)) (some ((at_ + 1 + n : Nat) : Int)) = nums args := by
  unfold cutV
  rw [HT.sIx_nat, HT.sIx_nat, List.length_map]
  rw [List.length_drop] at hn
  by_cases z : at_ + 1 ≤ l.length
  · rw [Nat.min_eq_left z, Nat.min_eq_left (by omega), Nat.add_sub_cancel_left, ← List.map_drop, ← List.map_take, ha, ← nums_ints]
  · have : l.drop (at_ + 1) = [] := List.drop_eq_nil_of_le (by omega)
    rw [this, List.take_nil] at ha
    have : args = [] := by
      cases args with
      | nil => rfl
      | cons a b => cases ha
    subst this
    rw [List.drop_eq_nil_of_le (by rw [List.length_map]; omega), List.take_nil]
    rfl
end
end Jd
namespace Jd
open PySem PySem.Spec PyProof.Rows L2 Evl Kp332

/-- the loop's body -/
def wbody : List Stmt := match ((defBody s_answers)[3]? : Option Stmt) with
  | some (Stmt.While _ b _ _) => b
  | _ => []
section
variable {X : Cx} {j : Nat} {C : Cs} {H : Hp} {D : Ends}
theorem b_answers (x : XC X N_answers (defScope s_answers) j) (T : TxC X C) {jm : Nat} (MB : MkOk X "Book" C.cB jm (sp_iB C.cB)) (hj : jm + 1 ≤ j) (g1 : Callee X "answer_of" j (spAns C)) {aL : Addr} (hLm : X.mg "LENGTHS" = some (.ref aL)) (hLT : ∀ H, SqT X.K H aL (LEN.map V.int)) {a : Addr} {l : List Int} (hS : SqL X.K H a (l.map V.int)) (hA : PyKp332.answers_asked l = true)
    (q : ∀ p H2, Ex H H2 → H2 p = some (.lst ((PyKp332.answers l).map V.int)) → D.rt (.ref p) H2) : BS X (defBody s_answers) D [some (.ref a), none, none, none, none, none, none, none] H := by
  obtain ⟨cs0, hcs0, hask0, hans, hshort⟩ := asked_parts hA
  refine b_asgN x 1 (x.make MB hj (a_cons x_int a_nil) rfl) fun p0 H0 H1 e0 e1 hp hφ => ?_
  obtain ⟨H0', dx, e0', hp', hdx, hne, hφ⟩ := hφ
  obtain ⟨A0, eA0, B0⟩ := Bk.start (C := C) (n := 0) (F := H) (by decide) (e0.trans e1) hp' hφ (e0.trans e0')
  refine b_asgL x 2 (l_lst a_nil (by decide : 0 ≤ 100000)) fun g H2 hg e2 h2 => ?_
  have B2 := B0.extF hg e2 h2
  have hgH : H g = none := fresh_back (e0.trans e1) hg
  refine b_asg x 3 x_int ?_
  refine b_while x (fun m σ' H' => ∃ (A : Ad) (h : House) (F : Hp) (at_ f : Nat) (cs : List (List (List Int))) (acc : List Int) (o4 o5 o6 o7 : Option V), Bk C H' A h F ∧ Ex H F ∧ F g = some (.lst (acc.map V.int)) ∧ σ' = [some (.ref a), some (.ref (A.at_ .b)), some (.ref g), some (I at_), o4, o5, o6, o7] ∧ m + at_ = l.length ∧
      PyFlat.calls PyKp332.shape f (l.drop at_) = some cs ∧ (∀ c ∈ cs, Kp332Neutral.asked1 c = true) ∧ acc ++ PyFlat.told (PyFlat.played Kp332Neutral.step (stOf h) cs) = PyKp332.answers l) l.length (fun H3 e3 => ⟨A0, _, _, 0, l.length, cs0, [], none, none, none, none, B2.mono e3, Ex.new hgH, upd_same, by rw [eA0]; rfl, by omega, hcs0, hask0, by rw [hans]; rfl⟩) ?_
  rintro m σ' H' ⟨A, h, F, at_, f, cs, acc, o4, o5, o6, o7, B, eF, hFg, rfl, hm, hcs, hask, heq⟩
  have w : W X N_answers (defScope s_answers) j C H' A h F := ⟨x, T, B⟩
  have hS' : SqL X.K H' a (l.map V.int) := ex_l (eF.trans B.exF) hS
  refine ⟨_, t_lt (w.s 3) (x.len T.m_len (w.s 0) hS'), fun hp => ?_, fun hp => ?_⟩
  · rw [List.length_map] at hp
    obtain ⟨p, r, ed, ep, er⟩ := drop_cons (show at_ < l.length by omega)
    rw [ed] at hcs
    obtain ⟨n, cs', f', oc, hn, rfl, hcs'⟩ := calls_cons hcs
    obtain ⟨hp0, hp34, hLEN, hargs⟩ := oc
    obtain ⟨cn, rfl⟩ := Int.eq_ofNat_of_zero_le hp0
    obtain ⟨ns, c, eargs, hCN, hcall⟩ := (hargs (r.take n) (by rw [List.length_take]; omega)).2 (hask _ List.mem_cons_self)
    rw [Int.toNat_natCast] at hCN hLEN
    subst er
    have hn' : at_ + 1 + n ≤ l.length := by rw [List.length_drop] at hn; omega
    rw [played_cons, told_cons, step_of hcall] at heq
    dsimp only at heq
    -- what stands behind the answer
    have fin : ∀ (D' : Ends) (H2 : Hp) (A2 : Ad) (h2 : House) (p2 p6 : Addr) (F2 : Hp), (∀ (H5 : Hp) (F5 : Hp), Bk C H5 A2 h2 F5 → Ex H F5 → F5 g = some (.lst ((acc ++ (((answ (stOf h) c).length : Int) :: answ (stOf h) c)).map V.int)) → D'.nx [some (.ref a), some (.ref (A2.at_ .b)), some (.ref g), some (I (at_ + 1 + n)), some (I cn), some (I (at_ + 1 + n)), some (.ref p6), some (.ref p2)] H5) →
        Bk C H2 A2 h2 F2 → Ex H F2 → F2 g = some (.lst (acc.map V.int)) → H2 p2 = some (.lst ((answ (stOf h) c).map V.int)) → p2 ≠ g → BS X (wbody.drop 5) D' [some (.ref a), some (.ref (A2.at_ .b)), some (.ref g), some (I (at_ + 1 + n)), some (I cn), some (I (at_ + 1 + n)), some (.ref p6), some (.ref p2)] H2 := by
      intro D' H2 A2 h2 p2 p6 F2 hnx B2 eF2 hFg2 hp2 hpg
      have hsz : acc.length + ((answ (stOf h) c).length + 1) ≤ 10000000 := by
        rw [← heq, List.length_append, List.length_append, List.length_cons] at hshort
        omega
      have hsl : 10000000 < sizeLine := by decide
      refine b_appB (x.lv 2) (B2.exF g _ hFg2) (x.len T.m_len (x.lv 7) (SqL.of hp2)) (by rw [List.length_map]; omega) fun H3 e3 => ?_
      have B3 := B2.setF (o2 := .lst (acc.map V.int ++ [V.int ((((answ (stOf h) c).map V.int).length : Nat) : Int)])) hFg2 e3
      refine b_ext (b := p2) (ys := (answ (stOf h) c).map V.int) (x.lv 2) upd_same (x.lv 7) (by rw [upd_ne hpg]; exact e3 _ _ hp2) (by rw [List.length_append, List.length_map, List.length_map]; show acc.length + 1 + _ ≤ _; omega) fun H4 e4 => ?_
      have B4 := B3.setF (o2 := .lst ((acc.map V.int ++ [V.int ((((answ (stOf h) c).map V.int).length : Nat) : Int)]) ++ (answ (stOf h) c).map V.int)) upd_same e4
      refine b_nil fun H5 e5 => hnx H5 _ (B4.mono e5) ?_ ?_
      · exact Ex.mut (Ex.mut eF2 hgH) hgH
      · rw [upd_same, List.map_append, List.map_cons, List.append_assoc, List.length_map]
        rfl
    refine b_asg x 4 (x_ixL (w.s 0) (w.s 3) hS' (atI_nat (v := I cn) (by rw [List.getElem?_map, ep]; rfl))) ?_
    refine b_asg x 5 (x_addN (x_addN (w.s 3) (x_nat (n := 1) x_int rfl)) (x_ixT (x.gr hLm) (w.s 4) (hLT H') (atI_nat (v := I n) (by rw [List.getElem?_map, hLEN]; rfl)))) ?_
    refine b_asgL x 6 (l_slice (w.s 0) (x_addN (w.s 3) (x_nat (n := 1) x_int rfl)) (w.s 5) hS') fun p6 H1 h6 e6 hp6 => ?_
    rw [cut_nums eargs (by rw [List.length_drop]; omega)] at hp6
    have B1 := B.extF h6 e6 hp6
    have eF1 : Ex H (upd F p6 (.lst (nums ns))) := eF.trans (Ex.new (B.fr_none h6))
    have hgp : g ≠ p6 := ne_of_none (B.exF g _ hFg) h6
    have hFg1 : upd F p6 (.lst (nums ns)) g = some (.lst (acc.map V.int)) := by rw [upd_ne hgp]; exact hFg
    have hF6 : upd F p6 (.lst (nums ns)) p6 = some (.lst (nums ns)) := upd_same
    generalize upd F p6 (.lst (nums ns)) = F1 at B1 eF1 hFg1 hF6
    have w1 : W X N_answers (defScope s_answers) j C H1 A h F1 := ⟨x, T, B1⟩
    refine b_asg x 3 (w1.s 5) ?_
    -- the next turn
    have nxt : ∀ (A2 : Ad) (h2 : House) (p2 : Addr), (Kp332.step (stOf h) c).1 = stOf h2 → ∀ (H5 : Hp) (F5 : Hp), Bk C H5 A2 h2 F5 → Ex H F5 → F5 g = some (.lst ((acc ++ (((answ (stOf h) c).length : Int) :: answ (stOf h) c)).map V.int)) →
        ∃ m', m' < m ∧ ∃ (A : Ad) (h : House) (F : Hp) (at_1 f : Nat) (cs : List (List (List Int))) (acc : List Int) (o4 o5 o6 o7 : Option V), Bk C H5 A h F ∧ Ex H F ∧ F g = some (.lst (acc.map V.int)) ∧ [some (V.ref a), some (.ref (A2.at_ .b)), some (.ref g), some (I (at_ + 1 + n)), some (I cn), some (I (at_ + 1 + n)), some (.ref p6), some (.ref p2)] = [some (.ref a), some (.ref (A.at_ .b)), some (.ref g), some (I at_1), o4, o5, o6, o7] ∧ m' + at_1 = l.length ∧
      PyFlat.calls PyKp332.shape f (l.drop at_1) = some cs ∧ (∀ c ∈ cs, Kp332Neutral.asked1 c = true) ∧ acc ++ PyFlat.told (PyFlat.played Kp332Neutral.step (stOf h) cs) = PyKp332.answers l := by
      intro A2 h2 p2 es H5 F5 B5 eF5 hF5
      refine ⟨l.length - (at_ + 1 + n), by omega, A2, h2, F5, at_ + 1 + n, f', cs', _, _, _, _, _, B5, eF5, hF5, rfl, by omega, ?_, fun c hc => hask c (List.mem_cons_of_mem _ hc), ?_⟩
      · rw [List.drop_drop] at hcs'
        exact hcs'
      · rw [List.append_assoc, ← es]
        exact heq
    refine b_if (t_ne (w1.s 4) (x.g T.BEGIN)) (fun h7 => ?_) (fun h7 => ?_)
    · refine b_asgA w1 7 g1 (a_cons (w1.s 1) (a_cons (w1.s 4) (a_cons (w1.s 6) a_nil))) hF6 (by omega) hCN fun H2 A2 h2 p2 B2 eb es h3 hn2 => ?_
      refine b_fall ?_
      rw [← eb]
      exact fin _ H2 A2 h2 p2 p6 F1 (nxt A2 h2 p2 es) B2 eF1 hFg1 h3 (fun z => by rw [z, hFg1] at hn2; cases hn2)
    · obtain rfl : cn = 0 := by omega
      cases hCN with
      | c0 n0 =>
        have es0 : Kp332.step (stOf h) (.begin_ n0) = (if n0 < 1 ∨ PEOPLE < n0 then (stOf h, say (-22)) else (some ⟨n0, [], [], [], [], 0⟩, say 0)) := rfl
        refine b_if (w_or (t_lt (w1.td (i := 0) hF6 (w1.s 6) rfl rfl) x_int) fun _ => w_or1 (t_gt (w1.td (i := 0) hF6 (w1.s 6) rfl rfl) (x.g T.MOST_PEOPLE))).t (fun h8 => ?_) (fun h8 => ?_)
        · have es1 : Kp332.step (stOf h) (.begin_ n0) = (stOf h, say (-22)) := by rw [es0, if_pos (by unfold PEOPLE; omega)]
          refine b_asgL x 7 (l_lst (a_cons (x_neg (x.g T.WRONG_VALUE)) a_nil) (by decide : 1 ≤ 100000)) fun p2 H2 hp2 e7 h9 => b_fall (b_fall (fin _ H2 A h p2 p6 F1 (nxt A h p2 (by rw [es1])) (B1.mono e7) eF1 hFg1 ?_ (fun z => by rw [z, B1.exF g _ hFg1] at hp2; cases hp2)))
          rw [h9]
          unfold answ
          rw [es1]
          rfl
        · have es1 : Kp332.step (stOf h) (.begin_ n0) = (some ⟨n0, [], [], [], [], 0⟩, say 0) := by rw [es0, if_neg (by unfold PEOPLE; omega)]
          refine b_asgN x 1 (x.make MB hj (a_cons (w1.td (i := 0) hF6 (w1.s 6) rfl rfl) a_nil) rfl) fun pb G0 G1 d0 d1 hpb hφ2 => ?_
          obtain ⟨G0', dx2, d0', hpb', hdx2, hne2, hφ2⟩ := hφ2
          obtain ⟨A2, eA2, B5⟩ := Bk.start (C := C) (n := n0) (F := F1) (by omega) ((B1.exF.trans d0).trans d1) hpb' hφ2 ((B1.exF.trans d0).trans d0')
          refine b_asgL x 7 (l_lst (a_cons x_int a_nil) (by decide : 1 ≤ 100000)) fun p2 H2 hp2 e7 h9 => ?_
          refine b_fall (b_fall ?_)
          rw [← eA2]
          exact fin _ H2 A2 ⟨n0, [], [], [], [], 0⟩ p2 p6 F1 (nxt A2 ⟨n0, [], [], [], [], 0⟩ p2 (by rw [es1, stOf_some (show n0 ≠ 0 by omega)])) (B5.mono e7) eF1 hFg1 (by
            rw [h9]
            unfold answ
            rw [es1]
            rfl) (fun z => by rw [z, B5.exF g _ hFg1] at hp2; cases hp2)
  · rw [List.length_map] at hp
    rw [List.drop_eq_nil_of_le (by omega), calls_nil] at hcs
    cases hcs
    refine b_ret (w.s 2) fun H3 e3 => q g H3 ((eF.trans B.exF).trans e3) (e3 _ _ (B.exF g _ ?_))
    rw [hFg, ← heq]
    show _ = some (HO.lst ((acc ++ []).map V.int))
    rw [List.append_nil]
end
end Jd
namespace Jd
open PySem PySem.Spec PyProof.Rows L2 Evl Kp332
/-- a def of the text stands under its name -/
def DefOk (K : PySem.W.Frag) (mg : Str → Option Value) (x : Str) (st : Stmt) : Prop := ∃ f fd, Fun K x x st f fd ∧ mg x = some (.ref f)
theorem def_mk {K : PySem.W.Frag} {h : Heap} {mg : Str → Option Value} (KX : K.In h) (G : h.Ns mainGlobals mg) {x : Str} {st : Stmt} {f : Addr} {od an : Option Addr} {sl : Array (Option Value)} {oc kV dc pm cd ct : Value}
    (a : PySem.W.nsIn K mainGlobals x = some (some (.ref f))) (l : K.lookup f = some ⟨oc, od, .func (PySem.W.fnOf x x (defArgs st) (defBody st) (defScope st) .none kV dc pm an cd ct), sl⟩) (c : PySem.W.codeIn K cd x = true) (k : PySem.W.keepIn K (.ref f) = true) : DefOk K mg x st :=
  ⟨f, _, fun_mk (st := st) l c k, PySem.W.mg_of KX G a⟩
def ClsOk (K : PySem.W.Frag) (mg : Str → Option Value) (x q : Str) (st : Stmt) (fs : List Str) : Prop := ∃ C f fd, mg x = some (.ref C) ∧ Cls K C ∧ Mk K C f ∧ Fun K "__init__" q st f fd ∧ ∀ y ∈ fs, NoAttr K C y
theorem cls_mk {K : PySem.W.Frag} {h : Heap} {mg : Str → Option Value} (KX : K.In h) (G : h.Ns mainGlobals mg) {x q : Str} {st : Stmt} {fs : List Str} {C f : Addr} {od an : Option Addr} {sl : Array (Option Value)} {oc kV dc pm cd ct : Value}
    (aC : PySem.W.nsIn K mainGlobals x = some (some (.ref C))) (a : PySem.W.findIn K (.ref C) "__init__" = some (some (.ref f))) (i : PySem.W.isFn K (.ref f) = true)
    (l : K.lookup f = some ⟨oc, od, .func (PySem.W.fnOf "__init__" q (defArgs st) (defBody st) (defScope st) .none kV dc pm an cd ct), sl⟩) (c : PySem.W.codeIn K cd q = true) (k : PySem.W.keepIn K (.ref f) = true)
    (pg : PySem.W.plainGet K C Str.empty = true) (hd : PySem.W.hasDictIn K C = true) (po : PySem.W.plainOver K C = true) (sa : PySem.W.findIn K (.ref C) "__setattr__" = some (some (.builtin "object.__setattr__"))) (mk : PySem.W.makesIn K C = true) (kc : PySem.W.keepIn K (.ref C) = true)
    (n : ∀ y ∈ fs, PySem.W.findIn K (.ref C) y = some none) : ClsOk K mg x q st fs :=
  ⟨C, f, _, PySem.W.mg_of KX G aC, ⟨pg, hd, po, sa⟩, ⟨mk, a, i, kc⟩, fun_mk (st := st) l c k, n⟩
def ConOk (mg : Str → Option Value) (x : Str) (i : Int) : Prop := ∃ t, mg x = some (.int i t)
theorem con_mk {K : PySem.W.Frag} {h : Heap} {mg : Str → Option Value} (KX : K.In h) (G : h.Ns mainGlobals mg) {x : Str} {i : Int} {t : Tok} (a : PySem.W.nsIn K mainGlobals x = some (some (.int i t))) : ConOk mg x i := ⟨t, PySem.W.mg_of KX G a⟩
theorem non_mk {K : PySem.W.Frag} {h : Heap} {mg : Str → Option Value} (KX : K.In h) (G : h.Ns mainGlobals mg) {x : Str} (a : PySem.W.nsIn K mainGlobals x = some none) : mg x = none := PySem.W.mg_none_of KX G a
def TupOk (K : PySem.W.Frag) (mg : Str → Option Value) (x : Str) (ns : List Int) : Prop := ∃ a, mg x = some (.ref a) ∧ ∃ (o : Obj) (its : Array Value) (n : Nat), K.lookup a = some o ∧ o.cls = .type "tuple" ∧ o.data = .seq its n ∧ its.size ≤ sizeLine ∧ Vals (ns.map V.int) its.toList
theorem tup_mk {K : PySem.W.Frag} {h : Heap} {mg : Str → Option Value} (KX : K.In h) (G : h.Ns mainGlobals mg) {x : Str} {ns : List Int} {a : Addr} {od : Option Addr} {its : Array Value} {n : Nat} {sl : Array (Option Value)} (aL : PySem.W.nsIn K mainGlobals x = some (some (.ref a))) (l : K.lookup a = some ⟨.type "tuple", od, .seq its n, sl⟩)
    (hz : its.size ≤ sizeLine) (hv : Vals (ns.map V.int) its.toList) : TupOk K mg x ns := ⟨a, PySem.W.mg_of KX G aL, _, its, n, l, rfl, rfl, hz, hv⟩
theorem absV_int {u : Value} {i : Int} (h : absV u = some (V.int i)) : RelV (.int i) u := by
  cases u <;> simp [absV] at h
  subst h
  exact ⟨_, rfl⟩
theorem vals_abs : ∀ {us : List Value} {ns : List Int}, us.map absV = ns.map (fun i => some (V.int i)) → Vals (ns.map V.int) us
  | [], [], _ => .nil
  | u :: us, n :: ns, h => by
    rw [List.map_cons, List.map_cons] at h
    injection h with h1 h2
    exact .cons (absV_int h1) (vals_abs h2)
  | [], _ :: _, h => by cases h
  | _ :: _, [], h => by cases h
end Jd
namespace Jd
open PySem PySem.Spec PyProof.Rows L2 Evl Kp332
def CalG (P : Program) (w : World) (K : PySem.W.Frag) (mg : Str → Option Value) (base : Heap) (x : Str) (k : Nat) (sp : Sp) : Prop := ∃ (f : Addr) (fd : FuncData) (ps : List Str), FnOk P w K mg base CX0 k f fd ps sp ∧ mg x = some (.ref f) ∧ PySem.W.keepIn K (.ref f) = true ∧ Binds K fd ps []
def MkG (P : Program) (w : World) (K : PySem.W.Frag) (mg : Str → Option Value) (base : Heap) (x : Str) (C : Addr) (k : Nat) (sp : Sp) : Prop := ∃ (f : Addr) (fd : FuncData) (ps : List Str), Mk K C f ∧ FnOk P w K mg base CX0 k f fd ps sp ∧ mg x = some (.ref C) ∧ Binds K fd ps []
section
variable {P : Program} {w : World} {K : PySem.W.Frag} {mg : Str → Option Value} {base : Heap}
theorem CalG.up {x : Str} {i j : Nat} {sp : Sp} (c : CalG P w K mg base x i sp) (h : i ≤ j := by decide) : CalG P w K mg base x j sp := by
  obtain ⟨f, fd, ps, F, r⟩ := c
  exact ⟨f, fd, ps, F.mono h, r⟩
/-- where X stands -/
structure At (X : Cx) (P : Program) (w : World) (K : PySem.W.Frag) (mg : Str → Option Value) (base : Heap) : Prop where
  p : X.prog = P
  w : X.w = w
  k : X.K = K
  m : X.mg = mg
  b : X.base = base
  f : ∀ y, X.fn y = true
theorem At.c {X : Cx} {x : Str} {k : Nat} {sp : Sp} (a : At X P w K mg base) (c : CalG P w K mg base x k sp) : Callee X x k sp := by
  obtain ⟨rfl, rfl, rfl, rfl, rfl, _⟩ := a
  exact c
theorem At.mk_ {X : Cx} {x : Str} {C : Addr} {k : Nat} {sp : Sp} (a : At X P w K mg base) (c : MkG P w K mg base x C k sp) : MkOk X x C k sp := by
  obtain ⟨rfl, rfl, rfl, rfl, rfl, _⟩ := a
  exact c
theorem At.t {X : Cx} {C : Cs} (a : At X P w K mg base) (T : TxG K mg C) : TxC X C := by
  obtain ⟨rfl, rfl, rfl, rfl, rfl, _⟩ := a
  exact T
theorem fn_mk {x q : Str} {st : Stmt} {f : Addr} {fd : FuncData} {N ps : List Str} {k : Nat} {sp : Sp} (F : Fun K x q st f fd) (S : FnScope N ps (defScope st)) (len : ∀ vs H Q E, sp vs H Q E → vs.length = ps.length)
    (body : ∀ X, At X P w K mg base → XC X N (defScope st) k → ∀ vs H Q E, sp vs H Q E → BS X (defBody st) { nx := fun _ H' => Q .non H', rt := Q } (L2.start N vs) H) : FnOk P w K mg base CX0 (k + 1) f fd ps sp :=
  F.ok S len fun cdv A outer s H vs Q E hr h => ⟨_, ws_ps, body _ ⟨rfl, rfl, rfl, rfl, rfl, fun _ => rfl⟩ (XC.mk' rfl rfl hr rfl S.nd rfl) vs H Q E h H (Ex.refl H)⟩
theorem cal_mk {x : Str} {st : Stmt} {N ps : List Str} {k : Nat} {sp : Sp} (d : DefOk K mg x st) (S : FnScope N ps (defScope st)) (hb : ∀ (kV doc pm : Value) (an : Option Addr) (cdv ct : Value) (us : List Value), us.length = ps.length → bindArgs (PySem.W.fnOf x x (defArgs st) (defBody st) (defScope st) .none kV doc pm an cdv ct) ⟨us, []⟩ = pure (ps.zip us))
    (len : ∀ vs H Q E, sp vs H Q E → vs.length = ps.length) (body : ∀ X, At X P w K mg base → XC X N (defScope st) k → ∀ vs H Q E, sp vs H Q E → BS X (defBody st) { nx := fun _ H' => Q .non H', rt := Q } (L2.start N vs) H) : CalG P w K mg base x (k + 1) sp := by
  obtain ⟨f, fd, F, hm⟩ := d
  exact ⟨f, fd, ps, fn_mk F S len body, hm, F.kp, F.binds hb⟩
theorem r_beneath {C : Cs} (T : TxG K mg C) (d : DefOk K mg "beneath" s_beneath)  : CalG P w K mg base "beneath" 1 (sp_beneath C) := by
  refine cal_mk (k := 0) d f_beneath (fun _ _ _ _ _ _ us hl => match us, hl with | [_, _], _ => rfl) (fun vs H Q E hh => ?_) (fun X tt x vs H Q E hh => ?_)
  · obtain ⟨_, ⟨A, h, F, B, g, hg, rfl, rfl⟩, q⟩ := hh
    rfl
  · obtain ⟨_, ⟨A, h, F, B, g, hg, rfl, rfl⟩, q⟩ := hh
    exact b_beneath ⟨x, tt.t T, B⟩  hg q
theorem r_under {C : Cs} (T : TxG K mg C) (d : DefOk K mg "under" s_under) (c_beneath : CalG P w K mg base "beneath" 1 (sp_beneath C)) : CalG P w K mg base "under" 2 (sp_l1 C .under) := by
  refine cal_mk (k := 1) d f_under (fun _ _ _ _ _ _ us hl => match us, hl with | [_, _], _ => rfl) (fun vs H Q E hh => ?_) (fun X tt x vs H Q E hh => ?_)
  · obtain ⟨_, ⟨A, h, F, B, a, rfl, rfl⟩, q⟩ := hh
    rfl
  · obtain ⟨_, ⟨A, h, F, B, a, rfl, rfl⟩, q⟩ := hh
    exact b_under ⟨x, tt.t T, B⟩ (tt.c c_beneath.up) q
theorem r_chain {C : Cs} (T : TxG K mg C) (d : DefOk K mg "chain" s_chain)  : CalG P w K mg base "chain" 1 (sp_l1 C .chain) := by
  refine cal_mk (k := 0) d f_chain (fun _ _ _ _ _ _ us hl => match us, hl with | [_, _], _ => rfl) (fun vs H Q E hh => ?_) (fun X tt x vs H Q E hh => ?_)
  · obtain ⟨_, ⟨A, h, F, B, a, rfl, rfl⟩, q⟩ := hh
    rfl
  · obtain ⟨_, ⟨A, h, F, B, a, rfl, rfl⟩, q⟩ := hh
    exact b_chain ⟨x, tt.t T, B⟩  q
theorem r_log {C : Cs} (T : TxG K mg C) (d : DefOk K mg "log" s_log)  : CalG P w K mg base "log" 1 (sp_l1 C .log) := by
  refine cal_mk (k := 0) d f_log (fun _ _ _ _ _ _ us hl => match us, hl with | [_, _], _ => rfl) (fun vs H Q E hh => ?_) (fun X tt x vs H Q E hh => ?_)
  · obtain ⟨_, ⟨A, h, F, B, a, rfl, rfl⟩, q⟩ := hh
    rfl
  · obtain ⟨_, ⟨A, h, F, B, a, rfl, rfl⟩, q⟩ := hh
    exact b_log ⟨x, tt.t T, B⟩  q
theorem r_askedis {C : Cs} (T : TxG K mg C) (d : DefOk K mg "askedis" s_askedis)  : CalG P w K mg base "askedis" 1 (sp_l1 C .asked) := by
  refine cal_mk (k := 0) d f_askedis (fun _ _ _ _ _ _ us hl => match us, hl with | [_, _], _ => rfl) (fun vs H Q E hh => ?_) (fun X tt x vs H Q E hh => ?_)
  · obtain ⟨_, ⟨A, h, F, B, a, rfl, rfl⟩, q⟩ := hh
    rfl
  · obtain ⟨_, ⟨A, h, F, B, a, rfl, rfl⟩, q⟩ := hh
    exact b_askedis ⟨x, tt.t T, B⟩  q
theorem r_grantis {C : Cs} (T : TxG K mg C) (d : DefOk K mg "grantis" s_grantis)  : CalG P w K mg base "grantis" 1 (sp_l1 C .grantIs) := by
  refine cal_mk (k := 0) d f_grantis (fun _ _ _ _ _ _ us hl => match us, hl with | [_, _], _ => rfl) (fun vs H Q E hh => ?_) (fun X tt x vs H Q E hh => ?_)
  · obtain ⟨_, ⟨A, h, F, B, a, rfl, rfl⟩, q⟩ := hh
    rfl
  · obtain ⟨_, ⟨A, h, F, B, a, rfl, rfl⟩, q⟩ := hh
    exact b_grantis ⟨x, tt.t T, B⟩  q
theorem r_ruleis {C : Cs} (T : TxG K mg C) (d : DefOk K mg "ruleis" s_ruleis)  : CalG P w K mg base "ruleis" 1 (sp_l1 C .ruleIs) := by
  refine cal_mk (k := 0) d f_ruleis (fun _ _ _ _ _ _ us hl => match us, hl with | [_, _], _ => rfl) (fun vs H Q E hh => ?_) (fun X tt x vs H Q E hh => ?_)
  · obtain ⟨_, ⟨A, h, F, B, a, rfl, rfl⟩, q⟩ := hh
    rfl
  · obtain ⟨_, ⟨A, h, F, B, a, rfl, rfl⟩, q⟩ := hh
    exact b_ruleis ⟨x, tt.t T, B⟩  q
theorem r_several_numbers {C : Cs} (T : TxG K mg C) (d : DefOk K mg "several_numbers" s_several_numbers) (c_under : CalG P w K mg base "under" 2 (sp_l1 C .under)) (c_chain : CalG P w K mg base "chain" 1 (sp_l1 C .chain)) (c_log : CalG P w K mg base "log" 1 (sp_l1 C .log)) (c_askedis : CalG P w K mg base "askedis" 1 (sp_l1 C .asked)) (c_grantis : CalG P w K mg base "grantis" 1 (sp_l1 C .grantIs)) (c_ruleis : CalG P w K mg base "ruleis" 1 (sp_l1 C .ruleIs)) : CalG P w K mg base "several_numbers" 3 (spDL C P_several) := by
  refine cal_mk (k := 2) d f_several_numbers (fun _ _ _ _ _ _ us hl => match us, hl with | [_, _, _], _ => rfl) (fun vs H Q E hh => ?_) (fun X tt x vs H Q E hh => ?_)
  · obtain ⟨A, h, F, p, cn, args, c, B, hF, rfl, hP, hc, q⟩ := hh
    rfl
  · obtain ⟨A, h, F, p, cn, args, c, B, hF, rfl, hP, hc, q⟩ := hh
    exact b_several_numbers ⟨x, tt.t T, B⟩ (tt.c c_under.up) (tt.c c_chain.up) (tt.c c_log.up) (tt.c c_askedis.up) (tt.c c_grantis.up) (tt.c c_ruleis.up) hF hP hc q
theorem r_is_set {C : Cs} (T : TxG K mg C) (d : DefOk K mg "is_set" s_is_set)  : CalG P w K mg base "is_set" 1 sp_is_set := by
  refine cal_mk (k := 0) d f_is_set (fun _ _ _ _ _ _ us hl => match us, hl with | [_, _], _ => rfl) (fun vs H Q E hh => ?_) (fun X tt x vs H Q E hh => ?_)
  · obtain ⟨_, ⟨p, n, hn, rfl, rfl⟩, q⟩ := hh
    rfl
  · obtain ⟨_, ⟨p, n, hn, rfl, rfl⟩, q⟩ := hh
    exact b_is_set x  hn q
theorem r_is_rule {C : Cs} (T : TxG K mg C) (d : DefOk K mg "is_rule" s_is_rule) (c_is_set : CalG P w K mg base "is_set" 1 sp_is_set) : CalG P w K mg base "is_rule" 2 (sp_is_rule C) := by
  refine cal_mk (k := 1) d f_is_rule (fun _ _ _ _ _ _ us hl => match us, hl with | [_, _, _, _, _, _], _ => rfl) (fun vs H Q E hh => ?_) (fun X tt x vs H Q E hh => ?_)
  · obtain ⟨_, ⟨A, h, F, B, a, b, c, d, e, rfl, rfl⟩, q⟩ := hh
    rfl
  · obtain ⟨_, ⟨A, h, F, B, a, b, c, d, e, rfl, rfl⟩, q⟩ := hh
    exact b_is_rule ⟨x, tt.t T, B⟩ (tt.c c_is_set.up)  q
theorem r_rule {C : Cs} (T : TxG K mg C) (d : DefOk K mg "rule" s_rule) (c_is_rule : CalG P w K mg base "is_rule" 2 (sp_is_rule C)) (M : MkG P w K mg base "Rule" C.cR 1 (sp_iR C.cR)) : CalG P w K mg base "rule" 3 (sp_c5 C .rule) := by
  refine cal_mk (k := 2) d f_rule (fun _ _ _ _ _ _ us hl => match us, hl with | [_, _, _, _, _, _], _ => rfl) (fun vs H Q E hh => ?_) (fun X tt x vs H Q E hh => ?_)
  · obtain ⟨A, h, F, c0, B, ⟨a, b, c, d, e, rfl, rfl⟩, q⟩ := hh
    rfl
  · obtain ⟨A, h, F, c0, B, ⟨a, b, c, d, e, rfl, rfl⟩, q⟩ := hh
    exact b_rule ⟨x, tt.t T, B⟩ (tt.c c_is_rule.up) (tt.mk_ M) (by decide) q
theorem r_rerule {C : Cs} (T : TxG K mg C) (d : DefOk K mg "rerule" s_rerule) (c_is_rule : CalG P w K mg base "is_rule" 2 (sp_is_rule C)) (M : MkG P w K mg base "Rule" C.cR 1 (sp_iR C.cR)) : CalG P w K mg base "rerule" 3 (sp_c6 C .rerule) := by
  refine cal_mk (k := 2) d f_rerule (fun _ _ _ _ _ _ us hl => match us, hl with | [_, _, _, _, _, _, _], _ => rfl) (fun vs H Q E hh => ?_) (fun X tt x vs H Q E hh => ?_)
  · obtain ⟨A, h, F, c0, B, ⟨a, b, c, d, e, f, rfl, rfl⟩, q⟩ := hh
    rfl
  · obtain ⟨A, h, F, c0, B, ⟨a, b, c, d, e, f, rfl, rfl⟩, q⟩ := hh
    exact b_rerule ⟨x, tt.t T, B⟩ (tt.c c_is_rule.up) (tt.mk_ M) (by decide) q
theorem r_answer_on_rules {C : Cs} (T : TxG K mg C) (d : DefOk K mg "answer_on_rules" s_answer_on_rules) (c_rule : CalG P w K mg base "rule" 3 (sp_c5 C .rule)) (c_rerule : CalG P w K mg base "rerule" 3 (sp_c6 C .rerule)) : CalG P w K mg base "answer_on_rules" 4 (spD C P_answer_on_rules) := by
  refine cal_mk (k := 3) d f_answer_on_rules (fun _ _ _ _ _ _ us hl => match us, hl with | [_, _, _], _ => rfl) (fun vs H Q E hh => ?_) (fun X tt x vs H Q E hh => ?_)
  · obtain ⟨A, h, F, p, cn, args, c, B, hF, rfl, hP, hc, q⟩ := hh
    rfl
  · obtain ⟨A, h, F, p, cn, args, c, B, hF, rfl, hP, hc, q⟩ := hh
    exact b_answer_on_rules ⟨x, tt.t T, B⟩ (tt.c c_rule.up) (tt.c c_rerule.up) hF hP hc q
theorem r_ask {C : Cs} (T : TxG K mg C) (d : DefOk K mg "ask" s_ask)  (M : MkG P w K mg base "Asked" C.cA 1 (sp_iA C.cA)) : CalG P w K mg base "ask" 3 (sp_c4 C .ask) := by
  refine cal_mk (k := 2) d f_ask (fun _ _ _ _ _ _ us hl => match us, hl with | [_, _, _, _, _], _ => rfl) (fun vs H Q E hh => ?_) (fun X tt x vs H Q E hh => ?_)
  · obtain ⟨A, h, F, c0, B, ⟨a, b, c, d, rfl, rfl⟩, q⟩ := hh
    rfl
  · obtain ⟨A, h, F, c0, B, ⟨a, b, c, d, rfl, rfl⟩, q⟩ := hh
    exact b_ask ⟨x, tt.t T, B⟩  (tt.mk_ M) (by decide) q
theorem r_change {C : Cs} (T : TxG K mg C) (d : DefOk K mg "change" s_change)  (M : MkG P w K mg base "Asked" C.cA 1 (sp_iA C.cA)) : CalG P w K mg base "change" 3 (sp_c3 C .change) := by
  refine cal_mk (k := 2) d f_change (fun _ _ _ _ _ _ us hl => match us, hl with | [_, _, _, _], _ => rfl) (fun vs H Q E hh => ?_) (fun X tt x vs H Q E hh => ?_)
  · obtain ⟨A, h, F, c0, B, ⟨a, b, c, rfl, rfl⟩, q⟩ := hh
    rfl
  · obtain ⟨A, h, F, c0, B, ⟨a, b, c, rfl, rfl⟩, q⟩ := hh
    exact b_change ⟨x, tt.t T, B⟩  (tt.mk_ M) (by decide) q
theorem r_too_old {C : Cs} (T : TxG K mg C) (d : DefOk K mg "too_old" s_too_old)  : CalG P w K mg base "too_old" 1 (sp_too_old C) := by
  refine cal_mk (k := 0) d f_too_old (fun _ _ _ _ _ _ us hl => match us, hl with | [_, _], _ => rfl) (fun vs H Q E hh => ?_) (fun X tt x vs H Q E hh => ?_)
  · obtain ⟨_, ⟨A, h, F, B, r, hr, rfl, rfl⟩, q⟩ := hh
    rfl
  · obtain ⟨_, ⟨A, h, F, B, r, hr, rfl, rfl⟩, q⟩ := hh
    exact b_too_old ⟨x, tt.t T, B⟩  hr q
theorem r_has {C : Cs} (T : TxG K mg C) (d : DefOk K mg "has" s_has)  : CalG P w K mg base "has" 1 sp_has := by
  refine cal_mk (k := 0) d f_has (fun _ _ _ _ _ _ us hl => match us, hl with | [_, _], _ => rfl) (fun vs H Q E hh => ?_) (fun X tt x vs H Q E hh => ?_)
  · obtain ⟨_, ⟨p, n, rfl, rfl⟩, q⟩ := hh
    rfl
  · obtain ⟨_, ⟨p, n, rfl, rfl⟩, q⟩ := hh
    exact b_has x  q
theorem r_refusal_of_yes {C : Cs} (T : TxG K mg C) (d : DefOk K mg "refusal_of_yes" s_refusal_of_yes) (c_too_old : CalG P w K mg base "too_old" 1 (sp_too_old C)) (c_has : CalG P w K mg base "has" 1 sp_has) : CalG P w K mg base "refusal_of_yes" 2 (sp_refusal_of_yes C) := by
  refine cal_mk (k := 1) d f_refusal_of_yes (fun _ _ _ _ _ _ us hl => match us, hl with | [_, _, _, _, _], _ => rfl) (fun vs H Q E hh => ?_) (fun X tt x vs H Q E hh => ?_)
  · obtain ⟨_, ⟨A, h, F, B, r, p, xx, m, hr, rfl, rfl⟩, q⟩ := hh
    rfl
  · obtain ⟨_, ⟨A, h, F, B, r, p, xx, m, hr, rfl, rfl⟩, q⟩ := hh
    exact b_refusal_of_yes ⟨x, tt.t T, B⟩ (tt.c c_too_old.up) (tt.c c_has.up) hr q
theorem r_how_many {C : Cs} (T : TxG K mg C) (d : DefOk K mg "how_many" s_how_many)  : CalG P w K mg base "how_many" 1 sp_how_many := by
  refine cal_mk (k := 0) d f_how_many (fun _ _ _ _ _ _ us hl => match us, hl with | [_], _ => rfl) (fun vs H Q E hh => ?_) (fun X tt x vs H Q E hh => ?_)
  · obtain ⟨_, ⟨s, n, hs, rfl, rfl⟩, q⟩ := hh
    rfl
  · obtain ⟨_, ⟨s, n, hs, rfl, rfl⟩, q⟩ := hh
    exact b_how_many x  hs q
theorem r_yes {C : Cs} (T : TxG K mg C) (d : DefOk K mg "yes" s_yes) (c_refusal_of_yes : CalG P w K mg base "refusal_of_yes" 2 (sp_refusal_of_yes C)) (c_how_many : CalG P w K mg base "how_many" 1 sp_how_many) : CalG P w K mg base "yes" 3 (sp_c4 C .yes) := by
  refine cal_mk (k := 2) d f_yes (fun _ _ _ _ _ _ us hl => match us, hl with | [_, _, _, _, _], _ => rfl) (fun vs H Q E hh => ?_) (fun X tt x vs H Q E hh => ?_)
  · obtain ⟨A, h, F, c0, B, ⟨a, b, c, d, rfl, rfl⟩, q⟩ := hh
    rfl
  · obtain ⟨A, h, F, c0, B, ⟨a, b, c, d, rfl, rfl⟩, q⟩ := hh
    exact b_yes ⟨x, tt.t T, B⟩ (tt.c c_refusal_of_yes.up) (tt.c c_how_many.up) q
theorem r_no {C : Cs} (T : TxG K mg C) (d : DefOk K mg "no" s_no) (c_has : CalG P w K mg base "has" 1 sp_has) : CalG P w K mg base "no" 2 (sp_c2 C .no) := by
  refine cal_mk (k := 1) d f_no (fun _ _ _ _ _ _ us hl => match us, hl with | [_, _, _], _ => rfl) (fun vs H Q E hh => ?_) (fun X tt x vs H Q E hh => ?_)
  · obtain ⟨A, h, F, c0, B, ⟨a, b, rfl, rfl⟩, q⟩ := hh
    rfl
  · obtain ⟨A, h, F, c0, B, ⟨a, b, rfl, rfl⟩, q⟩ := hh
    exact b_no ⟨x, tt.t T, B⟩ (tt.c c_has.up) q
theorem r_withdraw {C : Cs} (T : TxG K mg C) (d : DefOk K mg "withdraw" s_withdraw)  : CalG P w K mg base "withdraw" 1 (sp_c1 C .withdraw) := by
  refine cal_mk (k := 0) d f_withdraw (fun _ _ _ _ _ _ us hl => match us, hl with | [_, _], _ => rfl) (fun vs H Q E hh => ?_) (fun X tt x vs H Q E hh => ?_)
  · obtain ⟨A, h, F, c0, B, ⟨a, rfl, rfl⟩, q⟩ := hh
    rfl
  · obtain ⟨A, h, F, c0, B, ⟨a, rfl, rfl⟩, q⟩ := hh
    exact b_withdraw ⟨x, tt.t T, B⟩  q
theorem r_answer_on_asking {C : Cs} (T : TxG K mg C) (d : DefOk K mg "answer_on_asking" s_answer_on_asking) (c_ask : CalG P w K mg base "ask" 3 (sp_c4 C .ask)) (c_change : CalG P w K mg base "change" 3 (sp_c3 C .change)) (c_yes : CalG P w K mg base "yes" 3 (sp_c4 C .yes)) (c_no : CalG P w K mg base "no" 2 (sp_c2 C .no)) (c_withdraw : CalG P w K mg base "withdraw" 1 (sp_c1 C .withdraw)) : CalG P w K mg base "answer_on_asking" 4 (spD C P_answer_on_asking) := by
  refine cal_mk (k := 3) d f_answer_on_asking (fun _ _ _ _ _ _ us hl => match us, hl with | [_, _, _], _ => rfl) (fun vs H Q E hh => ?_) (fun X tt x vs H Q E hh => ?_)
  · obtain ⟨A, h, F, p, cn, args, c, B, hF, rfl, hP, hc, q⟩ := hh
    rfl
  · obtain ⟨A, h, F, p, cn, args, c, B, hF, rfl, hP, hc, q⟩ := hh
    exact b_answer_on_asking ⟨x, tt.t T, B⟩ (tt.c c_ask.up) (tt.c c_change.up) (tt.c c_yes.up) (tt.c c_no.up) (tt.c c_withdraw.up) hF hP hc q
theorem r_grant {C : Cs} (T : TxG K mg C) (d : DefOk K mg "grant" s_grant) (c_has : CalG P w K mg base "has" 1 sp_has) (M : MkG P w K mg base "Standing" C.cS 1 (sp_iS C.cS)) : CalG P w K mg base "grant" 3 (sp_c6 C .grant) := by
  refine cal_mk (k := 2) d f_grant (fun _ _ _ _ _ _ us hl => match us, hl with | [_, _, _, _, _, _, _], _ => rfl) (fun vs H Q E hh => ?_) (fun X tt x vs H Q E hh => ?_)
  · obtain ⟨A, h, F, c0, B, ⟨a, b, c, d, e, f, rfl, rfl⟩, q⟩ := hh
    rfl
  · obtain ⟨A, h, F, c0, B, ⟨a, b, c, d, e, f, rfl, rfl⟩, q⟩ := hh
    exact b_grant ⟨x, tt.t T, B⟩ (tt.c c_has.up) (tt.mk_ M) (by decide) q
theorem r_is_living {C : Cs} (T : TxG K mg C) (d : DefOk K mg "is_living" s_is_living)  : CalG P w K mg base "is_living" 1 (sp_is_living C) := by
  refine cal_mk (k := 0) d f_is_living (fun _ _ _ _ _ _ us hl => match us, hl with | [_, _], _ => rfl) (fun vs H Q E hh => ?_) (fun X tt x vs H Q E hh => ?_)
  · obtain ⟨_, ⟨A, h, F, B, g, hg, rfl, rfl⟩, q⟩ := hh
    rfl
  · obtain ⟨_, ⟨A, h, F, B, g, hg, rfl, rfl⟩, q⟩ := hh
    exact b_is_living ⟨x, tt.t T, B⟩  hg q
theorem r_hand {C : Cs} (T : TxG K mg C) (d : DefOk K mg "hand" s_hand) (c_is_living : CalG P w K mg base "is_living" 1 (sp_is_living C)) (M : MkG P w K mg base "Standing" C.cS 1 (sp_iS C.cS)) : CalG P w K mg base "hand" 3 (sp_c5 C .hand) := by
  refine cal_mk (k := 2) d f_hand (fun _ _ _ _ _ _ us hl => match us, hl with | [_, _, _, _, _, _], _ => rfl) (fun vs H Q E hh => ?_) (fun X tt x vs H Q E hh => ?_)
  · obtain ⟨A, h, F, c0, B, ⟨a, b, c, d, e, rfl, rfl⟩, q⟩ := hh
    rfl
  · obtain ⟨A, h, F, c0, B, ⟨a, b, c, d, e, rfl, rfl⟩, q⟩ := hh
    exact b_hand ⟨x, tt.t T, B⟩ (tt.c c_is_living.up) (tt.mk_ M) (by decide) q
theorem r_revoke {C : Cs} (T : TxG K mg C) (d : DefOk K mg "revoke" s_revoke) (c_beneath : CalG P w K mg base "beneath" 1 (sp_beneath C)) (c_is_living : CalG P w K mg base "is_living" 1 (sp_is_living C)) : CalG P w K mg base "revoke" 2 (sp_c1 C .revoke) := by
  refine cal_mk (k := 1) d f_revoke (fun _ _ _ _ _ _ us hl => match us, hl with | [_, _], _ => rfl) (fun vs H Q E hh => ?_) (fun X tt x vs H Q E hh => ?_)
  · obtain ⟨A, h, F, c0, B, ⟨a, rfl, rfl⟩, q⟩ := hh
    rfl
  · obtain ⟨A, h, F, c0, B, ⟨a, rfl, rfl⟩, q⟩ := hh
    exact b_revoke ⟨x, tt.t T, B⟩ (tt.c c_beneath.up) (tt.c c_is_living.up) (tt.f _) q
theorem r_use {C : Cs} (T : TxG K mg C) (d : DefOk K mg "use" s_use)  : CalG P w K mg base "use" 1 (sp_c2 C .use) := by
  refine cal_mk (k := 0) d f_use (fun _ _ _ _ _ _ us hl => match us, hl with | [_, _, _], _ => rfl) (fun vs H Q E hh => ?_) (fun X tt x vs H Q E hh => ?_)
  · obtain ⟨A, h, F, c0, B, ⟨a, b, rfl, rfl⟩, q⟩ := hh
    rfl
  · obtain ⟨A, h, F, c0, B, ⟨a, b, rfl, rfl⟩, q⟩ := hh
    exact b_use ⟨x, tt.t T, B⟩  q
theorem r_answer_on_standing {C : Cs} (T : TxG K mg C) (d : DefOk K mg "answer_on_standing" s_answer_on_standing) (c_grant : CalG P w K mg base "grant" 3 (sp_c6 C .grant)) (c_hand : CalG P w K mg base "hand" 3 (sp_c5 C .hand)) (c_revoke : CalG P w K mg base "revoke" 2 (sp_c1 C .revoke)) (c_use : CalG P w K mg base "use" 1 (sp_c2 C .use)) : CalG P w K mg base "answer_on_standing" 4 (spD C P_answer_on_standing) := by
  refine cal_mk (k := 3) d f_answer_on_standing (fun _ _ _ _ _ _ us hl => match us, hl with | [_, _, _], _ => rfl) (fun vs H Q E hh => ?_) (fun X tt x vs H Q E hh => ?_)
  · obtain ⟨A, h, F, p, cn, args, c, B, hF, rfl, hP, hc, q⟩ := hh
    rfl
  · obtain ⟨A, h, F, p, cn, args, c, B, hF, rfl, hP, hc, q⟩ := hh
    exact b_answer_on_standing ⟨x, tt.t T, B⟩ (tt.c c_grant.up) (tt.c c_hand.up) (tt.c c_revoke.up) (tt.c c_use.up) hF hP hc q
theorem r_draws_on {C : Cs} (T : TxG K mg C) (d : DefOk K mg "draws_on" s_draws_on)  : CalG P w K mg base "draws_on" 1 (sp_draws_on C) := by
  refine cal_mk (k := 0) d f_draws_on (fun _ _ _ _ _ _ us hl => match us, hl with | [_, _, _], _ => rfl) (fun vs H Q E hh => ?_) (fun X tt x vs H Q E hh => ?_)
  · obtain ⟨_, ⟨A, h, F, B, r, g, hr, rfl, rfl⟩, q⟩ := hh
    rfl
  · obtain ⟨_, ⟨A, h, F, B, r, g, hr, rfl, rfl⟩, q⟩ := hh
    exact b_draws_on ⟨x, tt.t T, B⟩  hr q
theorem r_drawn_by {C : Cs} (T : TxG K mg C) (d : DefOk K mg "drawn_by" s_drawn_by) (c_draws_on : CalG P w K mg base "draws_on" 1 (sp_draws_on C)) : CalG P w K mg base "drawn_by" 2 (sp_drawn_by C) := by
  refine cal_mk (k := 1) d f_drawn_by (fun _ _ _ _ _ _ us hl => match us, hl with | [_, _], _ => rfl) (fun vs H Q E hh => ?_) (fun X tt x vs H Q E hh => ?_)
  · obtain ⟨_, ⟨A, h, F, B, g, rfl, rfl⟩, q⟩ := hh
    rfl
  · obtain ⟨_, ⟨A, h, F, B, g, rfl, rfl⟩, q⟩ := hh
    exact b_drawn_by ⟨x, tt.t T, B⟩ (tt.c c_draws_on.up)  q
theorem r_room_of {C : Cs} (T : TxG K mg C) (d : DefOk K mg "room_of" s_room_of) (c_is_living : CalG P w K mg base "is_living" 1 (sp_is_living C)) (c_drawn_by : CalG P w K mg base "drawn_by" 2 (sp_drawn_by C)) : CalG P w K mg base "room_of" 3 (sp_room_of C) := by
  refine cal_mk (k := 2) d f_room_of (fun _ _ _ _ _ _ us hl => match us, hl with | [_, _], _ => rfl) (fun vs H Q E hh => ?_) (fun X tt x vs H Q E hh => ?_)
  · obtain ⟨_, ⟨A, h, F, B, g, hg, rfl, rfl⟩, q⟩ := hh
    rfl
  · obtain ⟨_, ⟨A, h, F, B, g, hg, rfl, rfl⟩, q⟩ := hh
    exact b_room_of ⟨x, tt.t T, B⟩ (tt.c c_is_living.up) (tt.c c_drawn_by.up) hg q
theorem r_holds {C : Cs} (T : TxG K mg C) (d : DefOk K mg "holds" s_holds) (c_is_living : CalG P w K mg base "is_living" 1 (sp_is_living C)) (c_room_of : CalG P w K mg base "room_of" 3 (sp_room_of C)) : CalG P w K mg base "holds" 4 (sp_holds C) := by
  refine cal_mk (k := 3) d f_holds (fun _ _ _ _ _ _ us hl => match us, hl with | [_, _, _], _ => rfl) (fun vs H Q E hh => ?_) (fun X tt x vs H Q E hh => ?_)
  · obtain ⟨_, ⟨A, h, F, B, g, m, hg, rfl, rfl⟩, q⟩ := hh
    rfl
  · obtain ⟨_, ⟨A, h, F, B, g, m, hg, rfl, rfl⟩, q⟩ := hh
    exact b_holds ⟨x, tt.t T, B⟩ (tt.c c_is_living.up) (tt.c c_room_of.up) hg q
theorem r_how_many_must {C : Cs} (T : TxG K mg C) (d : DefOk K mg "how_many_must" s_how_many_must)  : CalG P w K mg base "how_many_must" 1 (sp_how_many_must C) := by
  refine cal_mk (k := 0) d f_how_many_must (fun _ _ _ _ _ _ us hl => match us, hl with | [_, _], _ => rfl) (fun vs H Q E hh => ?_) (fun X tt x vs H Q E hh => ?_)
  · obtain ⟨_, ⟨A, h, F, B, r, hr, rfl, rfl⟩, q⟩ := hh
    rfl
  · obtain ⟨_, ⟨A, h, F, B, r, hr, rfl, rfl⟩, q⟩ := hh
    exact b_how_many_must ⟨x, tt.t T, B⟩  hr q
theorem r_root_of {C : Cs} (T : TxG K mg C) (d : DefOk K mg "root_of" s_root_of)  : CalG P w K mg base "root_of" 1 (sp_root_of C) := by
  refine cal_mk (k := 0) d f_root_of (fun _ _ _ _ _ _ us hl => match us, hl with | [_, _], _ => rfl) (fun vs H Q E hh => ?_) (fun X tt x vs H Q E hh => ?_)
  · obtain ⟨_, ⟨A, h, F, B, g, hg, rfl, rfl⟩, q⟩ := hh
    rfl
  · obtain ⟨_, ⟨A, h, F, B, g, hg, rfl, rfl⟩, q⟩ := hh
    exact b_root_of ⟨x, tt.t T, B⟩  hg q
theorem r_who_count {C : Cs} (T : TxG K mg C) (d : DefOk K mg "who_count" s_who_count) (c_holds : CalG P w K mg base "holds" 4 (sp_holds C)) (c_root_of : CalG P w K mg base "root_of" 1 (sp_root_of C)) : CalG P w K mg base "who_count" 5 (sp_who_count C) := by
  refine cal_mk (k := 4) d f_who_count (fun _ _ _ _ _ _ us hl => match us, hl with | [_, _, _], _ => rfl) (fun vs H Q E hh => ?_) (fun X tt x vs H Q E hh => ?_)
  · obtain ⟨_, ⟨A, h, F, B, r, s, hr, rfl, rfl⟩, q⟩ := hh
    rfl
  · obtain ⟨_, ⟨A, h, F, B, r, s, hr, rfl, rfl⟩, q⟩ := hh
    exact b_who_count ⟨x, tt.t T, B⟩ (tt.c c_holds.up) (tt.c c_root_of.up) hr q
theorem r_how_many_lack {C : Cs} (T : TxG K mg C) (d : DefOk K mg "how_many_lack" s_how_many_lack) (c_how_many_must : CalG P w K mg base "how_many_must" 1 (sp_how_many_must C)) (c_how_many : CalG P w K mg base "how_many" 1 sp_how_many) (c_who_count : CalG P w K mg base "who_count" 5 (sp_who_count C)) : CalG P w K mg base "how_many_lack" 6 (sp_how_many_lack C) := by
  refine cal_mk (k := 5) d f_how_many_lack (fun _ _ _ _ _ _ us hl => match us, hl with | [_, _, _], _ => rfl) (fun vs H Q E hh => ?_) (fun X tt x vs H Q E hh => ?_)
  · obtain ⟨_, ⟨A, h, F, B, r, s, hr, rfl, rfl⟩, q⟩ := hh
    rfl
  · obtain ⟨_, ⟨A, h, F, B, r, s, hr, rfl, rfl⟩, q⟩ := hh
    exact b_how_many_lack ⟨x, tt.t T, B⟩ (tt.c c_how_many_must.up) (tt.c c_how_many.up) (tt.c c_who_count.up) hr q
theorem r_done_between {C : Cs} (T : TxG K mg C) (d : DefOk K mg "done_between" s_done_between)  : CalG P w K mg base "done_between" 1 (sp_done_between C) := by
  refine cal_mk (k := 0) d f_done_between (fun _ _ _ _ _ _ us hl => match us, hl with | [_, _, _, _], _ => rfl) (fun vs H Q E hh => ?_) (fun X tt x vs H Q E hh => ?_)
  · obtain ⟨_, ⟨A, h, F, B, k, a, b, rfl, rfl⟩, q⟩ := hh
    rfl
  · obtain ⟨_, ⟨A, h, F, B, k, a, b, rfl, rfl⟩, q⟩ := hh
    exact b_done_between ⟨x, tt.t T, B⟩   q
theorem r_left_today {C : Cs} (T : TxG K mg C) (d : DefOk K mg "left_today" s_left_today) (c_done_between : CalG P w K mg base "done_between" 1 (sp_done_between C)) : CalG P w K mg base "left_today" 2 (sp_left_today C) := by
  refine cal_mk (k := 1) d f_left_today (fun _ _ _ _ _ _ us hl => match us, hl with | [_, _], _ => rfl) (fun vs H Q E hh => ?_) (fun X tt x vs H Q E hh => ?_)
  · obtain ⟨_, ⟨A, h, F, B, k, hk, rfl, rfl⟩, q⟩ := hh
    rfl
  · obtain ⟨_, ⟨A, h, F, B, k, hk, rfl, rfl⟩, q⟩ := hh
    exact b_left_today ⟨x, tt.t T, B⟩ (tt.c c_done_between.up) hk q
theorem r_refusal_of_deed {C : Cs} (T : TxG K mg C) (d : DefOk K mg "refusal_of_deed" s_refusal_of_deed) (c_too_old : CalG P w K mg base "too_old" 1 (sp_too_old C)) (c_holds : CalG P w K mg base "holds" 4 (sp_holds C)) (c_how_many_lack : CalG P w K mg base "how_many_lack" 6 (sp_how_many_lack C)) (c_left_today : CalG P w K mg base "left_today" 2 (sp_left_today C)) : CalG P w K mg base "refusal_of_deed" 7 (sp_refusal_of_deed C) := by
  refine cal_mk (k := 6) d f_refusal_of_deed (fun _ _ _ _ _ _ us hl => match us, hl with | [_, _, _], _ => rfl) (fun vs H Q E hh => ?_) (fun X tt x vs H Q E hh => ?_)
  · obtain ⟨_, ⟨A, h, F, B, r, s, hr, rfl, rfl⟩, q⟩ := hh
    rfl
  · obtain ⟨_, ⟨A, h, F, B, r, s, hr, rfl, rfl⟩, q⟩ := hh
    exact b_refusal_of_deed ⟨x, tt.t T, B⟩ (tt.c c_too_old.up) (tt.c c_holds.up) (tt.c c_how_many_lack.up) (tt.c c_left_today.up) hr q
theorem r_could {C : Cs} (T : TxG K mg C) (d : DefOk K mg "could" s_could) (c_refusal_of_deed : CalG P w K mg base "refusal_of_deed" 7 (sp_refusal_of_deed C)) : CalG P w K mg base "could" 8 (sp_q1 C .could) := by
  refine cal_mk (k := 7) d f_could (fun _ _ _ _ _ _ us hl => match us, hl with | [_, _], _ => rfl) (fun vs H Q E hh => ?_) (fun X tt x vs H Q E hh => ?_)
  · obtain ⟨_, ⟨A, h, F, B, a, rfl, rfl⟩, q⟩ := hh
    rfl
  · obtain ⟨_, ⟨A, h, F, B, a, rfl, rfl⟩, q⟩ := hh
    exact b_could ⟨x, tt.t T, B⟩ (tt.c c_refusal_of_deed.up) q
theorem r_do {C : Cs} (T : TxG K mg C) (d : DefOk K mg "do" s_do) (c_could : CalG P w K mg base "could" 8 (sp_q1 C .could)) (c_who_count : CalG P w K mg base "who_count" 5 (sp_who_count C)) (M : MkG P w K mg base "Deed" C.cD 1 (sp_iD C.cD)) : CalG P w K mg base "do" 9 (sp_c1 C .do_) := by
  refine cal_mk (k := 8) d f_do (fun _ _ _ _ _ _ us hl => match us, hl with | [_, _], _ => rfl) (fun vs H Q E hh => ?_) (fun X tt x vs H Q E hh => ?_)
  · obtain ⟨A, h, F, c0, B, ⟨a, rfl, rfl⟩, q⟩ := hh
    rfl
  · obtain ⟨A, h, F, c0, B, ⟨a, rfl, rfl⟩, q⟩ := hh
    exact b_do ⟨x, tt.t T, B⟩ (tt.c c_could.up) (tt.c c_who_count.up) (tt.mk_ M) (by decide) q
theorem r_lacks {C : Cs} (T : TxG K mg C) (d : DefOk K mg "lacks" s_lacks) (c_how_many_lack : CalG P w K mg base "how_many_lack" 6 (sp_how_many_lack C)) : CalG P w K mg base "lacks" 7 (sp_q1 C .lacks) := by
  refine cal_mk (k := 6) d f_lacks (fun _ _ _ _ _ _ us hl => match us, hl with | [_, _], _ => rfl) (fun vs H Q E hh => ?_) (fun X tt x vs H Q E hh => ?_)
  · obtain ⟨_, ⟨A, h, F, B, a, rfl, rfl⟩, q⟩ := hh
    rfl
  · obtain ⟨_, ⟨A, h, F, B, a, rfl, rfl⟩, q⟩ := hh
    exact b_lacks ⟨x, tt.t T, B⟩ (tt.c c_how_many_lack.up) q
theorem r_counts {C : Cs} (T : TxG K mg C) (d : DefOk K mg "counts" s_counts) (c_who_count : CalG P w K mg base "who_count" 5 (sp_who_count C)) : CalG P w K mg base "counts" 6 (sp_q1 C .counts) := by
  refine cal_mk (k := 5) d f_counts (fun _ _ _ _ _ _ us hl => match us, hl with | [_, _], _ => rfl) (fun vs H Q E hh => ?_) (fun X tt x vs H Q E hh => ?_)
  · obtain ⟨_, ⟨A, h, F, B, a, rfl, rfl⟩, q⟩ := hh
    rfl
  · obtain ⟨_, ⟨A, h, F, B, a, rfl, rfl⟩, q⟩ := hh
    exact b_counts ⟨x, tt.t T, B⟩ (tt.c c_who_count.up) q
theorem r_may_still_say {C : Cs} (T : TxG K mg C) (d : DefOk K mg "may_still_say" s_may_still_say) (c_refusal_of_yes : CalG P w K mg base "refusal_of_yes" 2 (sp_refusal_of_yes C)) : CalG P w K mg base "may_still_say" 3 (sp_may_still_say C) := by
  refine cal_mk (k := 2) d f_may_still_say (fun _ _ _ _ _ _ us hl => match us, hl with | [_, _], _ => rfl) (fun vs H Q E hh => ?_) (fun X tt x vs H Q E hh => ?_)
  · obtain ⟨_, ⟨A, h, F, B, r, hr, rfl, rfl⟩, q⟩ := hh
    rfl
  · obtain ⟨_, ⟨A, h, F, B, r, hr, rfl, rfl⟩, q⟩ := hh
    exact b_may_still_say ⟨x, tt.t T, B⟩ (tt.c c_refusal_of_yes.up) hr q
theorem r_maysay {C : Cs} (T : TxG K mg C) (d : DefOk K mg "maysay" s_maysay) (c_may_still_say : CalG P w K mg base "may_still_say" 3 (sp_may_still_say C)) : CalG P w K mg base "maysay" 4 (sp_q1 C .maySay) := by
  refine cal_mk (k := 3) d f_maysay (fun _ _ _ _ _ _ us hl => match us, hl with | [_, _], _ => rfl) (fun vs H Q E hh => ?_) (fun X tt x vs H Q E hh => ?_)
  · obtain ⟨_, ⟨A, h, F, B, a, rfl, rfl⟩, q⟩ := hh
    rfl
  · obtain ⟨_, ⟨A, h, F, B, a, rfl, rfl⟩, q⟩ := hh
    exact b_maysay ⟨x, tt.t T, B⟩ (tt.c c_may_still_say.up) q
theorem r_can {C : Cs} (T : TxG K mg C) (d : DefOk K mg "can" s_can) (c_too_old : CalG P w K mg base "too_old" 1 (sp_too_old C)) (c_how_many_lack : CalG P w K mg base "how_many_lack" 6 (sp_how_many_lack C)) (c_may_still_say : CalG P w K mg base "may_still_say" 3 (sp_may_still_say C)) : CalG P w K mg base "can" 7 (sp_q1 C .can) := by
  refine cal_mk (k := 6) d f_can (fun _ _ _ _ _ _ us hl => match us, hl with | [_, _], _ => rfl) (fun vs H Q E hh => ?_) (fun X tt x vs H Q E hh => ?_)
  · obtain ⟨_, ⟨A, h, F, B, a, rfl, rfl⟩, q⟩ := hh
    rfl
  · obtain ⟨_, ⟨A, h, F, B, a, rfl, rfl⟩, q⟩ := hh
    exact b_can ⟨x, tt.t T, B⟩ (tt.c c_too_old.up) (tt.c c_how_many_lack.up) (tt.c c_may_still_say.up) q
theorem r_answer_on_deeds {C : Cs} (T : TxG K mg C) (d : DefOk K mg "answer_on_deeds" s_answer_on_deeds) (c_do : CalG P w K mg base "do" 9 (sp_c1 C .do_)) (c_could : CalG P w K mg base "could" 8 (sp_q1 C .could)) (c_lacks : CalG P w K mg base "lacks" 7 (sp_q1 C .lacks)) (c_counts : CalG P w K mg base "counts" 6 (sp_q1 C .counts)) (c_maysay : CalG P w K mg base "maysay" 4 (sp_q1 C .maySay)) (c_can : CalG P w K mg base "can" 7 (sp_q1 C .can)) : CalG P w K mg base "answer_on_deeds" 10 (spD C P_answer_on_deeds) := by
  refine cal_mk (k := 9) d f_answer_on_deeds (fun _ _ _ _ _ _ us hl => match us, hl with | [_, _, _], _ => rfl) (fun vs H Q E hh => ?_) (fun X tt x vs H Q E hh => ?_)
  · obtain ⟨A, h, F, p, cn, args, c, B, hF, rfl, hP, hc, q⟩ := hh
    rfl
  · obtain ⟨A, h, F, p, cn, args, c, B, hF, rfl, hP, hc, q⟩ := hh
    exact b_answer_on_deeds ⟨x, tt.t T, B⟩ (tt.c c_do.up) (tt.c c_could.up) (tt.c c_lacks.up) (tt.c c_counts.up) (tt.c c_maysay.up) (tt.c c_can.up) hF hP hc q
theorem r_lives {C : Cs} (T : TxG K mg C) (d : DefOk K mg "lives" s_lives) (c_is_living : CalG P w K mg base "is_living" 1 (sp_is_living C)) : CalG P w K mg base "lives" 2 (sp_q1 C .lives) := by
  refine cal_mk (k := 1) d f_lives (fun _ _ _ _ _ _ us hl => match us, hl with | [_, _], _ => rfl) (fun vs H Q E hh => ?_) (fun X tt x vs H Q E hh => ?_)
  · obtain ⟨_, ⟨A, h, F, B, a, rfl, rfl⟩, q⟩ := hh
    rfl
  · obtain ⟨_, ⟨A, h, F, B, a, rfl, rfl⟩, q⟩ := hh
    exact b_lives ⟨x, tt.t T, B⟩ (tt.c c_is_living.up) q
theorem r_room {C : Cs} (T : TxG K mg C) (d : DefOk K mg "room" s_room) (c_room_of : CalG P w K mg base "room_of" 3 (sp_room_of C)) : CalG P w K mg base "room" 4 (sp_q1 C .room) := by
  refine cal_mk (k := 3) d f_room (fun _ _ _ _ _ _ us hl => match us, hl with | [_, _], _ => rfl) (fun vs H Q E hh => ?_) (fun X tt x vs H Q E hh => ?_)
  · obtain ⟨_, ⟨A, h, F, B, a, rfl, rfl⟩, q⟩ := hh
    rfl
  · obtain ⟨_, ⟨A, h, F, B, a, rfl, rfl⟩, q⟩ := hh
    exact b_room ⟨x, tt.t T, B⟩ (tt.c c_room_of.up) q
theorem r_root {C : Cs} (T : TxG K mg C) (d : DefOk K mg "root" s_root) (c_root_of : CalG P w K mg base "root_of" 1 (sp_root_of C)) : CalG P w K mg base "root" 2 (sp_q1 C .root) := by
  refine cal_mk (k := 1) d f_root (fun _ _ _ _ _ _ us hl => match us, hl with | [_, _], _ => rfl) (fun vs H Q E hh => ?_) (fun X tt x vs H Q E hh => ?_)
  · obtain ⟨_, ⟨A, h, F, B, a, rfl, rfl⟩, q⟩ := hh
    rfl
  · obtain ⟨_, ⟨A, h, F, B, a, rfl, rfl⟩, q⟩ := hh
    exact b_root ⟨x, tt.t T, B⟩ (tt.c c_root_of.up) q
theorem r_drawn {C : Cs} (T : TxG K mg C) (d : DefOk K mg "drawn" s_drawn) (c_drawn_by : CalG P w K mg base "drawn_by" 2 (sp_drawn_by C)) : CalG P w K mg base "drawn" 3 (sp_q1 C .drawn) := by
  refine cal_mk (k := 2) d f_drawn (fun _ _ _ _ _ _ us hl => match us, hl with | [_, _], _ => rfl) (fun vs H Q E hh => ?_) (fun X tt x vs H Q E hh => ?_)
  · obtain ⟨_, ⟨A, h, F, B, a, rfl, rfl⟩, q⟩ := hh
    rfl
  · obtain ⟨_, ⟨A, h, F, B, a, rfl, rfl⟩, q⟩ := hh
    exact b_drawn ⟨x, tt.t T, B⟩ (tt.c c_drawn_by.up) q
theorem r_answer_on_chains {C : Cs} (T : TxG K mg C) (d : DefOk K mg "answer_on_chains" s_answer_on_chains) (c_lives : CalG P w K mg base "lives" 2 (sp_q1 C .lives)) (c_room : CalG P w K mg base "room" 4 (sp_q1 C .room)) (c_root : CalG P w K mg base "root" 2 (sp_q1 C .root)) (c_drawn : CalG P w K mg base "drawn" 3 (sp_q1 C .drawn)) : CalG P w K mg base "answer_on_chains" 5 (spD C P_answer_on_chains) := by
  refine cal_mk (k := 4) d f_answer_on_chains (fun _ _ _ _ _ _ us hl => match us, hl with | [_, _, _], _ => rfl) (fun vs H Q E hh => ?_) (fun X tt x vs H Q E hh => ?_)
  · obtain ⟨A, h, F, p, cn, args, c, B, hF, rfl, hP, hc, q⟩ := hh
    rfl
  · obtain ⟨A, h, F, p, cn, args, c, B, hF, rfl, hP, hc, q⟩ := hh
    exact b_answer_on_chains ⟨x, tt.t T, B⟩ (tt.c c_lives.up) (tt.c c_room.up) (tt.c c_root.up) (tt.c c_drawn.up) hF hP hc q
theorem r_left {C : Cs} (T : TxG K mg C) (d : DefOk K mg "left" s_left) (c_left_today : CalG P w K mg base "left_today" 2 (sp_left_today C)) : CalG P w K mg base "left" 3 (sp_q1 C .left) := by
  refine cal_mk (k := 2) d f_left (fun _ _ _ _ _ _ us hl => match us, hl with | [_, _], _ => rfl) (fun vs H Q E hh => ?_) (fun X tt x vs H Q E hh => ?_)
  · obtain ⟨_, ⟨A, h, F, B, a, rfl, rfl⟩, q⟩ := hh
    rfl
  · obtain ⟨_, ⟨A, h, F, B, a, rfl, rfl⟩, q⟩ := hh
    exact b_left ⟨x, tt.t T, B⟩ (tt.c c_left_today.up) q
theorem r_sum_of {C : Cs} (T : TxG K mg C) (d : DefOk K mg "sum_of" s_sum_of) (c_done_between : CalG P w K mg base "done_between" 1 (sp_done_between C)) : CalG P w K mg base "sum_of" 2 (sp_q3 C .sum) := by
  refine cal_mk (k := 1) d f_sum_of (fun _ _ _ _ _ _ us hl => match us, hl with | [_, _, _, _], _ => rfl) (fun vs H Q E hh => ?_) (fun X tt x vs H Q E hh => ?_)
  · obtain ⟨_, ⟨A, h, F, B, a, b, c, rfl, rfl⟩, q⟩ := hh
    rfl
  · obtain ⟨_, ⟨A, h, F, B, a, b, c, rfl, rfl⟩, q⟩ := hh
    exact b_sum_of ⟨x, tt.t T, B⟩ (tt.c c_done_between.up) q
theorem r_done {C : Cs} (T : TxG K mg C) (d : DefOk K mg "done" s_done)  : CalG P w K mg base "done" 1 (sp_q0 C .done) := by
  refine cal_mk (k := 0) d f_done (fun _ _ _ _ _ _ us hl => match us, hl with | [_], _ => rfl) (fun vs H Q E hh => ?_) (fun X tt x vs H Q E hh => ?_)
  · obtain ⟨_, ⟨A, h, F, B, rfl, rfl⟩, q⟩ := hh
    rfl
  · obtain ⟨_, ⟨A, h, F, B, rfl, rfl⟩, q⟩ := hh
    exact b_done ⟨x, tt.t T, B⟩  q
theorem r_answer_on_the_past {C : Cs} (T : TxG K mg C) (d : DefOk K mg "answer_on_the_past" s_answer_on_the_past) (c_left : CalG P w K mg base "left" 3 (sp_q1 C .left)) (c_sum_of : CalG P w K mg base "sum_of" 2 (sp_q3 C .sum)) (c_done : CalG P w K mg base "done" 1 (sp_q0 C .done)) : CalG P w K mg base "answer_on_the_past" 4 (spD C P_answer_on_the_past) := by
  refine cal_mk (k := 3) d f_answer_on_the_past (fun _ _ _ _ _ _ us hl => match us, hl with | [_, _, _], _ => rfl) (fun vs H Q E hh => ?_) (fun X tt x vs H Q E hh => ?_)
  · obtain ⟨A, h, F, p, cn, args, c, B, hF, rfl, hP, hc, q⟩ := hh
    rfl
  · obtain ⟨A, h, F, p, cn, args, c, B, hF, rfl, hP, hc, q⟩ := hh
    exact b_answer_on_the_past ⟨x, tt.t T, B⟩ (tt.c c_left.up) (tt.c c_sum_of.up) (tt.c c_done.up) hF hP hc q
theorem r_tick {C : Cs} (T : TxG K mg C) (d : DefOk K mg "tick" s_tick)  : CalG P w K mg base "tick" 1 (sp_c1 C .tick) := by
  refine cal_mk (k := 0) d f_tick (fun _ _ _ _ _ _ us hl => match us, hl with | [_, _], _ => rfl) (fun vs H Q E hh => ?_) (fun X tt x vs H Q E hh => ?_)
  · obtain ⟨A, h, F, c0, B, ⟨a, rfl, rfl⟩, q⟩ := hh
    rfl
  · obtain ⟨A, h, F, c0, B, ⟨a, rfl, rfl⟩, q⟩ := hh
    exact b_tick ⟨x, tt.t T, B⟩  q
theorem r_most_from {C : Cs} (T : TxG K mg C) (d : DefOk K mg "most_from" s_most_from) (c_root_of : CalG P w K mg base "root_of" 1 (sp_root_of C)) (c_room_of : CalG P w K mg base "room_of" 3 (sp_room_of C)) : CalG P w K mg base "most_from" 4 (sp_most_from C) := by
  refine cal_mk (k := 3) d f_most_from (fun _ _ _ _ _ _ us hl => match us, hl with | [_, _, _, _], _ => rfl) (fun vs H Q E hh => ?_) (fun X tt x vs H Q E hh => ?_)
  · obtain ⟨_, ⟨A, h, F, B, p, t, k, rfl, rfl⟩, q⟩ := hh
    rfl
  · obtain ⟨_, ⟨A, h, F, B, p, t, k, rfl, rfl⟩, q⟩ := hh
    exact b_most_from ⟨x, tt.t T, B⟩ (tt.c c_root_of.up) (tt.c c_room_of.up)  q
theorem r_most_by_standing {C : Cs} (T : TxG K mg C) (d : DefOk K mg "most_by_standing" s_most_by_standing) (c_has : CalG P w K mg base "has" 1 sp_has) (c_most_from : CalG P w K mg base "most_from" 4 (sp_most_from C)) : CalG P w K mg base "most_by_standing" 5 (sp_most_by_standing C) := by
  refine cal_mk (k := 4) d f_most_by_standing (fun _ _ _ _ _ _ us hl => match us, hl with | [_, _, _], _ => rfl) (fun vs H Q E hh => ?_) (fun X tt x vs H Q E hh => ?_)
  · obtain ⟨_, ⟨A, h, F, B, t, k, hk, rfl, rfl⟩, q⟩ := hh
    rfl
  · obtain ⟨_, ⟨A, h, F, B, t, k, hk, rfl, rfl⟩, q⟩ := hh
    exact b_most_by_standing ⟨x, tt.t T, B⟩ (tt.c c_has.up) (tt.c c_most_from.up) hk q
theorem r_most {C : Cs} (T : TxG K mg C) (d : DefOk K mg "most" s_most) (c_most_by_standing : CalG P w K mg base "most_by_standing" 5 (sp_most_by_standing C)) (c_left_today : CalG P w K mg base "left_today" 2 (sp_left_today C)) : CalG P w K mg base "most" 6 (sp_q2 C .most) := by
  refine cal_mk (k := 5) d f_most (fun _ _ _ _ _ _ us hl => match us, hl with | [_, _, _], _ => rfl) (fun vs H Q E hh => ?_) (fun X tt x vs H Q E hh => ?_)
  · obtain ⟨_, ⟨A, h, F, B, a, b, rfl, rfl⟩, q⟩ := hh
    rfl
  · obtain ⟨_, ⟨A, h, F, B, a, b, rfl, rfl⟩, q⟩ := hh
    exact b_most ⟨x, tt.t T, B⟩ (tt.c c_most_by_standing.up) (tt.c c_left_today.up) q
theorem r_ifyes {C : Cs} (T : TxG K mg C) (d : DefOk K mg "ifyes" s_ifyes) (c_is_set : CalG P w K mg base "is_set" 1 sp_is_set) (c_refusal_of_deed : CalG P w K mg base "refusal_of_deed" 7 (sp_refusal_of_deed C)) : CalG P w K mg base "ifyes" 8 (sp_q2 C .ifYes) := by
  refine cal_mk (k := 7) d f_ifyes (fun _ _ _ _ _ _ us hl => match us, hl with | [_, _, _], _ => rfl) (fun vs H Q E hh => ?_) (fun X tt x vs H Q E hh => ?_)
  · obtain ⟨_, ⟨A, h, F, B, a, b, rfl, rfl⟩, q⟩ := hh
    rfl
  · obtain ⟨_, ⟨A, h, F, B, a, b, rfl, rfl⟩, q⟩ := hh
    exact b_ifyes ⟨x, tt.t T, B⟩ (tt.c c_is_set.up) (tt.c c_refusal_of_deed.up) q
theorem r_today {C : Cs} (T : TxG K mg C) (d : DefOk K mg "today" s_today)  : CalG P w K mg base "today" 1 (sp_q0 C .today) := by
  refine cal_mk (k := 0) d f_today (fun _ _ _ _ _ _ us hl => match us, hl with | [_], _ => rfl) (fun vs H Q E hh => ?_) (fun X tt x vs H Q E hh => ?_)
  · obtain ⟨_, ⟨A, h, F, B, rfl, rfl⟩, q⟩ := hh
    rfl
  · obtain ⟨_, ⟨A, h, F, B, rfl, rfl⟩, q⟩ := hh
    exact b_today ⟨x, tt.t T, B⟩  q
theorem r_one_number {C : Cs} (T : TxG K mg C) (d : DefOk K mg "one_number" s_one_number) (c_answer_on_rules : CalG P w K mg base "answer_on_rules" 4 (spD C P_answer_on_rules)) (c_answer_on_asking : CalG P w K mg base "answer_on_asking" 4 (spD C P_answer_on_asking)) (c_answer_on_standing : CalG P w K mg base "answer_on_standing" 4 (spD C P_answer_on_standing)) (c_answer_on_deeds : CalG P w K mg base "answer_on_deeds" 10 (spD C P_answer_on_deeds)) (c_answer_on_chains : CalG P w K mg base "answer_on_chains" 5 (spD C P_answer_on_chains)) (c_answer_on_the_past : CalG P w K mg base "answer_on_the_past" 4 (spD C P_answer_on_the_past)) (c_tick : CalG P w K mg base "tick" 1 (sp_c1 C .tick)) (c_most : CalG P w K mg base "most" 6 (sp_q2 C .most)) (c_ifyes : CalG P w K mg base "ifyes" 8 (sp_q2 C .ifYes)) (c_today : CalG P w K mg base "today" 1 (sp_q0 C .today)) : CalG P w K mg base "one_number" 11 (spD C P_one) := by
  refine cal_mk (k := 10) d f_one_number (fun _ _ _ _ _ _ us hl => match us, hl with | [_, _, _], _ => rfl) (fun vs H Q E hh => ?_) (fun X tt x vs H Q E hh => ?_)
  · obtain ⟨A, h, F, p, cn, args, c, B, hF, rfl, hP, hc, q⟩ := hh
    rfl
  · obtain ⟨A, h, F, p, cn, args, c, B, hF, rfl, hP, hc, q⟩ := hh
    exact b_one_number ⟨x, tt.t T, B⟩ (tt.c c_answer_on_rules.up) (tt.c c_answer_on_asking.up) (tt.c c_answer_on_standing.up) (tt.c c_answer_on_deeds.up) (tt.c c_answer_on_chains.up) (tt.c c_answer_on_the_past.up) (tt.c c_tick.up) (tt.c c_most.up) (tt.c c_ifyes.up) (tt.c c_today.up) hF hP hc q
theorem r_answer_of {C : Cs} (T : TxG K mg C) (d : DefOk K mg "answer_of" s_answer_of) (c_several_numbers : CalG P w K mg base "several_numbers" 3 (spDL C P_several)) (c_one_number : CalG P w K mg base "one_number" 11 (spD C P_one)) : CalG P w K mg base "answer_of" 12 (spAns C) := by
  refine cal_mk (k := 11) d f_answer_of (fun _ _ _ _ _ _ us hl => match us, hl with | [_, _, _], _ => rfl) (fun vs H Q E hh => ?_) (fun X tt x vs H Q E hh => ?_)
  · obtain ⟨A, h, F, p, cn, args, c, B, hF, rfl, h0, hc, q⟩ := hh
    rfl
  · obtain ⟨A, h, F, p, cn, args, c, B, hF, rfl, h0, hc, q⟩ := hh
    exact b_answer_of ⟨x, tt.t T, B⟩ (tt.c c_several_numbers.up) (tt.c c_one_number.up) hF h0 hc q
theorem r_iR {C : Cs} (T : TxG K mg C) {f : Addr} {fd : FuncData} (F : Fun K "__init__" "Rule.__init__" s_iR f fd) (m : Mk K C.cR f) (hm : mg "Rule" = some (.ref C.cR)) : MkG P w K mg base "Rule" C.cR 1 (sp_iR C.cR) := by
  refine ⟨f, fd, [("self" : Str), ("may" : Str), ("need" : Str), ("free" : Str), ("daily" : Str), ("lives" : Str)], m, fn_mk (k := 0) F f_iR (fun vs H Q E hh => ?_) (fun X tt x vs H Q E hh => ?_), hm, F.binds (fun _ _ _ _ _ _ us hl => match us, hl with | [_, _, _, _, _, _], _ => rfl)⟩
  · obtain ⟨p, dx, args, rfl, hl, _, _⟩ := hh
    rw [List.length_cons, hl]
    rfl
  · obtain ⟨p, dx, args, rfl, hl, hp, q⟩ := hh
    match args, hl, q with
    | [a, b, c, d, e], _, q =>
      exact b_iR x (tt.t T) hp fun H1 h1 f1 => q H1 h1 f1
theorem r_iA {C : Cs} (T : TxG K mg C) {f : Addr} {fd : FuncData} (F : Fun K "__init__" "Asked.__init__" s_iA f fd) (m : Mk K C.cA f) (hm : mg "Asked" = some (.ref C.cA)) : MkG P w K mg base "Asked" C.cA 1 (sp_iA C.cA) := by
  refine ⟨f, fd, [("self" : Str), ("asker" : Str), ("kind" : Str), ("number" : Str), ("amount" : Str), ("told" : Str)], m, fn_mk (k := 0) F f_iA (fun vs H Q E hh => ?_) (fun X tt x vs H Q E hh => ?_), hm, F.binds (fun _ _ _ _ _ _ us hl => match us, hl with | [_, _, _, _, _, _], _ => rfl)⟩
  · obtain ⟨p, dx, args, rfl, hl, _, _⟩ := hh
    rw [List.length_cons, hl]
    rfl
  · obtain ⟨p, dx, args, rfl, hl, hp, q⟩ := hh
    match args, hl, q with
    | [a, b, c, d, e], _, q =>
      exact b_iA x (tt.t T) hp fun u H1 h1 h2 h3 f1 => q H1 ⟨u, h1, h2, h3⟩ f1
theorem r_iS {C : Cs} (T : TxG K mg C) {f : Addr} {fd : FuncData} (F : Fun K "__init__" "Standing.__init__" s_iS f fd) (m : Mk K C.cS f) (hm : mg "Standing" = some (.ref C.cS)) : MkG P w K mg base "Standing" C.cS 1 (sp_iS C.cS) := by
  refine ⟨f, fd, [("self" : Str), ("kind" : Str), ("giver" : Str), ("holder" : Str), ("each" : Str), ("total" : Str), ("till" : Str), ("chain" : Str)], m, fn_mk (k := 0) F f_iS (fun vs H Q E hh => ?_) (fun X tt x vs H Q E hh => ?_), hm, F.binds (fun _ _ _ _ _ _ us hl => match us, hl with | [_, _, _, _, _, _, _, _], _ => rfl)⟩
  · obtain ⟨p, dx, args, rfl, hl, _, _⟩ := hh
    rw [List.length_cons, hl]
    rfl
  · obtain ⟨p, dx, args, rfl, hl, hp, q⟩ := hh
    match args, hl, q with
    | [a, b, c, d, e, f, g], _, q =>
      exact b_iS x (tt.t T) hp fun H1 h1 f1 => q H1 h1 f1
theorem r_iD {C : Cs} (T : TxG K mg C) {f : Addr} {fd : FuncData} (F : Fun K "__init__" "Deed.__init__" s_iD f fd) (m : Mk K C.cD f) (hm : mg "Deed" = some (.ref C.cD)) : MkG P w K mg base "Deed" C.cD 1 (sp_iD C.cD) := by
  refine ⟨f, fd, [("self" : Str), ("asked" : Str), ("day" : Str), ("counted" : Str)], m, fn_mk (k := 0) F f_iD (fun vs H Q E hh => ?_) (fun X tt x vs H Q E hh => ?_), hm, F.binds (fun _ _ _ _ _ _ us hl => match us, hl with | [_, _, _, _], _ => rfl)⟩
  · obtain ⟨p, dx, args, rfl, hl, _, _⟩ := hh
    rw [List.length_cons, hl]
    rfl
  · obtain ⟨p, dx, args, rfl, hl, hp, q⟩ := hh
    match args, hl, q with
    | [a, b, c], _, q =>
      exact b_iD x (tt.t T) hp fun H1 h1 f1 => q H1 h1 f1
theorem r_iB {C : Cs} (T : TxG K mg C) {f : Addr} {fd : FuncData} (F : Fun K "__init__" "Book.__init__" s_iB f fd) (m : Mk K C.cB f) (hm : mg "Book" = some (.ref C.cB)) : MkG P w K mg base "Book" C.cB 1 (sp_iB C.cB) := by
  refine ⟨f, fd, [("self" : Str), ("people" : Str)], m, fn_mk (k := 0) F f_iB (fun vs H Q E hh => ?_) (fun X tt x vs H Q E hh => ?_), hm, F.binds (fun _ _ _ _ _ _ us hl => match us, hl with | [_, _], _ => rfl)⟩
  · obtain ⟨p, dx, args, rfl, hl, _, _⟩ := hh
    rw [List.length_cons, hl]
    rfl
  · obtain ⟨p, dx, args, rfl, hl, hp, q⟩ := hh
    match args, hl, q with
    | [a], _, q =>
      exact b_iB x (tt.t T) hp fun l1 l2 l3 l4 H1 h1 h2 h3 h4 n1 n2 n3 n4 n5 n6 k1 k2 k3 k4 k5 f1 => q H1 ⟨l1, l2, l3, l4, h1, h2, h3, h4, n1, n2, n3, n4, n5, n6, k1, k2, k3, k4, k5⟩ f1
def spAnswers (K : PySem.W.Frag) : Sp := fun vs H Q _ => ∃ (a : Addr) (l : List Int), vs = [.ref a] ∧ SqL K H a (l.map V.int) ∧ PyKp332.answers_asked l = true ∧ ∀ p H2, Ex H H2 → H2 p = some (.lst ((PyKp332.answers l).map V.int)) → Q (.ref p) H2
theorem r_answers {C : Cs} {f : Addr} {fd : FuncData} (T : TxG K mg C) (F : Fun K "answers" "answers" s_answers f fd) (c_answer_of : CalG P w K mg base "answer_of" 12 (spAns C)) (M : MkG P w K mg base "Book" C.cB 1 (sp_iB C.cB)) (hL : TupOk K mg "LENGTHS" LEN) : FnOk P w K mg base CX0 13 f fd ["calls"] (spAnswers K) := by
  refine fn_mk (k := 12) F f_answers (fun vs H Q E hh => ?_) (fun X tt x vs H Q E hh => ?_)
  · obtain ⟨a, l, rfl, hS, hA, q⟩ := hh
    rfl
  · obtain ⟨aa, l, rfl, hS, hA, q⟩ := hh
    obtain ⟨aL, hm, o, its, n, h1, h2, h3, h4, h5⟩ := hL
    have hk := tt.k
    have hmg := tt.m
    exact b_answers (aL := aL) x (tt.t T) (tt.mk_ M) (by decide) (tt.c c_answer_of.up) (by rw [hmg]; exact hm) (fun H => by rw [hk]; exact Or.inr ⟨o, its, n, h1, h2, h3, h4, h5⟩) (by rw [hk]; exact hS) hA q
end
/-- all that the top must have left -/
structure Facts (K : PySem.W.Frag) (mg : Str → Option Value) : Prop where
  d_beneath : DefOk K mg "beneath" s_beneath
  d_under : DefOk K mg "under" s_under
  d_chain : DefOk K mg "chain" s_chain
  d_log : DefOk K mg "log" s_log
  d_askedis : DefOk K mg "askedis" s_askedis
  d_grantis : DefOk K mg "grantis" s_grantis
  d_ruleis : DefOk K mg "ruleis" s_ruleis
  d_several_numbers : DefOk K mg "several_numbers" s_several_numbers
  d_is_set : DefOk K mg "is_set" s_is_set
  d_is_rule : DefOk K mg "is_rule" s_is_rule
  d_rule : DefOk K mg "rule" s_rule
  d_rerule : DefOk K mg "rerule" s_rerule
  d_answer_on_rules : DefOk K mg "answer_on_rules" s_answer_on_rules
  d_ask : DefOk K mg "ask" s_ask
  d_change : DefOk K mg "change" s_change
  d_too_old : DefOk K mg "too_old" s_too_old
  d_has : DefOk K mg "has" s_has
  d_refusal_of_yes : DefOk K mg "refusal_of_yes" s_refusal_of_yes
  d_how_many : DefOk K mg "how_many" s_how_many
  d_yes : DefOk K mg "yes" s_yes
  d_no : DefOk K mg "no" s_no
  d_withdraw : DefOk K mg "withdraw" s_withdraw
  d_answer_on_asking : DefOk K mg "answer_on_asking" s_answer_on_asking
  d_grant : DefOk K mg "grant" s_grant
  d_is_living : DefOk K mg "is_living" s_is_living
  d_hand : DefOk K mg "hand" s_hand
  d_revoke : DefOk K mg "revoke" s_revoke
  d_use : DefOk K mg "use" s_use
  d_answer_on_standing : DefOk K mg "answer_on_standing" s_answer_on_standing
  d_draws_on : DefOk K mg "draws_on" s_draws_on
  d_drawn_by : DefOk K mg "drawn_by" s_drawn_by
  d_room_of : DefOk K mg "room_of" s_room_of
  d_holds : DefOk K mg "holds" s_holds
  d_how_many_must : DefOk K mg "how_many_must" s_how_many_must
  d_root_of : DefOk K mg "root_of" s_root_of
  d_who_count : DefOk K mg "who_count" s_who_count
  d_how_many_lack : DefOk K mg "how_many_lack" s_how_many_lack
  d_done_between : DefOk K mg "done_between" s_done_between
  d_left_today : DefOk K mg "left_today" s_left_today
  d_refusal_of_deed : DefOk K mg "refusal_of_deed" s_refusal_of_deed
  d_could : DefOk K mg "could" s_could
  d_do : DefOk K mg "do" s_do
  d_lacks : DefOk K mg "lacks" s_lacks
  d_counts : DefOk K mg "counts" s_counts
  d_may_still_say : DefOk K mg "may_still_say" s_may_still_say
  d_maysay : DefOk K mg "maysay" s_maysay
  d_can : DefOk K mg "can" s_can
  d_answer_on_deeds : DefOk K mg "answer_on_deeds" s_answer_on_deeds
  d_lives : DefOk K mg "lives" s_lives
  d_room : DefOk K mg "room" s_room
  d_root : DefOk K mg "root" s_root
  d_drawn : DefOk K mg "drawn" s_drawn
  d_answer_on_chains : DefOk K mg "answer_on_chains" s_answer_on_chains
  d_left : DefOk K mg "left" s_left
  d_sum_of : DefOk K mg "sum_of" s_sum_of
  d_done : DefOk K mg "done" s_done
  d_answer_on_the_past : DefOk K mg "answer_on_the_past" s_answer_on_the_past
  d_tick : DefOk K mg "tick" s_tick
  d_most_from : DefOk K mg "most_from" s_most_from
  d_most_by_standing : DefOk K mg "most_by_standing" s_most_by_standing
  d_most : DefOk K mg "most" s_most
  d_ifyes : DefOk K mg "ifyes" s_ifyes
  d_today : DefOk K mg "today" s_today
  d_one_number : DefOk K mg "one_number" s_one_number
  d_answer_of : DefOk K mg "answer_of" s_answer_of
  d_answers : DefOk K mg "answers" s_answers
  c_MOST_AMOUNT : ConOk mg "MOST_AMOUNT" 1000000
  c_OPEN : ConOk mg "OPEN" 0
  c_DONE : ConOk mg "DONE" 1
  c_REFUSED : ConOk mg "REFUSED" 2
  c_WITHDRAWN : ConOk mg "WITHDRAWN" 3
  c_NO_SUCH : ConOk mg "NO_SUCH" 2
  c_NOT_OPEN : ConOk mg "NOT_OPEN" 6
  c_TOO_OLD : ConOk mg "TOO_OLD" 8
  c_OTHER_NUMBERS : ConOk mg "OTHER_NUMBERS" 9
  c_NOT_BEGUN : ConOk mg "NOT_BEGUN" 11
  c_WRONG_PERSON : ConOk mg "WRONG_PERSON" 12
  c_NOT_ALLOWED : ConOk mg "NOT_ALLOWED" 13
  c_NOT_HOLDING : ConOk mg "NOT_HOLDING" 14
  c_MORE_THAN_IT_HAS : ConOk mg "MORE_THAN_IT_HAS" 15
  c_ALREADY : ConOk mg "ALREADY" 17
  c_WRONG_VALUE : ConOk mg "WRONG_VALUE" 22
  c_NO_MORE : ConOk mg "NO_MORE" 28
  c_MOST_ASKED : ConOk mg "MOST_ASKED" 12
  c_LONGEST_TICK : ConOk mg "LONGEST_TICK" 30
  c_MOST_KINDS : ConOk mg "MOST_KINDS" 4
  c_MOST_NEED : ConOk mg "MOST_NEED" 3
  c_LONGEST_LIFE : ConOk mg "LONGEST_LIFE" 30
  c_MOST_STANDING : ConOk mg "MOST_STANDING" 10
  c_MOST_USED : ConOk mg "MOST_USED" 3
  c_MOST_PEOPLE : ConOk mg "MOST_PEOPLE" 8
  c_BEGIN : ConOk mg "BEGIN" 0
  c_RULE : ConOk mg "RULE" 1
  c_RERULE : ConOk mg "RERULE" 2
  c_ASK : ConOk mg "ASK" 3
  c_CHANGE : ConOk mg "CHANGE" 4
  c_YES : ConOk mg "YES" 5
  c_NO : ConOk mg "NO" 6
  c_WITHDRAW : ConOk mg "WITHDRAW" 7
  c_GRANT : ConOk mg "GRANT" 8
  c_HAND : ConOk mg "HAND" 9
  c_REVOKE : ConOk mg "REVOKE" 10
  c_USE : ConOk mg "USE" 11
  c_DO : ConOk mg "DO" 12
  c_COULD : ConOk mg "COULD" 13
  c_LACKS : ConOk mg "LACKS" 14
  c_COUNTS : ConOk mg "COUNTS" 15
  c_MAYSAY : ConOk mg "MAYSAY" 16
  c_CAN : ConOk mg "CAN" 17
  c_TICK : ConOk mg "TICK" 18
  c_LIVES : ConOk mg "LIVES" 19
  c_ROOM : ConOk mg "ROOM" 20
  c_ROOT : ConOk mg "ROOT" 21
  c_UNDER : ConOk mg "UNDER" 22
  c_CHAIN : ConOk mg "CHAIN" 23
  c_DRAWN : ConOk mg "DRAWN" 24
  c_LEFT : ConOk mg "LEFT" 25
  c_MOST : ConOk mg "MOST" 26
  c_SUM_OF : ConOk mg "SUM_OF" 27
  c_IFYES : ConOk mg "IFYES" 28
  c_LOG : ConOk mg "LOG" 29
  c_ASKED : ConOk mg "ASKED" 31
  c_GRANTIS : ConOk mg "GRANTIS" 32
  c_RULEIS : ConOk mg "RULEIS" 33
  c_TODAY : ConOk mg "TODAY" 34
  k_R : ClsOk K mg "Rule" "Rule.__init__" s_iR [("may" : Str), ("need" : Str), ("free" : Str), ("daily" : Str), ("lives" : Str)]
  k_A : ClsOk K mg "Asked" "Asked.__init__" s_iA [("asker" : Str), ("kind" : Str), ("number" : Str), ("amount" : Str), ("told" : Str), ("said" : Str), ("uses" : Str), ("stage" : Str)]
  k_S : ClsOk K mg "Standing" "Standing.__init__" s_iS [("kind" : Str), ("giver" : Str), ("holder" : Str), ("each" : Str), ("total" : Str), ("till" : Str), ("chain" : Str), ("taken_back" : Str)]
  k_D : ClsOk K mg "Deed" "Deed.__init__" s_iD [("asked" : Str), ("day" : Str), ("counted" : Str)]
  k_B : ClsOk K mg "Book" "Book.__init__" s_iB [("people" : Str), ("day" : Str), ("rules" : Str), ("asked" : Str), ("standing" : Str), ("deeds" : Str)]
  n_len : mg "len" = none
  n_max : mg "max" = none
  n_min : mg "min" = none
  n_range : mg "range" = none
  n_sorted : mg "sorted" = none
  q_L : TupOk K mg "LENGTHS" LEN
theorem all_ok {P : Program} {w : World} {K : PySem.W.Frag} {mg : Str → Option Value} {base : Heap} {f : Addr} {fd : FuncData} (Z : Facts K mg) (FF : Fun K "answers" "answers" s_answers f fd) : FnOk P w K mg base CX0 13 f fd ["calls"] (spAnswers K) := by
  obtain ⟨CR, fR, fdR, mR, kR, mkR, FR, nR⟩ := Z.k_R
  obtain ⟨CA, fA, fdA, mA, kA, mkA, FA, nA⟩ := Z.k_A
  obtain ⟨CS, fS, fdS, mS, kS, mkS, FS, nS⟩ := Z.k_S
  obtain ⟨CD, fD, fdD, mD, kD, mkD, FD, nD⟩ := Z.k_D
  obtain ⟨CB, fB, fdB, mB, kB, mkB, FB, nB⟩ := Z.k_B
  have T : TxG K mg ⟨CB, CR, CA, CS, CD⟩ := { kR := kR, nrM := nR _ (by simp), nrN := nR _ (by simp), nrF := nR _ (by simp), nrD := nR _ (by simp), nrL := nR _ (by simp), kA := kA, naA := nA _ (by simp), naK := nA _ (by simp), naN := nA _ (by simp), naM := nA _ (by simp), naT := nA _ (by simp), naS := nA _ (by simp), naU := nA _ (by simp), naG := nA _ (by simp), kS := kS, nsK := nS _ (by simp), nsG := nS _ (by simp), nsH := nS _ (by simp), nsE := nS _ (by simp), nsT := nS _ (by simp), nsL := nS _ (by simp), nsC := nS _ (by simp), nsB := nS _ (by simp), kD := kD, ndA := nD _ (by simp), ndD := nD _ (by simp), ndC := nD _ (by simp), kB := kB, nbP := nB _ (by simp), nbD := nB _ (by simp), nbR := nB _ (by simp), nbA := nB _ (by simp), nbS := nB _ (by simp), nbE := nB _ (by simp), m_len := Z.n_len, m_max := Z.n_max, m_min := Z.n_min, m_range := Z.n_range, m_sorted := Z.n_sorted, MOST_AMOUNT := Z.c_MOST_AMOUNT, OPEN := Z.c_OPEN, DONE := Z.c_DONE, REFUSED := Z.c_REFUSED, WITHDRAWN := Z.c_WITHDRAWN, NO_SUCH := Z.c_NO_SUCH, NOT_OPEN := Z.c_NOT_OPEN, TOO_OLD := Z.c_TOO_OLD, OTHER_NUMBERS := Z.c_OTHER_NUMBERS, NOT_BEGUN := Z.c_NOT_BEGUN, WRONG_PERSON := Z.c_WRONG_PERSON, NOT_ALLOWED := Z.c_NOT_ALLOWED, NOT_HOLDING := Z.c_NOT_HOLDING, MORE_THAN_IT_HAS := Z.c_MORE_THAN_IT_HAS, ALREADY := Z.c_ALREADY, WRONG_VALUE := Z.c_WRONG_VALUE, NO_MORE := Z.c_NO_MORE, MOST_ASKED := Z.c_MOST_ASKED, LONGEST_TICK := Z.c_LONGEST_TICK, MOST_KINDS := Z.c_MOST_KINDS, MOST_NEED := Z.c_MOST_NEED, LONGEST_LIFE := Z.c_LONGEST_LIFE, MOST_STANDING := Z.c_MOST_STANDING, MOST_USED := Z.c_MOST_USED, MOST_PEOPLE := Z.c_MOST_PEOPLE, BEGIN := Z.c_BEGIN, RULE := Z.c_RULE, RERULE := Z.c_RERULE, ASK := Z.c_ASK, CHANGE := Z.c_CHANGE, YES := Z.c_YES, NO := Z.c_NO, WITHDRAW := Z.c_WITHDRAW, GRANT := Z.c_GRANT, HAND := Z.c_HAND, REVOKE := Z.c_REVOKE, USE := Z.c_USE, DO := Z.c_DO, COULD := Z.c_COULD, LACKS := Z.c_LACKS, COUNTS := Z.c_COUNTS, MAYSAY := Z.c_MAYSAY, CAN := Z.c_CAN, TICK := Z.c_TICK, LIVES := Z.c_LIVES, ROOM := Z.c_ROOM, ROOT := Z.c_ROOT, UNDER := Z.c_UNDER, CHAIN := Z.c_CHAIN, DRAWN := Z.c_DRAWN, LEFT := Z.c_LEFT, MOST := Z.c_MOST, SUM_OF := Z.c_SUM_OF, IFYES := Z.c_IFYES, LOG := Z.c_LOG, ASKED := Z.c_ASKED, GRANTIS := Z.c_GRANTIS, RULEIS := Z.c_RULEIS, TODAY := Z.c_TODAY }
  have MR : MkG P w K mg base "Rule" (Cs.mk CB CR CA CS CD).cR 1 (sp_iR (Cs.mk CB CR CA CS CD).cR) := r_iR T FR mkR mR
  have MA : MkG P w K mg base "Asked" (Cs.mk CB CR CA CS CD).cA 1 (sp_iA (Cs.mk CB CR CA CS CD).cA) := r_iA T FA mkA mA
  have MS : MkG P w K mg base "Standing" (Cs.mk CB CR CA CS CD).cS 1 (sp_iS (Cs.mk CB CR CA CS CD).cS) := r_iS T FS mkS mS
  have MD : MkG P w K mg base "Deed" (Cs.mk CB CR CA CS CD).cD 1 (sp_iD (Cs.mk CB CR CA CS CD).cD) := r_iD T FD mkD mD
  have MB : MkG P w K mg base "Book" (Cs.mk CB CR CA CS CD).cB 1 (sp_iB (Cs.mk CB CR CA CS CD).cB) := r_iB T FB mkB mB
  have c_beneath := r_beneath (P := P) (w := w) (base := base) T Z.d_beneath 
  have c_under := r_under (P := P) (w := w) (base := base) T Z.d_under c_beneath
  have c_chain := r_chain (P := P) (w := w) (base := base) T Z.d_chain 
  have c_log := r_log (P := P) (w := w) (base := base) T Z.d_log 
  have c_askedis := r_askedis (P := P) (w := w) (base := base) T Z.d_askedis 
  have c_grantis := r_grantis (P := P) (w := w) (base := base) T Z.d_grantis 
  have c_ruleis := r_ruleis (P := P) (w := w) (base := base) T Z.d_ruleis 
  have c_several_numbers := r_several_numbers (P := P) (w := w) (base := base) T Z.d_several_numbers c_under c_chain c_log c_askedis c_grantis c_ruleis
  have c_is_set := r_is_set (P := P) (w := w) (base := base) T Z.d_is_set 
  have c_is_rule := r_is_rule (P := P) (w := w) (base := base) T Z.d_is_rule c_is_set
  have c_rule := r_rule (P := P) (w := w) (base := base) T Z.d_rule c_is_rule MR
  have c_rerule := r_rerule (P := P) (w := w) (base := base) T Z.d_rerule c_is_rule MR
  have c_answer_on_rules := r_answer_on_rules (P := P) (w := w) (base := base) T Z.d_answer_on_rules c_rule c_rerule
  have c_ask := r_ask (P := P) (w := w) (base := base) T Z.d_ask  MA
  have c_change := r_change (P := P) (w := w) (base := base) T Z.d_change  MA
  have c_too_old := r_too_old (P := P) (w := w) (base := base) T Z.d_too_old 
  have c_has := r_has (P := P) (w := w) (base := base) T Z.d_has 
  have c_refusal_of_yes := r_refusal_of_yes (P := P) (w := w) (base := base) T Z.d_refusal_of_yes c_too_old c_has
  have c_how_many := r_how_many (P := P) (w := w) (base := base) T Z.d_how_many 
  have c_yes := r_yes (P := P) (w := w) (base := base) T Z.d_yes c_refusal_of_yes c_how_many
  have c_no := r_no (P := P) (w := w) (base := base) T Z.d_no c_has
  have c_withdraw := r_withdraw (P := P) (w := w) (base := base) T Z.d_withdraw 
  have c_answer_on_asking := r_answer_on_asking (P := P) (w := w) (base := base) T Z.d_answer_on_asking c_ask c_change c_yes c_no c_withdraw
  have c_grant := r_grant (P := P) (w := w) (base := base) T Z.d_grant c_has MS
  have c_is_living := r_is_living (P := P) (w := w) (base := base) T Z.d_is_living 
  have c_hand := r_hand (P := P) (w := w) (base := base) T Z.d_hand c_is_living MS
  have c_revoke := r_revoke (P := P) (w := w) (base := base) T Z.d_revoke c_beneath c_is_living
  have c_use := r_use (P := P) (w := w) (base := base) T Z.d_use 
  have c_answer_on_standing := r_answer_on_standing (P := P) (w := w) (base := base) T Z.d_answer_on_standing c_grant c_hand c_revoke c_use
  have c_draws_on := r_draws_on (P := P) (w := w) (base := base) T Z.d_draws_on 
  have c_drawn_by := r_drawn_by (P := P) (w := w) (base := base) T Z.d_drawn_by c_draws_on
  have c_room_of := r_room_of (P := P) (w := w) (base := base) T Z.d_room_of c_is_living c_drawn_by
  have c_holds := r_holds (P := P) (w := w) (base := base) T Z.d_holds c_is_living c_room_of
  have c_how_many_must := r_how_many_must (P := P) (w := w) (base := base) T Z.d_how_many_must 
  have c_root_of := r_root_of (P := P) (w := w) (base := base) T Z.d_root_of 
  have c_who_count := r_who_count (P := P) (w := w) (base := base) T Z.d_who_count c_holds c_root_of
  have c_how_many_lack := r_how_many_lack (P := P) (w := w) (base := base) T Z.d_how_many_lack c_how_many_must c_how_many c_who_count
  have c_done_between := r_done_between (P := P) (w := w) (base := base) T Z.d_done_between 
  have c_left_today := r_left_today (P := P) (w := w) (base := base) T Z.d_left_today c_done_between
  have c_refusal_of_deed := r_refusal_of_deed (P := P) (w := w) (base := base) T Z.d_refusal_of_deed c_too_old c_holds c_how_many_lack c_left_today
  have c_could := r_could (P := P) (w := w) (base := base) T Z.d_could c_refusal_of_deed
  have c_do := r_do (P := P) (w := w) (base := base) T Z.d_do c_could c_who_count MD
  have c_lacks := r_lacks (P := P) (w := w) (base := base) T Z.d_lacks c_how_many_lack
  have c_counts := r_counts (P := P) (w := w) (base := base) T Z.d_counts c_who_count
  have c_may_still_say := r_may_still_say (P := P) (w := w) (base := base) T Z.d_may_still_say c_refusal_of_yes
  have c_maysay := r_maysay (P := P) (w := w) (base := base) T Z.d_maysay c_may_still_say
  have c_can := r_can (P := P) (w := w) (base := base) T Z.d_can c_too_old c_how_many_lack c_may_still_say
  have c_answer_on_deeds := r_answer_on_deeds (P := P) (w := w) (base := base) T Z.d_answer_on_deeds c_do c_could c_lacks c_counts c_maysay c_can
  have c_lives := r_lives (P := P) (w := w) (base := base) T Z.d_lives c_is_living
  have c_room := r_room (P := P) (w := w) (base := base) T Z.d_room c_room_of
  have c_root := r_root (P := P) (w := w) (base := base) T Z.d_root c_root_of
  have c_drawn := r_drawn (P := P) (w := w) (base := base) T Z.d_drawn c_drawn_by
  have c_answer_on_chains := r_answer_on_chains (P := P) (w := w) (base := base) T Z.d_answer_on_chains c_lives c_room c_root c_drawn
  have c_left := r_left (P := P) (w := w) (base := base) T Z.d_left c_left_today
  have c_sum_of := r_sum_of (P := P) (w := w) (base := base) T Z.d_sum_of c_done_between
  have c_done := r_done (P := P) (w := w) (base := base) T Z.d_done 
  have c_answer_on_the_past := r_answer_on_the_past (P := P) (w := w) (base := base) T Z.d_answer_on_the_past c_left c_sum_of c_done
  have c_tick := r_tick (P := P) (w := w) (base := base) T Z.d_tick 
  have c_most_from := r_most_from (P := P) (w := w) (base := base) T Z.d_most_from c_root_of c_room_of
  have c_most_by_standing := r_most_by_standing (P := P) (w := w) (base := base) T Z.d_most_by_standing c_has c_most_from
  have c_most := r_most (P := P) (w := w) (base := base) T Z.d_most c_most_by_standing c_left_today
  have c_ifyes := r_ifyes (P := P) (w := w) (base := base) T Z.d_ifyes c_is_set c_refusal_of_deed
  have c_today := r_today (P := P) (w := w) (base := base) T Z.d_today 
  have c_one_number := r_one_number (P := P) (w := w) (base := base) T Z.d_one_number c_answer_on_rules c_answer_on_asking c_answer_on_standing c_answer_on_deeds c_answer_on_chains c_answer_on_the_past c_tick c_most c_ifyes c_today
  have c_answer_of := r_answer_of (P := P) (w := w) (base := base) T Z.d_answer_of c_several_numbers c_one_number
  exact r_answers T FF c_answer_of MB Z.q_L
theorem top_ok {P : Program} {w : World} {K : PySem.W.Frag} {mg : Str → Option Value} {fa : Addr} (Z : Facts K mg) (hfa : mg "answers" = some (.ref fa)) :
    ∃ fd : FuncData, (∀ (s : Shared) (us : List Value), us.length = (["calls"] : List Str).length → BindsTo s fd ⟨us, []⟩ ((["calls"] : List Str).zip us)) ∧ ∀ base : Heap, K.In base → base.Ns mainGlobals mg → FnOk P w K mg base CX0 13 fa fd ["calls"] (spAnswers K) := by
  obtain ⟨f, fd, F, hm⟩ := Z.d_answers
  have e := hfa.symm.trans hm
  cases e
  refine ⟨fd, ?_, fun base _ _ => all_ok Z F⟩
  obtain ⟨⟨oc, od, kV, doc, pm, an, cdv, ct, osl, rfl, lk, hcd⟩, kp⟩ := F
  exact fun s us hu => match us, hu with | [_], _ => .of_eq rfl
end Jd
open PySem PySem.W PyProof.Rows
set_option maxHeartbeats 0 in
theorem PySem.Challenge.cw_justthisdeed_s01_answers_holds : PySem.Challenge.rw_justthisdeed_s01_answers.Holds := by
  w_on; k_headS; (case hw => exact ⟨[.list [.int 34]], by decide +kernel, by decide +kernel⟩)
  k_fillS
  refine L2.walk_specK (r := PySem.Challenge.rw_justthisdeed_s01_answers) (k := 13) (CX := L2.CX0) (ps := ["calls"]) (sp := Jd.spAnswers) (by decide +kernel) rfl rfl ⟨rfl, by decide, by decide⟩ (fun w h Y => PySem.W.kIn_of Y) ?F ?S (fun _ _ _ _ z => z)
  case F =>
    intro w mg fa h Y KX G hmg
    have d_beneath : Jd.DefOk (PySem.Challenge.cw_justthisdeed_s01_answers_holds.heap_1 w.params) mg "beneath" Jd.s_beneath := by
      refine' Jd.def_mk KX G ?a ?l ?c ?k
      (case a => k_is); (case l => k_is); (case c => k_is); (case k => k_is)
    have d_under : Jd.DefOk (PySem.Challenge.cw_justthisdeed_s01_answers_holds.heap_1 w.params) mg "under" Jd.s_under := by
      refine' Jd.def_mk KX G ?a ?l ?c ?k
      (case a => k_is); (case l => k_is); (case c => k_is); (case k => k_is)
    have d_chain : Jd.DefOk (PySem.Challenge.cw_justthisdeed_s01_answers_holds.heap_1 w.params) mg "chain" Jd.s_chain := by
      refine' Jd.def_mk KX G ?a ?l ?c ?k
      (case a => k_is); (case l => k_is); (case c => k_is); (case k => k_is)
    have d_log : Jd.DefOk (PySem.Challenge.cw_justthisdeed_s01_answers_holds.heap_1 w.params) mg "log" Jd.s_log := by
      refine' Jd.def_mk KX G ?a ?l ?c ?k
      (case a => k_is); (case l => k_is); (case c => k_is); (case k => k_is)
    have d_askedis : Jd.DefOk (PySem.Challenge.cw_justthisdeed_s01_answers_holds.heap_1 w.params) mg "askedis" Jd.s_askedis := by
      refine' Jd.def_mk KX G ?a ?l ?c ?k
      (case a => k_is); (case l => k_is); (case c => k_is); (case k => k_is)
    have d_grantis : Jd.DefOk (PySem.Challenge.cw_justthisdeed_s01_answers_holds.heap_1 w.params) mg "grantis" Jd.s_grantis := by
      refine' Jd.def_mk KX G ?a ?l ?c ?k
      (case a => k_is); (case l => k_is); (case c => k_is); (case k => k_is)
    have d_ruleis : Jd.DefOk (PySem.Challenge.cw_justthisdeed_s01_answers_holds.heap_1 w.params) mg "ruleis" Jd.s_ruleis := by
      refine' Jd.def_mk KX G ?a ?l ?c ?k
      (case a => k_is); (case l => k_is); (case c => k_is); (case k => k_is)
    have d_several_numbers : Jd.DefOk (PySem.Challenge.cw_justthisdeed_s01_answers_holds.heap_1 w.params) mg "several_numbers" Jd.s_several_numbers := by
      refine' Jd.def_mk KX G ?a ?l ?c ?k
      (case a => k_is); (case l => k_is); (case c => k_is); (case k => k_is)
    have d_is_set : Jd.DefOk (PySem.Challenge.cw_justthisdeed_s01_answers_holds.heap_1 w.params) mg "is_set" Jd.s_is_set := by
      refine' Jd.def_mk KX G ?a ?l ?c ?k
      (case a => k_is); (case l => k_is); (case c => k_is); (case k => k_is)
    have d_is_rule : Jd.DefOk (PySem.Challenge.cw_justthisdeed_s01_answers_holds.heap_1 w.params) mg "is_rule" Jd.s_is_rule := by
      refine' Jd.def_mk KX G ?a ?l ?c ?k
      (case a => k_is); (case l => k_is); (case c => k_is); (case k => k_is)
    have d_rule : Jd.DefOk (PySem.Challenge.cw_justthisdeed_s01_answers_holds.heap_1 w.params) mg "rule" Jd.s_rule := by
      refine' Jd.def_mk KX G ?a ?l ?c ?k
      (case a => k_is); (case l => k_is); (case c => k_is); (case k => k_is)
    have d_rerule : Jd.DefOk (PySem.Challenge.cw_justthisdeed_s01_answers_holds.heap_1 w.params) mg "rerule" Jd.s_rerule := by
      refine' Jd.def_mk KX G ?a ?l ?c ?k
      (case a => k_is); (case l => k_is); (case c => k_is); (case k => k_is)
    have d_answer_on_rules : Jd.DefOk (PySem.Challenge.cw_justthisdeed_s01_answers_holds.heap_1 w.params) mg "answer_on_rules" Jd.s_answer_on_rules := by
      refine' Jd.def_mk KX G ?a ?l ?c ?k
      (case a => k_is); (case l => k_is); (case c => k_is); (case k => k_is)
    have d_ask : Jd.DefOk (PySem.Challenge.cw_justthisdeed_s01_answers_holds.heap_1 w.params) mg "ask" Jd.s_ask := by
      refine' Jd.def_mk KX G ?a ?l ?c ?k
      (case a => k_is); (case l => k_is); (case c => k_is); (case k => k_is)
    have d_change : Jd.DefOk (PySem.Challenge.cw_justthisdeed_s01_answers_holds.heap_1 w.params) mg "change" Jd.s_change := by
      refine' Jd.def_mk KX G ?a ?l ?c ?k
      (case a => k_is); (case l => k_is); (case c => k_is); (case k => k_is)
    have d_too_old : Jd.DefOk (PySem.Challenge.cw_justthisdeed_s01_answers_holds.heap_1 w.params) mg "too_old" Jd.s_too_old := by
      refine' Jd.def_mk KX G ?a ?l ?c ?k
      (case a => k_is); (case l => k_is); (case c => k_is); (case k => k_is)
    have d_has : Jd.DefOk (PySem.Challenge.cw_justthisdeed_s01_answers_holds.heap_1 w.params) mg "has" Jd.s_has := by
      refine' Jd.def_mk KX G ?a ?l ?c ?k
      (case a => k_is); (case l => k_is); (case c => k_is); (case k => k_is)
    have d_refusal_of_yes : Jd.DefOk (PySem.Challenge.cw_justthisdeed_s01_answers_holds.heap_1 w.params) mg "refusal_of_yes" Jd.s_refusal_of_yes := by
      refine' Jd.def_mk KX G ?a ?l ?c ?k
      (case a => k_is); (case l => k_is); (case c => k_is); (case k => k_is)
    have d_how_many : Jd.DefOk (PySem.Challenge.cw_justthisdeed_s01_answers_holds.heap_1 w.params) mg "how_many" Jd.s_how_many := by
      refine' Jd.def_mk KX G ?a ?l ?c ?k
      (case a => k_is); (case l => k_is); (case c => k_is); (case k => k_is)
    have d_yes : Jd.DefOk (PySem.Challenge.cw_justthisdeed_s01_answers_holds.heap_1 w.params) mg "yes" Jd.s_yes := by
      refine' Jd.def_mk KX G ?a ?l ?c ?k
      (case a => k_is); (case l => k_is); (case c => k_is); (case k => k_is)
    have d_no : Jd.DefOk (PySem.Challenge.cw_justthisdeed_s01_answers_holds.heap_1 w.params) mg "no" Jd.s_no := by
      refine' Jd.def_mk KX G ?a ?l ?c ?k
      (case a => k_is); (case l => k_is); (case c => k_is); (case k => k_is)
    have d_withdraw : Jd.DefOk (PySem.Challenge.cw_justthisdeed_s01_answers_holds.heap_1 w.params) mg "withdraw" Jd.s_withdraw := by
      refine' Jd.def_mk KX G ?a ?l ?c ?k
      (case a => k_is); (case l => k_is); (case c => k_is); (case k => k_is)
    have d_answer_on_asking : Jd.DefOk (PySem.Challenge.cw_justthisdeed_s01_answers_holds.heap_1 w.params) mg "answer_on_asking" Jd.s_answer_on_asking := by
      refine' Jd.def_mk KX G ?a ?l ?c ?k
      (case a => k_is); (case l => k_is); (case c => k_is); (case k => k_is)
    have d_grant : Jd.DefOk (PySem.Challenge.cw_justthisdeed_s01_answers_holds.heap_1 w.params) mg "grant" Jd.s_grant := by
      refine' Jd.def_mk KX G ?a ?l ?c ?k
      (case a => k_is); (case l => k_is); (case c => k_is); (case k => k_is)
    have d_is_living : Jd.DefOk (PySem.Challenge.cw_justthisdeed_s01_answers_holds.heap_1 w.params) mg "is_living" Jd.s_is_living := by
      refine' Jd.def_mk KX G ?a ?l ?c ?k
      (case a => k_is); (case l => k_is); (case c => k_is); (case k => k_is)
    have d_hand : Jd.DefOk (PySem.Challenge.cw_justthisdeed_s01_answers_holds.heap_1 w.params) mg "hand" Jd.s_hand := by
      refine' Jd.def_mk KX G ?a ?l ?c ?k
      (case a => k_is); (case l => k_is); (case c => k_is); (case k => k_is)
    have d_revoke : Jd.DefOk (PySem.Challenge.cw_justthisdeed_s01_answers_holds.heap_1 w.params) mg "revoke" Jd.s_revoke := by
      refine' Jd.def_mk KX G ?a ?l ?c ?k
      (case a => k_is); (case l => k_is); (case c => k_is); (case k => k_is)
    have d_use : Jd.DefOk (PySem.Challenge.cw_justthisdeed_s01_answers_holds.heap_1 w.params) mg "use" Jd.s_use := by
      refine' Jd.def_mk KX G ?a ?l ?c ?k
      (case a => k_is); (case l => k_is); (case c => k_is); (case k => k_is)
    have d_answer_on_standing : Jd.DefOk (PySem.Challenge.cw_justthisdeed_s01_answers_holds.heap_1 w.params) mg "answer_on_standing" Jd.s_answer_on_standing := by
      refine' Jd.def_mk KX G ?a ?l ?c ?k
      (case a => k_is); (case l => k_is); (case c => k_is); (case k => k_is)
    have d_draws_on : Jd.DefOk (PySem.Challenge.cw_justthisdeed_s01_answers_holds.heap_1 w.params) mg "draws_on" Jd.s_draws_on := by
      refine' Jd.def_mk KX G ?a ?l ?c ?k
      (case a => k_is); (case l => k_is); (case c => k_is); (case k => k_is)
    have d_drawn_by : Jd.DefOk (PySem.Challenge.cw_justthisdeed_s01_answers_holds.heap_1 w.params) mg "drawn_by" Jd.s_drawn_by := by
      refine' Jd.def_mk KX G ?a ?l ?c ?k
      (case a => k_is); (case l => k_is); (case c => k_is); (case k => k_is)
    have d_room_of : Jd.DefOk (PySem.Challenge.cw_justthisdeed_s01_answers_holds.heap_1 w.params) mg "room_of" Jd.s_room_of := by
      refine' Jd.def_mk KX G ?a ?l ?c ?k
      (case a => k_is); (case l => k_is); (case c => k_is); (case k => k_is)
    have d_holds : Jd.DefOk (PySem.Challenge.cw_justthisdeed_s01_answers_holds.heap_1 w.params) mg "holds" Jd.s_holds := by
      refine' Jd.def_mk KX G ?a ?l ?c ?k
      (case a => k_is); (case l => k_is); (case c => k_is); (case k => k_is)
    have d_how_many_must : Jd.DefOk (PySem.Challenge.cw_justthisdeed_s01_answers_holds.heap_1 w.params) mg "how_many_must" Jd.s_how_many_must := by
      refine' Jd.def_mk KX G ?a ?l ?c ?k
      (case a => k_is); (case l => k_is); (case c => k_is); (case k => k_is)
    have d_root_of : Jd.DefOk (PySem.Challenge.cw_justthisdeed_s01_answers_holds.heap_1 w.params) mg "root_of" Jd.s_root_of := by
      refine' Jd.def_mk KX G ?a ?l ?c ?k
      (case a => k_is); (case l => k_is); (case c => k_is); (case k => k_is)
    have d_who_count : Jd.DefOk (PySem.Challenge.cw_justthisdeed_s01_answers_holds.heap_1 w.params) mg "who_count" Jd.s_who_count := by
      refine' Jd.def_mk KX G ?a ?l ?c ?k
      (case a => k_is); (case l => k_is); (case c => k_is); (case k => k_is)
    have d_how_many_lack : Jd.DefOk (PySem.Challenge.cw_justthisdeed_s01_answers_holds.heap_1 w.params) mg "how_many_lack" Jd.s_how_many_lack := by
      refine' Jd.def_mk KX G ?a ?l ?c ?k
      (case a => k_is); (case l => k_is); (case c => k_is); (case k => k_is)
    have d_done_between : Jd.DefOk (PySem.Challenge.cw_justthisdeed_s01_answers_holds.heap_1 w.params) mg "done_between" Jd.s_done_between := by
      refine' Jd.def_mk KX G ?a ?l ?c ?k
      (case a => k_is); (case l => k_is); (case c => k_is); (case k => k_is)
    have d_left_today : Jd.DefOk (PySem.Challenge.cw_justthisdeed_s01_answers_holds.heap_1 w.params) mg "left_today" Jd.s_left_today := by
      refine' Jd.def_mk KX G ?a ?l ?c ?k
      (case a => k_is); (case l => k_is); (case c => k_is); (case k => k_is)
    have d_refusal_of_deed : Jd.DefOk (PySem.Challenge.cw_justthisdeed_s01_answers_holds.heap_1 w.params) mg "refusal_of_deed" Jd.s_refusal_of_deed := by
      refine' Jd.def_mk KX G ?a ?l ?c ?k
      (case a => k_is); (case l => k_is); (case c => k_is); (case k => k_is)
    have d_could : Jd.DefOk (PySem.Challenge.cw_justthisdeed_s01_answers_holds.heap_1 w.params) mg "could" Jd.s_could := by
      refine' Jd.def_mk KX G ?a ?l ?c ?k
      (case a => k_is); (case l => k_is); (case c => k_is); (case k => k_is)
    have d_do : Jd.DefOk (PySem.Challenge.cw_justthisdeed_s01_answers_holds.heap_1 w.params) mg "do" Jd.s_do := by
      refine' Jd.def_mk KX G ?a ?l ?c ?k
      (case a => k_is); (case l => k_is); (case c => k_is); (case k => k_is)
    have d_lacks : Jd.DefOk (PySem.Challenge.cw_justthisdeed_s01_answers_holds.heap_1 w.params) mg "lacks" Jd.s_lacks := by
      refine' Jd.def_mk KX G ?a ?l ?c ?k
      (case a => k_is); (case l => k_is); (case c => k_is); (case k => k_is)
    have d_counts : Jd.DefOk (PySem.Challenge.cw_justthisdeed_s01_answers_holds.heap_1 w.params) mg "counts" Jd.s_counts := by
      refine' Jd.def_mk KX G ?a ?l ?c ?k
      (case a => k_is); (case l => k_is); (case c => k_is); (case k => k_is)
    have d_may_still_say : Jd.DefOk (PySem.Challenge.cw_justthisdeed_s01_answers_holds.heap_1 w.params) mg "may_still_say" Jd.s_may_still_say := by
      refine' Jd.def_mk KX G ?a ?l ?c ?k
      (case a => k_is); (case l => k_is); (case c => k_is); (case k => k_is)
    have d_maysay : Jd.DefOk (PySem.Challenge.cw_justthisdeed_s01_answers_holds.heap_1 w.params) mg "maysay" Jd.s_maysay := by
      refine' Jd.def_mk KX G ?a ?l ?c ?k
      (case a => k_is); (case l => k_is); (case c => k_is); (case k => k_is)
    have d_can : Jd.DefOk (PySem.Challenge.cw_justthisdeed_s01_answers_holds.heap_1 w.params) mg "can" Jd.s_can := by
      refine' Jd.def_mk KX G ?a ?l ?c ?k
      (case a => k_is); (case l => k_is); (case c => k_is); (case k => k_is)
    have d_answer_on_deeds : Jd.DefOk (PySem.Challenge.cw_justthisdeed_s01_answers_holds.heap_1 w.params) mg "answer_on_deeds" Jd.s_answer_on_deeds := by
      refine' Jd.def_mk KX G ?a ?l ?c ?k
      (case a => k_is); (case l => k_is); (case c => k_is); (case k => k_is)
    have d_lives : Jd.DefOk (PySem.Challenge.cw_justthisdeed_s01_answers_holds.heap_1 w.params) mg "lives" Jd.s_lives := by
      refine' Jd.def_mk KX G ?a ?l ?c ?k
      (case a => k_is); (case l => k_is); (case c => k_is); (case k => k_is)
    have d_room : Jd.DefOk (PySem.Challenge.cw_justthisdeed_s01_answers_holds.heap_1 w.params) mg "room" Jd.s_room := by
      refine' Jd.def_mk KX G ?a ?l ?c ?k
      (case a => k_is); (case l => k_is); (case c => k_is); (case k => k_is)
    have d_root : Jd.DefOk (PySem.Challenge.cw_justthisdeed_s01_answers_holds.heap_1 w.params) mg "root" Jd.s_root := by
      refine' Jd.def_mk KX G ?a ?l ?c ?k
      (case a => k_is); (case l => k_is); (case c => k_is); (case k => k_is)
    have d_drawn : Jd.DefOk (PySem.Challenge.cw_justthisdeed_s01_answers_holds.heap_1 w.params) mg "drawn" Jd.s_drawn := by
      refine' Jd.def_mk KX G ?a ?l ?c ?k
      (case a => k_is); (case l => k_is); (case c => k_is); (case k => k_is)
    have d_answer_on_chains : Jd.DefOk (PySem.Challenge.cw_justthisdeed_s01_answers_holds.heap_1 w.params) mg "answer_on_chains" Jd.s_answer_on_chains := by
      refine' Jd.def_mk KX G ?a ?l ?c ?k
      (case a => k_is); (case l => k_is); (case c => k_is); (case k => k_is)
    have d_left : Jd.DefOk (PySem.Challenge.cw_justthisdeed_s01_answers_holds.heap_1 w.params) mg "left" Jd.s_left := by
      refine' Jd.def_mk KX G ?a ?l ?c ?k
      (case a => k_is); (case l => k_is); (case c => k_is); (case k => k_is)
    have d_sum_of : Jd.DefOk (PySem.Challenge.cw_justthisdeed_s01_answers_holds.heap_1 w.params) mg "sum_of" Jd.s_sum_of := by
      refine' Jd.def_mk KX G ?a ?l ?c ?k
      (case a => k_is); (case l => k_is); (case c => k_is); (case k => k_is)
    have d_done : Jd.DefOk (PySem.Challenge.cw_justthisdeed_s01_answers_holds.heap_1 w.params) mg "done" Jd.s_done := by
      refine' Jd.def_mk KX G ?a ?l ?c ?k
      (case a => k_is); (case l => k_is); (case c => k_is); (case k => k_is)
    have d_answer_on_the_past : Jd.DefOk (PySem.Challenge.cw_justthisdeed_s01_answers_holds.heap_1 w.params) mg "answer_on_the_past" Jd.s_answer_on_the_past := by
      refine' Jd.def_mk KX G ?a ?l ?c ?k
      (case a => k_is); (case l => k_is); (case c => k_is); (case k => k_is)
    have d_tick : Jd.DefOk (PySem.Challenge.cw_justthisdeed_s01_answers_holds.heap_1 w.params) mg "tick" Jd.s_tick := by
      refine' Jd.def_mk KX G ?a ?l ?c ?k
      (case a => k_is); (case l => k_is); (case c => k_is); (case k => k_is)
    have d_most_from : Jd.DefOk (PySem.Challenge.cw_justthisdeed_s01_answers_holds.heap_1 w.params) mg "most_from" Jd.s_most_from := by
      refine' Jd.def_mk KX G ?a ?l ?c ?k
      (case a => k_is); (case l => k_is); (case c => k_is); (case k => k_is)
    have d_most_by_standing : Jd.DefOk (PySem.Challenge.cw_justthisdeed_s01_answers_holds.heap_1 w.params) mg "most_by_standing" Jd.s_most_by_standing := by
      refine' Jd.def_mk KX G ?a ?l ?c ?k
      (case a => k_is); (case l => k_is); (case c => k_is); (case k => k_is)
    have d_most : Jd.DefOk (PySem.Challenge.cw_justthisdeed_s01_answers_holds.heap_1 w.params) mg "most" Jd.s_most := by
      refine' Jd.def_mk KX G ?a ?l ?c ?k
      (case a => k_is); (case l => k_is); (case c => k_is); (case k => k_is)
    have d_ifyes : Jd.DefOk (PySem.Challenge.cw_justthisdeed_s01_answers_holds.heap_1 w.params) mg "ifyes" Jd.s_ifyes := by
      refine' Jd.def_mk KX G ?a ?l ?c ?k
      (case a => k_is); (case l => k_is); (case c => k_is); (case k => k_is)
    have d_today : Jd.DefOk (PySem.Challenge.cw_justthisdeed_s01_answers_holds.heap_1 w.params) mg "today" Jd.s_today := by
      refine' Jd.def_mk KX G ?a ?l ?c ?k
      (case a => k_is); (case l => k_is); (case c => k_is); (case k => k_is)
    have d_one_number : Jd.DefOk (PySem.Challenge.cw_justthisdeed_s01_answers_holds.heap_1 w.params) mg "one_number" Jd.s_one_number := by
      refine' Jd.def_mk KX G ?a ?l ?c ?k
      (case a => k_is); (case l => k_is); (case c => k_is); (case k => k_is)
    have d_answer_of : Jd.DefOk (PySem.Challenge.cw_justthisdeed_s01_answers_holds.heap_1 w.params) mg "answer_of" Jd.s_answer_of := by
      refine' Jd.def_mk KX G ?a ?l ?c ?k
      (case a => k_is); (case l => k_is); (case c => k_is); (case k => k_is)
    have d_answers : Jd.DefOk (PySem.Challenge.cw_justthisdeed_s01_answers_holds.heap_1 w.params) mg "answers" Jd.s_answers := by
      refine' Jd.def_mk KX G ?a ?l ?c ?k
      (case a => k_is); (case l => k_is); (case c => k_is); (case k => k_is)
    have c_MOST_AMOUNT : Jd.ConOk mg "MOST_AMOUNT" 1000000 := by
      refine' Jd.con_mk KX G ?a
      (case a => k_is)
    have c_OPEN : Jd.ConOk mg "OPEN" 0 := by
      refine' Jd.con_mk KX G ?a
      (case a => k_is)
    have c_DONE : Jd.ConOk mg "DONE" 1 := by
      refine' Jd.con_mk KX G ?a
      (case a => k_is)
    have c_REFUSED : Jd.ConOk mg "REFUSED" 2 := by
      refine' Jd.con_mk KX G ?a
      (case a => k_is)
    have c_WITHDRAWN : Jd.ConOk mg "WITHDRAWN" 3 := by
      refine' Jd.con_mk KX G ?a
      (case a => k_is)
    have c_NO_SUCH : Jd.ConOk mg "NO_SUCH" 2 := by
      refine' Jd.con_mk KX G ?a
      (case a => k_is)
    have c_NOT_OPEN : Jd.ConOk mg "NOT_OPEN" 6 := by
      refine' Jd.con_mk KX G ?a
      (case a => k_is)
    have c_TOO_OLD : Jd.ConOk mg "TOO_OLD" 8 := by
      refine' Jd.con_mk KX G ?a
      (case a => k_is)
    have c_OTHER_NUMBERS : Jd.ConOk mg "OTHER_NUMBERS" 9 := by
      refine' Jd.con_mk KX G ?a
      (case a => k_is)
    have c_NOT_BEGUN : Jd.ConOk mg "NOT_BEGUN" 11 := by
      refine' Jd.con_mk KX G ?a
      (case a => k_is)
    have c_WRONG_PERSON : Jd.ConOk mg "WRONG_PERSON" 12 := by
      refine' Jd.con_mk KX G ?a
      (case a => k_is)
    have c_NOT_ALLOWED : Jd.ConOk mg "NOT_ALLOWED" 13 := by
      refine' Jd.con_mk KX G ?a
      (case a => k_is)
    have c_NOT_HOLDING : Jd.ConOk mg "NOT_HOLDING" 14 := by
      refine' Jd.con_mk KX G ?a
      (case a => k_is)
    have c_MORE_THAN_IT_HAS : Jd.ConOk mg "MORE_THAN_IT_HAS" 15 := by
      refine' Jd.con_mk KX G ?a
      (case a => k_is)
    have c_ALREADY : Jd.ConOk mg "ALREADY" 17 := by
      refine' Jd.con_mk KX G ?a
      (case a => k_is)
    have c_WRONG_VALUE : Jd.ConOk mg "WRONG_VALUE" 22 := by
      refine' Jd.con_mk KX G ?a
      (case a => k_is)
    have c_NO_MORE : Jd.ConOk mg "NO_MORE" 28 := by
      refine' Jd.con_mk KX G ?a
      (case a => k_is)
    have c_MOST_ASKED : Jd.ConOk mg "MOST_ASKED" 12 := by
      refine' Jd.con_mk KX G ?a
      (case a => k_is)
    have c_LONGEST_TICK : Jd.ConOk mg "LONGEST_TICK" 30 := by
      refine' Jd.con_mk KX G ?a
      (case a => k_is)
    have c_MOST_KINDS : Jd.ConOk mg "MOST_KINDS" 4 := by
      refine' Jd.con_mk KX G ?a
      (case a => k_is)
    have c_MOST_NEED : Jd.ConOk mg "MOST_NEED" 3 := by
      refine' Jd.con_mk KX G ?a
      (case a => k_is)
    have c_LONGEST_LIFE : Jd.ConOk mg "LONGEST_LIFE" 30 := by
      refine' Jd.con_mk KX G ?a
      (case a => k_is)
    have c_MOST_STANDING : Jd.ConOk mg "MOST_STANDING" 10 := by
      refine' Jd.con_mk KX G ?a
      (case a => k_is)
    have c_MOST_USED : Jd.ConOk mg "MOST_USED" 3 := by
      refine' Jd.con_mk KX G ?a
      (case a => k_is)
    have c_MOST_PEOPLE : Jd.ConOk mg "MOST_PEOPLE" 8 := by
      refine' Jd.con_mk KX G ?a
      (case a => k_is)
    have c_BEGIN : Jd.ConOk mg "BEGIN" 0 := by
      refine' Jd.con_mk KX G ?a
      (case a => k_is)
    have c_RULE : Jd.ConOk mg "RULE" 1 := by
      refine' Jd.con_mk KX G ?a
      (case a => k_is)
    have c_RERULE : Jd.ConOk mg "RERULE" 2 := by
      refine' Jd.con_mk KX G ?a
      (case a => k_is)
    have c_ASK : Jd.ConOk mg "ASK" 3 := by
      refine' Jd.con_mk KX G ?a
      (case a => k_is)
    have c_CHANGE : Jd.ConOk mg "CHANGE" 4 := by
      refine' Jd.con_mk KX G ?a
      (case a => k_is)
    have c_YES : Jd.ConOk mg "YES" 5 := by
      refine' Jd.con_mk KX G ?a
      (case a => k_is)
    have c_NO : Jd.ConOk mg "NO" 6 := by
      refine' Jd.con_mk KX G ?a
      (case a => k_is)
    have c_WITHDRAW : Jd.ConOk mg "WITHDRAW" 7 := by
      refine' Jd.con_mk KX G ?a
      (case a => k_is)
    have c_GRANT : Jd.ConOk mg "GRANT" 8 := by
      refine' Jd.con_mk KX G ?a
      (case a => k_is)
    have c_HAND : Jd.ConOk mg "HAND" 9 := by
      refine' Jd.con_mk KX G ?a
      (case a => k_is)
    have c_REVOKE : Jd.ConOk mg "REVOKE" 10 := by
      refine' Jd.con_mk KX G ?a
      (case a => k_is)
    have c_USE : Jd.ConOk mg "USE" 11 := by
      refine' Jd.con_mk KX G ?a
      (case a => k_is)
    have c_DO : Jd.ConOk mg "DO" 12 := by
      refine' Jd.con_mk KX G ?a
      (case a => k_is)
    have c_COULD : Jd.ConOk mg "COULD" 13 := by
      refine' Jd.con_mk KX G ?a
      (case a => k_is)
    have c_LACKS : Jd.ConOk mg "LACKS" 14 := by
      refine' Jd.con_mk KX G ?a
      (case a => k_is)
    have c_COUNTS : Jd.ConOk mg "COUNTS" 15 := by
      refine' Jd.con_mk KX G ?a
      (case a => k_is)
    have c_MAYSAY : Jd.ConOk mg "MAYSAY" 16 := by
      refine' Jd.con_mk KX G ?a
      (case a => k_is)
    have c_CAN : Jd.ConOk mg "CAN" 17 := by
      refine' Jd.con_mk KX G ?a
      (case a => k_is)
    have c_TICK : Jd.ConOk mg "TICK" 18 := by
      refine' Jd.con_mk KX G ?a
      (case a => k_is)
    have c_LIVES : Jd.ConOk mg "LIVES" 19 := by
      refine' Jd.con_mk KX G ?a
      (case a => k_is)
    have c_ROOM : Jd.ConOk mg "ROOM" 20 := by
      refine' Jd.con_mk KX G ?a
      (case a => k_is)
    have c_ROOT : Jd.ConOk mg "ROOT" 21 := by
      refine' Jd.con_mk KX G ?a
      (case a => k_is)
    have c_UNDER : Jd.ConOk mg "UNDER" 22 := by
      refine' Jd.con_mk KX G ?a
      (case a => k_is)
    have c_CHAIN : Jd.ConOk mg "CHAIN" 23 := by
      refine' Jd.con_mk KX G ?a
      (case a => k_is)
    have c_DRAWN : Jd.ConOk mg "DRAWN" 24 := by
      refine' Jd.con_mk KX G ?a
      (case a => k_is)
    have c_LEFT : Jd.ConOk mg "LEFT" 25 := by
      refine' Jd.con_mk KX G ?a
      (case a => k_is)
    have c_MOST : Jd.ConOk mg "MOST" 26 := by
      refine' Jd.con_mk KX G ?a
      (case a => k_is)
    have c_SUM_OF : Jd.ConOk mg "SUM_OF" 27 := by
      refine' Jd.con_mk KX G ?a
      (case a => k_is)
    have c_IFYES : Jd.ConOk mg "IFYES" 28 := by
      refine' Jd.con_mk KX G ?a
      (case a => k_is)
    have c_LOG : Jd.ConOk mg "LOG" 29 := by
      refine' Jd.con_mk KX G ?a
      (case a => k_is)
    have c_ASKED : Jd.ConOk mg "ASKED" 31 := by
      refine' Jd.con_mk KX G ?a
      (case a => k_is)
    have c_GRANTIS : Jd.ConOk mg "GRANTIS" 32 := by
      refine' Jd.con_mk KX G ?a
      (case a => k_is)
    have c_RULEIS : Jd.ConOk mg "RULEIS" 33 := by
      refine' Jd.con_mk KX G ?a
      (case a => k_is)
    have c_TODAY : Jd.ConOk mg "TODAY" 34 := by
      refine' Jd.con_mk KX G ?a
      (case a => k_is)
    have k_R : Jd.ClsOk (PySem.Challenge.cw_justthisdeed_s01_answers_holds.heap_1 w.params) mg "Rule" "Rule.__init__" Jd.s_iR [("may" : Str), ("need" : Str), ("free" : Str), ("daily" : Str), ("lives" : Str)] := by
      refine' Jd.cls_mk KX G ?aC ?a ?i ?l ?c ?k ?pg ?hd ?po ?sa ?mk ?kc ?n
      (case aC => k_is); (case a => k_is); (case i => k_is); (case l => k_is); (case c => k_is); (case k => k_is); (case pg => k_is); (case hd => k_is); (case po => k_is); (case sa => k_is); (case mk => k_is); (case kc => k_is)
      case n =>
        intro y hy
        simp only [List.mem_cons, List.not_mem_nil, or_false] at hy
        rcases hy with rfl | rfl | rfl | rfl | rfl <;> k_is
    have k_A : Jd.ClsOk (PySem.Challenge.cw_justthisdeed_s01_answers_holds.heap_1 w.params) mg "Asked" "Asked.__init__" Jd.s_iA [("asker" : Str), ("kind" : Str), ("number" : Str), ("amount" : Str), ("told" : Str), ("said" : Str), ("uses" : Str), ("stage" : Str)] := by
      refine' Jd.cls_mk KX G ?aC ?a ?i ?l ?c ?k ?pg ?hd ?po ?sa ?mk ?kc ?n
      (case aC => k_is); (case a => k_is); (case i => k_is); (case l => k_is); (case c => k_is); (case k => k_is); (case pg => k_is); (case hd => k_is); (case po => k_is); (case sa => k_is); (case mk => k_is); (case kc => k_is)
      case n =>
        intro y hy
        simp only [List.mem_cons, List.not_mem_nil, or_false] at hy
        rcases hy with rfl | rfl | rfl | rfl | rfl | rfl | rfl | rfl <;> k_is
    have k_S : Jd.ClsOk (PySem.Challenge.cw_justthisdeed_s01_answers_holds.heap_1 w.params) mg "Standing" "Standing.__init__" Jd.s_iS [("kind" : Str), ("giver" : Str), ("holder" : Str), ("each" : Str), ("total" : Str), ("till" : Str), ("chain" : Str), ("taken_back" : Str)] := by
      refine' Jd.cls_mk KX G ?aC ?a ?i ?l ?c ?k ?pg ?hd ?po ?sa ?mk ?kc ?n
      (case aC => k_is); (case a => k_is); (case i => k_is); (case l => k_is); (case c => k_is); (case k => k_is); (case pg => k_is); (case hd => k_is); (case po => k_is); (case sa => k_is); (case mk => k_is); (case kc => k_is)
      case n =>
        intro y hy
        simp only [List.mem_cons, List.not_mem_nil, or_false] at hy
        rcases hy with rfl | rfl | rfl | rfl | rfl | rfl | rfl | rfl <;> k_is
    have k_D : Jd.ClsOk (PySem.Challenge.cw_justthisdeed_s01_answers_holds.heap_1 w.params) mg "Deed" "Deed.__init__" Jd.s_iD [("asked" : Str), ("day" : Str), ("counted" : Str)] := by
      refine' Jd.cls_mk KX G ?aC ?a ?i ?l ?c ?k ?pg ?hd ?po ?sa ?mk ?kc ?n
      (case aC => k_is); (case a => k_is); (case i => k_is); (case l => k_is); (case c => k_is); (case k => k_is); (case pg => k_is); (case hd => k_is); (case po => k_is); (case sa => k_is); (case mk => k_is); (case kc => k_is)
      case n =>
        intro y hy
        simp only [List.mem_cons, List.not_mem_nil, or_false] at hy
        rcases hy with rfl | rfl | rfl <;> k_is
    have k_B : Jd.ClsOk (PySem.Challenge.cw_justthisdeed_s01_answers_holds.heap_1 w.params) mg "Book" "Book.__init__" Jd.s_iB [("people" : Str), ("day" : Str), ("rules" : Str), ("asked" : Str), ("standing" : Str), ("deeds" : Str)] := by
      refine' Jd.cls_mk KX G ?aC ?a ?i ?l ?c ?k ?pg ?hd ?po ?sa ?mk ?kc ?n
      (case aC => k_is); (case a => k_is); (case i => k_is); (case l => k_is); (case c => k_is); (case k => k_is); (case pg => k_is); (case hd => k_is); (case po => k_is); (case sa => k_is); (case mk => k_is); (case kc => k_is)
      case n =>
        intro y hy
        simp only [List.mem_cons, List.not_mem_nil, or_false] at hy
        rcases hy with rfl | rfl | rfl | rfl | rfl | rfl <;> k_is
    have n_len : mg "len" = none := by
      refine' Jd.non_mk KX G ?a
      (case a => k_is)
    have n_max : mg "max" = none := by
      refine' Jd.non_mk KX G ?a
      (case a => k_is)
    have n_min : mg "min" = none := by
      refine' Jd.non_mk KX G ?a
      (case a => k_is)
    have n_range : mg "range" = none := by
      refine' Jd.non_mk KX G ?a
      (case a => k_is)
    have n_sorted : mg "sorted" = none := by
      refine' Jd.non_mk KX G ?a
      (case a => k_is)
    have q_L : Jd.TupOk (PySem.Challenge.cw_justthisdeed_s01_answers_holds.heap_1 w.params) mg "LENGTHS" Jd.LEN := by
      refine' Jd.tup_mk KX G ?a ?l ?z ?v
      (case a => k_is); (case l => k_is); (case z => decide)
      (case v => exact Jd.vals_abs rfl)
    exact Jd.top_ok { d_beneath := d_beneath, d_under := d_under, d_chain := d_chain, d_log := d_log, d_askedis := d_askedis, d_grantis := d_grantis, d_ruleis := d_ruleis, d_several_numbers := d_several_numbers, d_is_set := d_is_set, d_is_rule := d_is_rule, d_rule := d_rule, d_rerule := d_rerule, d_answer_on_rules := d_answer_on_rules, d_ask := d_ask, d_change := d_change, d_too_old := d_too_old, d_has := d_has, d_refusal_of_yes := d_refusal_of_yes, d_how_many := d_how_many, d_yes := d_yes, d_no := d_no, d_withdraw := d_withdraw, d_answer_on_asking := d_answer_on_asking, d_grant := d_grant, d_is_living := d_is_living, d_hand := d_hand, d_revoke := d_revoke, d_use := d_use, d_answer_on_standing := d_answer_on_standing, d_draws_on := d_draws_on, d_drawn_by := d_drawn_by, d_room_of := d_room_of, d_holds := d_holds, d_how_many_must := d_how_many_must, d_root_of := d_root_of, d_who_count := d_who_count, d_how_many_lack := d_how_many_lack, d_done_between := d_done_between, d_left_today := d_left_today, d_refusal_of_deed := d_refusal_of_deed, d_could := d_could, d_do := d_do, d_lacks := d_lacks, d_counts := d_counts, d_may_still_say := d_may_still_say, d_maysay := d_maysay, d_can := d_can, d_answer_on_deeds := d_answer_on_deeds, d_lives := d_lives, d_room := d_room, d_root := d_root, d_drawn := d_drawn, d_answer_on_chains := d_answer_on_chains, d_left := d_left, d_sum_of := d_sum_of, d_done := d_done, d_answer_on_the_past := d_answer_on_the_past, d_tick := d_tick, d_most_from := d_most_from, d_most_by_standing := d_most_by_standing, d_most := d_most, d_ifyes := d_ifyes, d_today := d_today, d_one_number := d_one_number, d_answer_of := d_answer_of, d_answers := d_answers, c_MOST_AMOUNT := c_MOST_AMOUNT, c_OPEN := c_OPEN, c_DONE := c_DONE, c_REFUSED := c_REFUSED, c_WITHDRAWN := c_WITHDRAWN, c_NO_SUCH := c_NO_SUCH, c_NOT_OPEN := c_NOT_OPEN, c_TOO_OLD := c_TOO_OLD, c_OTHER_NUMBERS := c_OTHER_NUMBERS, c_NOT_BEGUN := c_NOT_BEGUN, c_WRONG_PERSON := c_WRONG_PERSON, c_NOT_ALLOWED := c_NOT_ALLOWED, c_NOT_HOLDING := c_NOT_HOLDING, c_MORE_THAN_IT_HAS := c_MORE_THAN_IT_HAS, c_ALREADY := c_ALREADY, c_WRONG_VALUE := c_WRONG_VALUE, c_NO_MORE := c_NO_MORE, c_MOST_ASKED := c_MOST_ASKED, c_LONGEST_TICK := c_LONGEST_TICK, c_MOST_KINDS := c_MOST_KINDS, c_MOST_NEED := c_MOST_NEED, c_LONGEST_LIFE := c_LONGEST_LIFE, c_MOST_STANDING := c_MOST_STANDING, c_MOST_USED := c_MOST_USED, c_MOST_PEOPLE := c_MOST_PEOPLE, c_BEGIN := c_BEGIN, c_RULE := c_RULE, c_RERULE := c_RERULE, c_ASK := c_ASK, c_CHANGE := c_CHANGE, c_YES := c_YES, c_NO := c_NO, c_WITHDRAW := c_WITHDRAW, c_GRANT := c_GRANT, c_HAND := c_HAND, c_REVOKE := c_REVOKE, c_USE := c_USE, c_DO := c_DO, c_COULD := c_COULD, c_LACKS := c_LACKS, c_COUNTS := c_COUNTS, c_MAYSAY := c_MAYSAY, c_CAN := c_CAN, c_TICK := c_TICK, c_LIVES := c_LIVES, c_ROOM := c_ROOM, c_ROOT := c_ROOT, c_UNDER := c_UNDER, c_CHAIN := c_CHAIN, c_DRAWN := c_DRAWN, c_LEFT := c_LEFT, c_MOST := c_MOST, c_SUM_OF := c_SUM_OF, c_IFYES := c_IFYES, c_LOG := c_LOG, c_ASKED := c_ASKED, c_GRANTIS := c_GRANTIS, c_RULEIS := c_RULEIS, c_TODAY := c_TODAY, k_R := k_R, k_A := k_A, k_S := k_S, k_D := k_D, k_B := k_B, n_len := n_len, n_max := n_max, n_min := n_min, n_range := n_range, n_sorted := n_sorted, q_L := q_L } hmg
  case S =>
    intro K H xs a hO hwi hask hx
    cases hx with
    | cons h1 h2 =>
      cases h2
      cases h1 with
      | lst hs ha =>
        have e := L2.ints_dw a.1 _ ha
        subst e
        exact ⟨_, a.1, rfl, hs, hask, fun p H' _ hp => .lst (L2.SqL.of hp) (L2.dw_ints _)⟩
#print axioms PySem.Challenge.cw_justthisdeed_s01_answers_holds
