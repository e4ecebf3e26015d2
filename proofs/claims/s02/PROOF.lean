import PyProof.Rows.All
import Wide.All
import OpenK.AllK
import Wide.FinOn
import Open.SpecLaws
import KE.OsGo
import HandS.ForSpec
import HandS.Iter
import HandS.Zip
import PySem.Challenge.RW_stepdigits_s02_index_of
set_option Elab.async false
set_option linter.all false
set_option maxRecDepth 100000
set_option maxHeartbeats 2000000
namespace My
open Ks609

/-- the whole numbers of a list of numbers -/
def nums (rs : List Nat) : List Int := rs.map fun n : Nat => (n : Int)

theorem nums_of : ∀ (ns : List Int), (∀ x ∈ ns, 0 ≤ x) → ∃ rs : List Nat, ns = nums rs
  | [], _ => ⟨[], rfl⟩
  | x :: r, h => by
    obtain ⟨rs, e⟩ := nums_of r fun y hy => h y (List.mem_cons_of_mem _ hy)
    have hx : 0 ≤ x := h x List.mem_cons_self
    refine ⟨x.toNat :: rs, ?_⟩
    rw [e]
    show _ = ((x.toNat : Nat) : Int) :: nums rs
    rw [Int.toNat_of_nonneg hx]

theorem nums_back : ∀ rs : List Nat, (nums rs).map Int.toNat = rs
  | [] => rfl
  | x :: r => by
    show ((x : Int)).toNat :: (nums r).map Int.toNat = x :: r
    rw [nums_back r, Int.toNat_natCast]

theorem nums_len (rs : List Nat) : (nums rs).length = rs.length := List.length_map _

/-! ### radices -/
def Good (rs : List Nat) : Prop := ∀ x ∈ rs, 1 ≤ x ∧ x ≤ 6

theorem valid_iff (rs : List Nat) : areValidRadices rs = true ↔ 1 ≤ rs.length ∧ rs.length ≤ 5 ∧ Good rs := by
  unfold areValidRadices Good maxDigits
  rw [Bool.and_eq_true, Bool.and_eq_true, decide_eq_true_eq, decide_eq_true_eq, List.all_eq_true, and_assoc]
  simp only [Bool.and_eq_true, decide_eq_true_eq]

theorem Good.tail {r : Nat} {rs : List Nat} (h : Good (r :: rs)) : Good rs := fun x hx => h x (List.mem_cons_of_mem _ hx)
theorem Good.head {r : Nat} {rs : List Nat} (h : Good (r :: rs)) : 1 ≤ r ∧ r ≤ 6 := h r List.mem_cons_self
theorem Good.drop {rs : List Nat} (h : Good rs) (i : Nat) : Good (rs.drop i) := fun x hx => h x (List.mem_of_mem_drop hx)

theorem size_from : ∀ (rs : List Nat) (a : Nat), rs.foldl (· * ·) a = a * size rs
  | [], a => (Nat.mul_one a).symm
  | r :: rs, a => by
    show rs.foldl (· * ·) (a * r) = a * (rs.foldl (· * ·) (1 * r))
    rw [size_from rs (a * r), size_from rs (1 * r), Nat.one_mul, Nat.mul_assoc]

theorem size_cons (r : Nat) (rs : List Nat) : size (r :: rs) = r * size rs := by
  show rs.foldl (· * ·) (1 * r) = _
  rw [size_from, Nat.one_mul]

theorem size_take {rs : List Nat} {i x : Nat} (h : rs[i]? = some x) : size (rs.take (i + 1)) = size (rs.take i) * x := by
  rw [List.take_add_one, h]
  show (rs.take i ++ [x]).foldl (· * ·) 1 = _
  rw [List.foldl_append]
  rfl

theorem size_pos : ∀ {rs : List Nat}, Good rs → 0 < size rs
  | [], _ => Nat.one_pos
  | r :: rs, h => by
    rw [size_cons]
    exact Nat.mul_pos h.head.1 (size_pos h.tail)

theorem size_le : ∀ {rs : List Nat}, Good rs → size rs ≤ 6 ^ rs.length
  | [], _ => Nat.le_refl 1
  | r :: rs, h => by
    rw [size_cons, List.length_cons, Nat.pow_succ, Nat.mul_comm (6 ^ rs.length)]
    exact Nat.mul_le_mul h.head.2 (size_le h.tail)

theorem size_small {rs : List Nat} (h : Good rs) (hl : rs.length ≤ 5) : size rs ≤ 7776 :=
  Nat.le_trans (size_le h) (Nat.pow_le_pow_right (by decide) hl)

theorem drop_cons {rs : List Nat} {i x : Nat} (h : rs[i]? = some x) : rs.drop i = x :: rs.drop (i + 1) := by
  obtain ⟨hi, e⟩ := List.getElem?_eq_some_iff.mp h
  rw [List.drop_eq_getElem_cons hi, e]

/-! ### an element's digits -/
/-- the place in the group behind a digit -/
def inner (digit inner place : Nat) : Nat := if digit % 2 = 0 then place else inner - 1 - place

theorem elementAt_cons (r : Nat) (rs : List Nat) (p : Nat) :
    elementAt (r :: rs) p = (p / size rs) :: elementAt rs (inner (p / size rs) (size rs) (p % size rs)) := rfl

theorem inner_lt {d g p : Nat} (h : p < g) : inner d g p < g := by
  unfold inner
  split <;> omega

theorem elementAt_len : ∀ (rs : List Nat) (p : Nat), (elementAt rs p).length = rs.length
  | [], _ => rfl
  | r :: rs, p => by
    rw [elementAt_cons, List.length_cons, List.length_cons, elementAt_len rs]

/-! ### an element's index -/
theorem indexOf_cons (r : Nat) (rs : List Nat) (d : Nat) (ds : List Nat) :
    indexOf (r :: rs) (d :: ds) = d * size rs + inner d (size rs) (indexOf rs ds) := rfl

/-- digit for digit below its radix -/
def Elem : List Nat → List Nat → Prop
  | [], [] => True
  | r :: rs, d :: ds => d < r ∧ Elem rs ds
  | _, _ => False

theorem elem_iff : ∀ (rs ds : List Nat), isElement rs ds = true ↔ Elem rs ds
  | [], [] => ⟨fun _ => trivial, fun _ => rfl⟩
  | [], d :: ds => by
    refine ⟨fun h => ?_, fun h => h.elim⟩
    simp [isElement] at h
  | r :: rs, [] => by
    refine ⟨fun h => ?_, fun h => h.elim⟩
    simp [isElement] at h
  | r :: rs, d :: ds => by
    have ih := elem_iff rs ds
    show _ ↔ d < r ∧ Elem rs ds
    rw [← ih]
    unfold isElement
    simp only [List.zip_cons_cons, List.all_cons, List.length_cons, Bool.and_eq_true, decide_eq_true_eq, beq_iff_eq, Nat.add_right_cancel_iff]
    exact ⟨fun ⟨a, b, c⟩ => ⟨b, a, c⟩, fun ⟨b, a, c⟩ => ⟨a, b, c⟩⟩

theorem Elem.len : ∀ {rs ds : List Nat}, Elem rs ds → ds.length = rs.length
  | [], [], _ => rfl
  | [], _ :: _, h => h.elim
  | _ :: _, [], h => h.elim
  | r :: rs, d :: ds, h => by
    rw [List.length_cons, List.length_cons, Elem.len h.2]

theorem Elem.drop : ∀ {rs ds : List Nat} (_ : Elem rs ds) (i : Nat), Elem (rs.drop i) (ds.drop i)
  | [], [], h, i => by
    rw [List.drop_nil]
    exact h
  | [], _ :: _, h, _ => h.elim
  | _ :: _, [], h, _ => h.elim
  | r :: rs, d :: ds, h, 0 => h
  | r :: rs, d :: ds, h, i + 1 => Elem.drop h.2 i

theorem Elem.at : ∀ {rs ds : List Nat} (_ : Elem rs ds) {i r d : Nat}, rs[i]? = some r → ds[i]? = some d → d < r
  | [], [], _, _, _, _, hr, _ => by simp at hr
  | [], _ :: _, h, _, _, _, _, _ => h.elim
  | _ :: _, [], h, _, _, _, _, _ => h.elim
  | r :: rs, d :: ds, h, 0, r', d', hr, hd => by
    have e1 : r = r' := Option.some.inj hr
    have e2 : d = d' := Option.some.inj hd
    subst e1 e2
    exact h.1
  | r :: rs, d :: ds, h, i + 1, r', d', hr, hd => Elem.at h.2 (i := i) hr hd

theorem elem_of : ∀ {rs ds : List Nat}, ds.length = rs.length → (∀ (i r d : Nat), rs[i]? = some r → ds[i]? = some d → d < r) → Elem rs ds
  | [], [], _, _ => trivial
  | [], _ :: _, h, _ => by cases h
  | _ :: _, [], h, _ => by cases h
  | r :: rs, d :: ds, h, q => ⟨q 0 r d rfl rfl, elem_of (Nat.succ.inj h) fun i r' d' h1 h2 => q (i + 1) r' d' h1 h2⟩

theorem indexOf_lt : ∀ {rs ds : List Nat}, Elem rs ds → indexOf rs ds < size rs
  | [], [], _ => Nat.one_pos
  | [], _ :: _, h => h.elim
  | _ :: _, [], h => h.elim
  | r :: rs, d :: ds, h => by
    have ih := inner_lt (d := d) (indexOf_lt h.2)
    rw [indexOf_cons, size_cons]
    calc d * size rs + inner d (size rs) (indexOf rs ds) < d * size rs + size rs := Nat.add_lt_add_left ih _
      _ = (d + 1) * size rs := by rw [Nat.add_mul, Nat.one_mul]
      _ ≤ r * size rs := Nat.mul_le_mul_right _ h.1

/-! ### what is due -/
theorem due_at (i : Nat) (rs : List Nat) : PyKs609.element_at (i : Int) (nums rs) =
    if areValidRadices rs = true then (if size rs ≤ i then [-33] else (rs.length : Int) :: nums (elementAt rs i)) else [-22] := by
  show Ks609Neutral.integers (Ks609.answer (.elementAt ((i : Int)).toNat ((nums rs).map Int.toNat))) = _
  rw [nums_back, Int.toNat_natCast]
  unfold Ks609.answer withRadices
  dsimp only
  split
  · split
    · rfl
    · rfl
  · rfl

theorem due_of (rs ds : List Nat) : PyKs609.index_of (nums rs) (nums ds) =
    if areValidRadices rs = true then (if isElement rs ds = true then [(indexOf rs ds : Int)] else [-22]) else [-22] := by
  show Ks609Neutral.integers (Ks609.answer (.indexOf ((nums rs).map Int.toNat) ((nums ds).map Int.toNat))) = _
  rw [nums_back, nums_back]
  unfold Ks609.answer withRadices
  dsimp only
  split
  · by_cases h : isElement rs ds = true
    · rw [if_pos h, if_neg (by rw [h]; decide)]
      rfl
    · rw [if_neg h, if_pos (by simpa using h)]
      rfl
  · rfl
end My
namespace My
open Ks609

/-! ### the two ways between index and element -/
theorem elementAt_elem : ∀ {rs : List Nat}, Good rs → ∀ {p : Nat}, p < size rs → Elem rs (elementAt rs p)
  | [], _, _, _ => trivial
  | r :: rs, h, p, hp => by
    have hz := size_pos h.tail
    rw [size_cons] at hp
    rw [elementAt_cons]
    exact ⟨(Nat.div_lt_iff_lt_mul hz).mpr hp, elementAt_elem h.tail (inner_lt (Nat.mod_lt _ hz))⟩

theorem inner_inner {d g p : Nat} (h : p < g) : inner d g (inner d g p) = p := by
  unfold inner
  split <;> omega

theorem indexOf_elementAt : ∀ {rs : List Nat}, Good rs → ∀ {p : Nat}, p < size rs → indexOf rs (elementAt rs p) = p
  | [], _, p, hp => by
    have z : size [] = 1 := rfl
    have e : p = 0 := by omega
    rw [e]
    rfl
  | r :: rs, h, p, hp => by
    have hz := size_pos h.tail
    rw [elementAt_cons, indexOf_cons, indexOf_elementAt h.tail (inner_lt (Nat.mod_lt _ hz)), inner_inner (Nat.mod_lt _ hz), Nat.mul_comm]
    exact Nat.div_add_mod p (size rs)

theorem elementAt_indexOf : ∀ {rs ds : List Nat}, Elem rs ds → elementAt rs (indexOf rs ds) = ds
  | [], [], _ => rfl
  | [], _ :: _, h => h.elim
  | _ :: _, [], h => h.elim
  | r :: rs, d :: ds, h => by
    have hl := indexOf_lt h.2
    have hi := inner_lt (d := d) hl
    have hz : 0 < size rs := by omega
    have e1 : (d * size rs + inner d (size rs) (indexOf rs ds)) / size rs = d := by
      rw [Nat.add_comm, Nat.add_mul_div_right _ _ hz, Nat.div_eq_of_lt hi, Nat.zero_add]
    have e2 : (d * size rs + inner d (size rs) (indexOf rs ds)) % size rs = inner d (size rs) (indexOf rs ds) := by
      rw [Nat.add_comm, Nat.add_mul_mod_self_right, Nat.mod_eq_of_lt hi]
    rw [indexOf_cons, elementAt_cons, e1, e2, inner_inner hl, elementAt_indexOf h.2]

/-! ### the first and the last -/
theorem elementAt_zero : ∀ {rs : List Nat}, elementAt rs 0 = List.replicate rs.length 0
  | [] => rfl
  | r :: rs => by
    rw [elementAt_cons, Nat.zero_div, Nat.zero_mod, List.length_cons, List.replicate_succ]
    have e : inner 0 (size rs) 0 = 0 := rfl
    rw [e, elementAt_zero]

/-- the last one, digit by digit -/
def lastOf : List Nat → List Nat
  | [] => []
  | r :: rs => (r - 1) :: (if (r - 1) % 2 = 0 then lastOf rs else List.replicate rs.length 0)

theorem elementAt_last : ∀ {rs : List Nat}, Good rs → elementAt rs (size rs - 1) = lastOf rs
  | [], _ => rfl
  | r :: rs, h => by
    have hz := size_pos h.tail
    have hr := h.head.1
    obtain ⟨k, rfl⟩ : ∃ k, r = k + 1 := ⟨r - 1, by omega⟩
    have e0 : size ((k + 1) :: rs) - 1 = (size rs - 1) + k * size rs := by
      rw [size_cons, Nat.add_mul, Nat.one_mul]
      omega
    have e1 : ((size rs - 1) + k * size rs) / size rs = k := by
      rw [Nat.add_mul_div_right _ _ hz, Nat.div_eq_of_lt (by omega), Nat.zero_add]
    have e2 : ((size rs - 1) + k * size rs) % size rs = size rs - 1 := by
      rw [Nat.add_mul_mod_self_right, Nat.mod_eq_of_lt (by omega)]
    show _ = (k + 1 - 1) :: (if (k + 1 - 1) % 2 = 0 then lastOf rs else List.replicate rs.length 0)
    rw [e0, elementAt_cons, e1, e2, Nat.add_sub_cancel]
    unfold inner
    split
    · rw [elementAt_last h.tail]
    · rw [Nat.sub_self, elementAt_zero]

/-! ### where two elements differ -/
inductive Diff : List Nat → List Nat → Nat → Nat → Nat → Prop
  | here (a b : Nat) (x : List Nat) : a ≠ b → Diff (a :: x) (b :: x) 0 a b
  | next (d : Nat) {x y : List Nat} {j a b : Nat} : Diff x y j a b → Diff (d :: x) (d :: y) (j + 1) a b

theorem Diff.symm {x y : List Nat} {j a b : Nat} (h : Diff x y j a b) : Diff y x j b a := by
  induction h with
  | here a b x c => exact .here b a x c.symm
  | next d _ ih => exact .next d ih

theorem Diff.find {x y : List Nat} {j a b : Nat} (h : Diff x y j a b) : ((x.zip y).findIdx? fun p => p.1 != p.2) = some j ∧ x[j]? = some a ∧ y[j]? = some b ∧ a ≠ b := by
  induction h with
  | here a b x c =>
    refine ⟨?_, rfl, rfl, c⟩
    rw [List.zip_cons_cons, List.findIdx?_cons]
    simp [c]
  | next d _ ih =>
    refine ⟨?_, ih.2.1, ih.2.2.1, ih.2.2.2⟩
    rw [List.zip_cons_cons, List.findIdx?_cons, ih.1]
    simp

theorem change_of {x y : List Nat} {j a b : Nat} (h : Diff x y j a b) : changeBetween x y = (j, if a < b then 1 else 0) := by
  obtain ⟨e1, e2, e3, _⟩ := h.find
  unfold changeBetween
  simp only [e1, Option.getD_some]
  rw [List.getD_eq_getElem?_getD, List.getD_eq_getElem?_getD, e2, e3]
  rfl

/-- the digit that the step to the index t changes: the first whose group begins there -/
def chg : List Nat → Nat → Nat
  | [], _ => 0
  | _ :: rs, t => if t % size rs = 0 then 0 else chg rs t + 1

theorem size_dvd : ∀ (rs : List Nat) (i : Nat), size (rs.drop i) ∣ size rs
  | _, 0 => Nat.dvd_refl _
  | [], i + 1 => by
    rw [List.drop_nil]
    exact Nat.dvd_refl _
  | r :: rs, i + 1 => by
    rw [List.drop_succ_cons, size_cons]
    exact Nat.dvd_trans (size_dvd rs i) (Nat.dvd_mul_left _ _)

/-- only the remainders by the groups' sizes count -/
theorem chg_congr : ∀ {rs : List Nat} {s t : Nat}, (∀ w, w ∣ size rs → (s % w = 0 ↔ t % w = 0)) → chg rs s = chg rs t
  | [], _, _, _ => rfl
  | r :: rs, s, t, h => by
    have e := h (size rs) ⟨r, by rw [size_cons, Nat.mul_comm]⟩
    have ih := chg_congr (rs := rs) (s := s) (t := t) fun w hw => h w (Nat.dvd_trans hw ⟨r, by rw [size_cons, Nat.mul_comm]⟩)
    show (if s % size rs = 0 then 0 else chg rs s + 1) = (if t % size rs = 0 then 0 else chg rs t + 1)
    rw [ih]
    by_cases c : s % size rs = 0
    · rw [if_pos c, if_pos (e.mp c)]
    · rw [if_neg c, if_neg fun z => c (e.mpr z)]

theorem mod_add_of {w g k m : Nat} (h : w ∣ g) : (k * g + m) % w = 0 ↔ m % w = 0 := by
  obtain ⟨c, rfl⟩ := h
  rw [show k * (w * c) + m = m + w * (k * c) by rw [Nat.add_comm, Nat.mul_left_comm], Nat.add_mul_mod_self_left]

theorem mod_sub_of {w g m : Nat} (h : w ∣ g) (hm : m ≤ g) : (g - m) % w = 0 ↔ m % w = 0 := by
  rw [← Nat.dvd_iff_mod_eq_zero, ← Nat.dvd_iff_mod_eq_zero]
  constructor
  · intro z
    have := Nat.dvd_sub h z
    rwa [show g - (g - m) = m by omega] at this
  · intro z
    exact Nat.dvd_sub h z

theorem step_diff : ∀ {rs : List Nat}, Good rs → ∀ {p : Nat}, p + 1 < size rs →
    ∃ a b, Diff (elementAt rs p) (elementAt rs (p + 1)) (chg rs (p + 1)) a b ∧ (a + 1 = b ∨ b + 1 = a)
  | [], _, p, hp => by
    have z : size [] = 1 := rfl
    omega
  | r :: rs, h, p, hp => by
    have hz := size_pos h.tail
    have ih := @step_diff rs h.tail
    rw [elementAt_cons, elementAt_cons]
    show ∃ a b, Diff _ _ (if (p + 1) % size rs = 0 then 0 else chg rs (p + 1) + 1) a b ∧ _
    generalize hg : size rs = g at *
    have hm : p % g < g := Nat.mod_lt _ hz
    have hd : g * (p / g) + p % g = p := Nat.div_add_mod p g
    by_cases c : p % g + 1 = g
    · have e1 : (p + 1) / g = p / g + 1 := by
        rw [show p + 1 = 0 + (p / g + 1) * g by rw [Nat.add_mul, Nat.one_mul, Nat.mul_comm]; omega, Nat.add_mul_div_right _ _ hz, Nat.zero_div, Nat.zero_add]
      have e2 : (p + 1) % g = 0 := by
        rw [show p + 1 = 0 + (p / g + 1) * g by rw [Nat.add_mul, Nat.one_mul, Nat.mul_comm]; omega, Nat.add_mul_mod_self_right, Nat.zero_mod]
      rw [if_pos e2, e1, e2]
      have e3 : inner (p / g + 1) g 0 = inner (p / g) g (p % g) := by
        unfold inner
        split <;> split <;> omega
      rw [e3]
      exact ⟨_, _, .here _ _ _ (by omega), .inl rfl⟩
    · have hm1 : p % g + 1 < g := by omega
      have e0 : p + 1 = (p % g + 1) + p / g * g := by
        rw [Nat.mul_comm]
        omega
      have e1 : (p + 1) / g = p / g := by rw [e0, Nat.add_mul_div_right _ _ hz, Nat.div_eq_of_lt hm1, Nat.zero_add]
      have e2 : (p + 1) % g = p % g + 1 := by rw [e0, Nat.add_mul_mod_self_right, Nat.mod_eq_of_lt hm1]
      rw [if_neg (by omega), e1, e2]
      have ec : chg rs (p + 1) = chg rs (p % g + 1) := chg_congr fun w hw => by
        rw [show p + 1 = p / g * g + (p % g + 1) by rw [Nat.mul_comm]; omega]
        exact mod_add_of (by rw [hg] at hw; exact hw)
      rw [ec]
      by_cases hpar : p / g % 2 = 0
      · obtain ⟨a, b, q1, q2⟩ := ih (p := p % g) hm1
        refine ⟨a, b, ?_, q2⟩
        unfold inner
        rw [if_pos hpar, if_pos hpar]
        exact .next _ q1
      · obtain ⟨a, b, q1, q2⟩ := ih (p := g - 1 - (p % g + 1)) (by omega)
        refine ⟨b, a, ?_, q2.symm⟩
        unfold inner
        rw [if_neg hpar, if_neg hpar]
        have e5 : g - 1 - (p % g + 1) + 1 = g - 1 - p % g := by omega
        rw [e5] at q1
        have ec2 : chg rs (p % g + 1) = chg rs (g - 1 - p % g) := chg_congr fun w hw => by
          rw [show g - 1 - p % g = g - (p % g + 1) by omega]
          exact (mod_sub_of (by rw [hg] at hw; exact hw) (by omega)).symm
        rw [ec2]
        exact .next _ q1.symm

/-! ### how often a digit changes -/
theorem chg_first : ∀ {rs : List Nat} {t i : Nat}, i < rs.length → (chg rs t = i ↔ t % size (rs.drop (i + 1)) = 0 ∧ (i = 0 ∨ t % size (rs.drop i) ≠ 0))
  | [], _, _, h => absurd h (Nat.not_lt_zero _)
  | r :: rs, t, 0, _ => by
    rw [List.drop_succ_cons, List.drop_zero]
    show (if t % size rs = 0 then 0 else chg rs t + 1) = 0 ↔ _
    by_cases c : t % size rs = 0
    · rw [if_pos c]
      exact ⟨fun _ => ⟨c, .inl rfl⟩, fun _ => rfl⟩
    · rw [if_neg c]
      exact ⟨fun z => absurd z (Nat.succ_ne_zero _), fun z => absurd z.1 c⟩
  | r :: rs, t, i + 1, hi => by
    have ih := chg_first (rs := rs) (t := t) (i := i) (Nat.lt_of_succ_lt_succ hi)
    rw [List.drop_succ_cons, List.drop_succ_cons]
    show (if t % size rs = 0 then 0 else chg rs t + 1) = i + 1 ↔ _
    by_cases c : t % size rs = 0
    · rw [if_pos c]
      refine ⟨fun z => absurd z.symm (Nat.succ_ne_zero _), fun z => ?_⟩
      have d : t % size (rs.drop i) = 0 := Nat.mod_eq_zero_of_dvd (Nat.dvd_trans (size_dvd rs i) (Nat.dvd_of_mod_eq_zero c))
      rcases z.2 with e | e
      · exact absurd e (Nat.succ_ne_zero _)
      · exact absurd d e
    · rw [if_neg c, Nat.add_right_cancel_iff, ih]
      constructor
      · rintro ⟨z, y⟩
        refine ⟨z, .inr ?_⟩
        rcases y with rfl | y
        · rw [List.drop_zero]
          exact c
        · exact y
      · rintro ⟨z, y⟩
        refine ⟨z, .inr ?_⟩
        rcases y with e | y
        · exact absurd e (Nat.succ_ne_zero _)
        · exact y

theorem div_step {w s : Nat} (hw : 0 < w) : (s + 1) / w = s / w + (if (s + 1) % w = 0 then 1 else 0) := by
  have h1 := Nat.div_add_mod s w
  have h2 := Nat.div_add_mod (s + 1) w
  have h3 := Nat.mod_lt s hw
  have h4 := Nat.mod_lt (s + 1) hw
  generalize (s + 1) % w = m at *
  generalize s % w = n at *
  generalize (s + 1) / w = a at *
  generalize s / w = b at *
  by_cases c : m = 0
  · rw [if_pos c]
    subst c
    have e : w * a = w * b + (n + 1) := by omega
    have l : b < a := Nat.lt_of_mul_lt_mul_left (a := w) (by omega)
    have u : a < b + 2 := Nat.lt_of_mul_lt_mul_left (a := w) (by rw [Nat.mul_add]; omega)
    omega
  · rw [if_neg c]
    have l : b < a + 1 := Nat.lt_of_mul_lt_mul_left (a := w) (by rw [Nat.mul_add]; omega)
    have u : a < b + 1 := Nat.lt_of_mul_lt_mul_left (a := w) (by rw [Nat.mul_add]; omega)
    omega

theorem count_step (c : Nat → Bool) (s : Nat) : ((List.range (s + 1)).filter c).length = ((List.range s).filter c).length + (if c s = true then 1 else 0) := by
  rw [List.range_succ, List.filter_append, List.length_append, List.filter_cons]
  split <;> rfl

theorem count_chg {rs : List Nat} (h : Good rs) {d : Nat} (hd : d < rs.length) : ∀ {s : Nat}, s < size rs →
    ((List.range s).filter fun i => chg rs (i + 1) == d).length + s / size (rs.drop d) = s / size (rs.drop (d + 1))
  | 0, _ => by
    rw [Nat.zero_div, Nat.zero_div]
    rfl
  | s + 1, hs => by
    have ih := count_chg h hd (s := s) (by omega)
    have w1 := size_pos (h.drop d)
    have w2 := size_pos (h.drop (d + 1))
    rw [count_step, div_step w1, div_step w2]
    have q := chg_first (t := s + 1) hd
    have dv : size (rs.drop (d + 1)) ∣ size (rs.drop d) := by
      have z := size_dvd (rs.drop d) 1
      rwa [List.drop_drop] at z
    by_cases c1 : (s + 1) % size (rs.drop d) = 0
    · have c2 : (s + 1) % size (rs.drop (d + 1)) = 0 := Nat.mod_eq_zero_of_dvd (Nat.dvd_trans dv (Nat.dvd_of_mod_eq_zero c1))
      have nd : d ≠ 0 := fun e => by
        subst e
        rw [List.drop_zero, Nat.mod_eq_of_lt hs] at c1
        cases c1
      have nc : ¬ (chg rs (s + 1) == d) = true := fun z => by
        have z2 := (q.mp (beq_iff_eq.mp z)).2
        rcases z2 with e | e
        · exact nd e
        · exact e c1
      rw [if_neg nc, if_pos c1, if_pos c2]
      omega
    · by_cases c2 : (s + 1) % size (rs.drop (d + 1)) = 0
      · have yc : (chg rs (s + 1) == d) = true := beq_iff_eq.mpr (q.mpr ⟨c2, .inr c1⟩)
        rw [if_pos yc, if_neg c1, if_pos c2]
        omega
      · have nc : ¬ (chg rs (s + 1) == d) = true := fun z => c2 (q.mp (beq_iff_eq.mp z)).1
        rw [if_neg nc, if_neg c1, if_neg c2]
        omega

/-- how often the digit d changes in the first s steps -/
theorem count_is {rs : List Nat} (h : Good rs) {d s : Nat} (hd : d < rs.length) (hs : s < size rs) :
    countChanges rs d s + s / size (rs.drop d) = s / size (rs.drop (d + 1)) := by
  rw [← count_chg h hd hs]
  unfold countChanges
  congr 2
  refine List.filter_congr fun i hi => ?_
  obtain ⟨a, b, q, _⟩ := step_diff h (p := i) (by have := List.mem_range.mp hi; omega)
  rw [change_of q]

/-! ### what is due -/
theorem due_next (rs ds : List Nat) : PyKs609.successor (nums rs) (nums ds) =
    if areValidRadices rs = true then (if isElement rs ds = true then (if size rs ≤ indexOf rs ds + 1 then [-33] else
      ((changeBetween ds (elementAt rs (indexOf rs ds + 1))).1 : Int) :: nums ((changeBetween ds (elementAt rs (indexOf rs ds + 1))).2 :: elementAt rs (indexOf rs ds + 1))) else [-22]) else [-22] := by
  show Ks609Neutral.integers (Ks609.answer (.successor ((nums rs).map Int.toNat) ((nums ds).map Int.toNat))) = _
  rw [nums_back, nums_back]
  unfold Ks609.answer withRadices
  dsimp only
  split
  · by_cases h : isElement rs ds = true
    · rw [if_pos h, if_neg (by rw [h]; decide)]
      split <;> rfl
    · rw [if_neg h, if_pos (by simpa using h)]
      rfl
  · rfl

theorem due_last (rs : List Nat) : PyKs609.last_element (nums rs) =
    if areValidRadices rs = true then (size rs : Int) :: nums (elementAt rs (size rs - 1)) else [-22] := by
  show Ks609Neutral.integers (Ks609.answer (.lastElement ((nums rs).map Int.toNat))) = _
  rw [nums_back]
  unfold Ks609.answer withRadices
  dsimp only
  split <;> rfl

theorem due_count (d s : Nat) (rs : List Nat) : PyKs609.count_changes (d : Int) (s : Int) (nums rs) =
    if areValidRadices rs = true then (if rs.length ≤ d then [-2] else if size rs ≤ s then [-22] else [(countChanges rs d s : Int)]) else [-22] := by
  show Ks609Neutral.integers (Ks609.answer (.countChanges ((d : Int)).toNat ((s : Int)).toNat ((nums rs).map Int.toNat))) = _
  rw [nums_back, Int.toNat_natCast, Int.toNat_natCast]
  unfold Ks609.answer withRadices
  dsimp only
  split
  · split
    · rfl
    · split <;> rfl
  · rfl

theorem due_dist (rs x y : List Nat) : PyKs609.distance (nums rs) (nums x) (nums y) =
    if areValidRadices rs = true then (if isElement rs x = true ∧ isElement rs y = true then
      [(distance x y : Int), (((indexOf rs x - indexOf rs y) + (indexOf rs y - indexOf rs x) : Nat) : Int)] else [-22]) else [-22] := by
  show Ks609Neutral.integers (Ks609.answer (.distance ((nums rs).map Int.toNat) ((nums x).map Int.toNat) ((nums y).map Int.toNat))) = _
  rw [nums_back, nums_back, nums_back]
  unfold Ks609.answer withRadices
  dsimp only
  split
  · by_cases h : isElement rs x = true ∧ isElement rs y = true
    · rw [if_pos h, if_neg (by rw [h.1, h.2]; decide)]
      rfl
    · rw [if_neg h, if_pos (by
        cases e1 : isElement rs x <;> cases e2 : isElement rs y <;> simp_all)]
      rfl
  · rfl

/-- index_of's group loop, from the last digit on: what stands behind the first i digits -/
theorem indexOf_drop {rs ds : List Nat} {i r d : Nat} (hr : rs[i]? = some r) (hd : ds[i]? = some d) :
    indexOf (rs.drop i) (ds.drop i) = d * size (rs.drop (i + 1)) + inner d (size (rs.drop (i + 1))) (indexOf (rs.drop (i + 1)) (ds.drop (i + 1))) := by
  rw [drop_cons hr, drop_cons hd, indexOf_cons]
theorem size_drop {rs : List Nat} {i r : Nat} (hr : rs[i]? = some r) : size (rs.drop i) = r * size (rs.drop (i + 1)) := by
  rw [drop_cons hr, size_cons]
end My
namespace My
open Ks609

/-! ### the next element -/
/-- one step on the way: upward as n is even -/
def Adj (n s t : Nat) : Prop := if n % 2 = 0 then t = s + 1 else s = t + 1

theorem adj_inner {b d g s t : Nat} (hs : s < g) (ht : t < g) (h : Adj (b + d) s t) : Adj b (d * g + inner d g s) (d * g + inner d g t) := by
  unfold Adj at *
  unfold inner
  by_cases c : d % 2 = 0
  · rw [if_pos c, if_pos c]
    by_cases e : b % 2 = 0
    · rw [if_pos e]
      rw [if_pos (by omega)] at h
      omega
    · rw [if_neg e]
      rw [if_neg (by omega)] at h
      omega
  · rw [if_neg c, if_neg c]
    by_cases e : b % 2 = 0
    · rw [if_pos e]
      rw [if_neg (by omega)] at h
      omega
    · rw [if_neg e]
      rw [if_pos (by omega)] at h
      omega

theorem adj_lift : ∀ (j : Nat) {rs ds x : List Nat} {b : Nat}, Elem rs ds → j ≤ rs.length → Elem (rs.drop j) x →
    Adj (b + (ds.take j).sum) (indexOf (rs.drop j) (ds.drop j)) (indexOf (rs.drop j) x) →
    Elem rs (ds.take j ++ x) ∧ Adj b (indexOf rs ds) (indexOf rs (ds.take j ++ x))
  | 0, _, _, _, _, _, _, hx, h => ⟨hx, h⟩
  | _ + 1, [], _, _, _, _, hj, _, _ => absurd hj (Nat.not_succ_le_zero _)
  | _ + 1, _ :: _, [], _, _, h, _, _, _ => h.elim
  | j + 1, r :: rs, d :: ds, x, b, h, hj, hx, ha => by
    rw [List.take_succ_cons, List.sum_cons, ← Nat.add_assoc] at ha
    obtain ⟨q1, q2⟩ := adj_lift j (b := b + d) h.2 (Nat.le_of_succ_le_succ hj) hx ha
    rw [List.take_succ_cons, List.cons_append, indexOf_cons, indexOf_cons]
    exact ⟨⟨h.1, q1⟩, adj_inner (indexOf_lt h.2) (indexOf_lt q1) q2⟩

/-- from the digit j on all have come to the end of their run -/
def Ended (rs ds : List Nat) (j : Nat) : Prop :=
  if (ds.take j).sum % 2 = 0 then indexOf (rs.drop j) (ds.drop j) + 1 = size (rs.drop j) else indexOf (rs.drop j) (ds.drop j) = 0

theorem ended_len {rs ds : List Nat} (h : Elem rs ds) : Ended rs ds rs.length := by
  unfold Ended
  rw [List.drop_length, List.drop_of_length_le (Nat.le_of_eq h.len)]
  split <;> rfl

theorem ended_zero {rs ds : List Nat} (h : Ended rs ds 0) : indexOf rs ds + 1 = size rs := by
  unfold Ended at h
  rw [if_pos (by rfl)] at h
  exact h

theorem sum_take_next {ds : List Nat} {j d : Nat} (h : ds[j]? = some d) : (ds.take (j + 1)).sum = (ds.take j).sum + d := by
  rw [List.take_add_one, h, List.sum_append]
  show _ + (d + 0) = _
  rw [Nat.add_zero]

/-- the place in the group behind the digit j, when all behind it are at their end -/
theorem ended_inner {rs ds : List Nat} {j d : Nat} (el : Elem rs ds) (hd : ds[j]? = some d) (E : Ended rs ds (j + 1)) :
    My.inner d (size (rs.drop (j + 1))) (indexOf (rs.drop (j + 1)) (ds.drop (j + 1))) = if (ds.take j).sum % 2 = 0 then size (rs.drop (j + 1)) - 1 else 0 := by
  have hl := indexOf_lt (el.drop (j + 1))
  unfold Ended at E
  rw [sum_take_next hd] at E
  unfold My.inner
  by_cases c : d % 2 = 0
  · rw [if_pos c]
    by_cases e : (ds.take j).sum % 2 = 0
    · rw [if_pos (by omega)] at E
      rw [if_pos e]
      omega
    · rw [if_neg (by omega)] at E
      rw [if_neg e]
      omega
  · rw [if_neg c]
    by_cases e : (ds.take j).sum % 2 = 0
    · rw [if_neg (by omega)] at E
      rw [if_pos e]
      omega
    · rw [if_pos (by omega)] at E
      rw [if_neg e]
      omega

theorem ended_up {rs ds : List Nat} {j r d : Nat} (el : Elem rs ds) (hr : rs[j]? = some r) (hd : ds[j]? = some d) (E : Ended rs ds (j + 1))
    (p : (ds.take j).sum % 2 = 0) (c : d + 1 = r) : Ended rs ds j := by
  have hi := ended_inner el hd E
  have hl := indexOf_lt (el.drop (j + 1))
  rw [if_pos p] at hi
  unfold Ended
  rw [if_pos p, indexOf_drop hr hd, hi, size_drop hr, ← c, Nat.add_mul, Nat.one_mul]
  omega

theorem ended_down {rs ds : List Nat} {j r d : Nat} (el : Elem rs ds) (hr : rs[j]? = some r) (hd : ds[j]? = some d) (E : Ended rs ds (j + 1))
    (p : ¬ (ds.take j).sum % 2 = 0) (c : d = 0) : Ended rs ds j := by
  have hi := ended_inner el hd E
  rw [if_neg p] at hi
  unfold Ended
  rw [if_neg p, indexOf_drop hr hd, hi, c, Nat.zero_mul]

/-- the element with one digit another, and the rest as it stands: where it lies -/
theorem changed_at {rs ds : List Nat} {j r d c : Nat} (el : Elem rs ds) (hr : rs[j]? = some r) (hd : ds[j]? = some d) (E : Ended rs ds (j + 1))
    (hc : c < r) (st : if (ds.take j).sum % 2 = 0 then c = d + 1 else d = c + 1) :
    indexOf rs ds + 1 < size rs ∧ elementAt rs (indexOf rs ds + 1) = ds.take j ++ c :: ds.drop (j + 1) := by
  have hi := ended_inner el hd E
  have hl := indexOf_lt (el.drop (j + 1))
  have hj : j < rs.length := (List.getElem?_eq_some_iff.mp hr).1
  have hx : Elem (rs.drop j) (c :: ds.drop (j + 1)) := by
    rw [drop_cons hr]
    exact ⟨hc, el.drop (j + 1)⟩
  have key : Adj (0 + (ds.take j).sum) (indexOf (rs.drop j) (ds.drop j)) (indexOf (rs.drop j) (c :: ds.drop (j + 1))) := by
    rw [indexOf_drop hr hd, drop_cons hr, indexOf_cons, hi]
    have hin : My.inner c (size (rs.drop (j + 1))) (indexOf (rs.drop (j + 1)) (ds.drop (j + 1))) = size (rs.drop (j + 1)) - 1 - My.inner d (size (rs.drop (j + 1))) (indexOf (rs.drop (j + 1)) (ds.drop (j + 1))) := by
      have odd : c % 2 = 0 ↔ ¬ d % 2 = 0 := by
        by_cases p : (ds.take j).sum % 2 = 0
        · rw [if_pos p] at st
          omega
        · rw [if_neg p] at st
          omega
      unfold My.inner
      by_cases e : d % 2 = 0
      · rw [if_neg (fun z => odd.mp z e), if_pos e]
      · rw [if_pos (odd.mpr e), if_neg e]
        omega
    rw [hin, hi]
    unfold Adj
    rw [Nat.zero_add]
    by_cases p : (ds.take j).sum % 2 = 0
    · rw [if_pos p] at st ⊢
      rw [if_pos p, st, Nat.add_mul, Nat.one_mul]
      omega
    · rw [if_neg p] at st ⊢
      rw [if_neg p, st, Nat.add_mul, Nat.one_mul]
      omega
  obtain ⟨q1, q2⟩ := adj_lift j el (Nat.le_of_lt hj) hx key
  have q3 : indexOf rs (ds.take j ++ c :: ds.drop (j + 1)) = indexOf rs ds + 1 := q2
  have q4 := indexOf_lt q1
  rw [q3] at q4
  refine ⟨q4, ?_⟩
  rw [← q3]
  exact elementAt_indexOf q1

theorem diff_at : ∀ {ds : List Nat} {j d c : Nat}, ds[j]? = some d → d ≠ c → Diff ds (ds.take j ++ c :: ds.drop (j + 1)) j d c
  | [], j, d, c, h, _ => by simp at h
  | x :: ds, 0, d, c, h, n => by
    have e : x = d := Option.some.inj h
    subst e
    exact .here x c ds n
  | x :: ds, j + 1, d, c, h, n => .next x (diff_at (ds := ds) h n)

/-- what is due where the digit j changes to c -/
theorem due_changed {rs ds : List Nat} {j r d c : Nat} (hv : areValidRadices rs = true) (el : Elem rs ds) (hr : rs[j]? = some r) (hd : ds[j]? = some d) (E : Ended rs ds (j + 1))
    (hc : c < r) (st : if (ds.take j).sum % 2 = 0 then c = d + 1 else d = c + 1) :
    PyKs609.successor (nums rs) (nums ds) = (j : Int) :: (if (ds.take j).sum % 2 = 0 then 1 else 0) :: nums (ds.take j ++ c :: ds.drop (j + 1)) := by
  obtain ⟨q1, q2⟩ := changed_at el hr hd E hc st
  have ne : d ≠ c := by
    by_cases p : (ds.take j).sum % 2 = 0
    · rw [if_pos p] at st
      omega
    · rw [if_neg p] at st
      omega
  rw [due_next, if_pos hv, if_pos ((elem_iff rs ds).mpr el), if_neg (by omega), q2, change_of (diff_at hd ne)]
  by_cases p : (ds.take j).sum % 2 = 0
  · rw [if_pos p] at st ⊢
    rw [if_pos (show d < c by omega)]
    rfl
  · rw [if_neg p] at st ⊢
    rw [if_neg (show ¬ d < c by omega)]
    rfl

theorem due_ended {rs ds : List Nat} (hv : areValidRadices rs = true) (el : Elem rs ds) (E : Ended rs ds 0) : PyKs609.successor (nums rs) (nums ds) = [-33] := by
  rw [due_next, if_pos hv, if_pos ((elem_iff rs ds).mpr el), if_pos (Nat.le_of_eq (ended_zero E).symm)]
end My
namespace Deed
open PySem PySem.Spec PyProof.Rows L2
open PySem.W (Codec)
open My
/-- a list of numbers as the program holds it -/
def vsl (rs : List Nat) : List V := (nums rs).map V.int
theorem vsl_len (rs : List Nat) : (vsl rs).length = rs.length := by
  unfold vsl nums
  rw [List.length_map, List.length_map]
theorem vsl_at {rs : List Nat} {i : Nat} {x : V} (h : (vsl rs)[i]? = some x) : ∃ n : Nat, rs[i]? = some n ∧ x = V.int (n : Int) := by
  unfold vsl nums at h
  rw [List.getElem?_map, List.getElem?_map] at h
  cases e : rs[i]? with
  | none =>
    rw [e] at h
    cases h
  | some z =>
    rw [e] at h
    exact ⟨z, rfl, (Option.some.inj h).symm⟩
theorem vsl_of {rs : List Nat} {i n : Nat} (h : rs[i]? = some n) : (vsl rs)[i]? = some (V.int (n : Int)) := by
  unfold vsl nums
  rw [List.getElem?_map, List.getElem?_map, h]
  rfl
theorem same_upd {H : Hp} {p : Addr} {o : HO} (h : H p = none) : Same H (upd H p o) := fun b x e => by
  rw [upd_ne (ne_of_none e h)]
  exact e
/-- a list made since H: what is stored there leaves H as it was -/
theorem same_over {H H1 : Hp} {p : Addr} {o : HO} (s : Same H H1) (h : H p = none) : Same H (upd H1 p o) := fun b x e => by
  rw [upd_ne (ne_of_none e h)]
  exact s _ _ e
theorem good_take {rs : List Nat} {i n : Nat} (h : rs[i]? = some n) (g : Good (rs.take i)) (c : 1 ≤ n ∧ n ≤ 6) : Good (rs.take (i + 1)) := by
  rw [List.take_add_one, h]
  intro x hx
  rcases List.mem_append.mp hx with z | z
  · exact g x z
  · have e : x = n := List.mem_singleton.mp z
    rw [e]
    exact c
theorem good_bad {rs : List Nat} {i n : Nat} (h : rs[i]? = some n) (c : ¬ (1 ≤ n ∧ n ≤ 6)) : Ks609.areValidRadices rs = false := by
  cases e : Ks609.areValidRadices rs with
  | false => rfl
  | true => exact absurd (((valid_iff rs).mp e).2.2 n (List.mem_of_getElem? h)) c
/-- the numbers that the limits let be handed in -/
theorem nat_of {lo hi x : Int} (h : Codec.inInt lo hi x = true) (h0 : 0 ≤ lo) : ∃ n : Nat, x = (n : Int) ∧ (n : Int) ≤ hi := by
  have q := Codec.inInt_iff.mp h
  exact ⟨x.toNat, (Int.toNat_of_nonneg (by omega)).symm, by rw [Int.toNat_of_nonneg (by omega)]; exact q.2⟩
def top (i : Nat) : Stmt := PySem.Challenge.pw_stepdigits_s02_index_of.main.body.getD i (.Pass ⟨0, 0, 0, 0⟩)
/-! ### the limits of the radices -/
abbrev sVal : Stmt := top 4
theorem scV : FnScope ["radices", "radix"] ["radices"] (defScope sVal) := ⟨rfl, rfl, rfl, by decide +kernel, rfl, by decide +kernel, by decide +kernel⟩
section
variable {P : Program} {w : World} {K : PySem.W.Frag} {mg : Str → Option Value} {base : Heap}
def spVal (K : PySem.W.Frag) : Sp := fun vs H Q _ => ∃ (a : Addr) (rs : List Nat), vs = [.ref a] ∧ SqL K H a (vsl rs) ∧ Q (.bl (Ks609.areValidRadices rs)) H
theorem ok_val {f : Addr} {fd : FuncData} {k : Nat} (F : Fun K "radices_within_limits" "radices_within_limits" sVal f fd) (ml : mg "len" = none) {t5 t6 : Tok} (m5 : mg "MOST_DIGITS" = some (.int 5 t5)) (m6 : mg "LARGEST_RADIX" = some (.int 6 t6)) :
    FnOk P w K mg base CX0 (k + 1) f fd ["radices"] (spVal K) := by
  refine F.ok scV (fun vs H Q E h => ?_) (fun cdv A outer s H vs Q E hr h => ?_)
  · obtain ⟨a, rs, rfl, _⟩ := h
    rfl
  · obtain ⟨a, rs, rfl, hS, q⟩ := h
    refine ⟨_, pss_cons (ps_if (PW.pt (pw_or (pt_cmpR op_lt (pe_callB call_len_seq (by rfl) ml PySem.boot_len (pa_cons (pv 0) pa_nil)) pe_int (nomark _))
          (pw_or1 (pt_cmpR op_gt (pe_callB call_len_seq (by rfl) ml PySem.boot_len (pa_cons (pv 0) pa_nil)) (pe_glob (v := .int 5) rfl m5 ⟨_, rfl⟩) (nomark _)))))
        (pss_one (ps_ret pe_bl)) pss_nil)
      (pss_cons (ps_for PassesOwn.never rfl (pi_list (pv 0)) (pg_name (i := 1) scV.nd rfl (.inl rfl))
        (pss_one (ps_if (PW.pt (pw_or (pt_cmpR op_lt (pv 1) pe_int (nomark _)) (pw_or1 (pt_cmpR op_gt (pv 1) (pe_glob (v := .int 6) rfl m6 ⟨_, rfl⟩) (nomark _)))))
          (pss_one (ps_ret pe_bl)) pss_nil)))
      (pss_one (ps_ret pe_bl))), ?_⟩
    have bad : Ks609.areValidRadices rs = false → Q (.bl false) H := fun e => by
      rw [e] at q
      exact q
    have lenBad : ¬ (1 ≤ rs.length ∧ rs.length ≤ 5) → Ks609.areValidRadices rs = false := fun c => by
      cases e : Ks609.areValidRadices rs with
      | false => rfl
      | true =>
        have z := (valid_iff rs).mp e
        exact absurd ⟨z.1, z.2.1⟩ c
    have ll := vsl_len rs
    refine ⟨.ref a, rfl, a, _, rfl, .inl hS, _, _, rfl, rfl, _, rfl, ite2 (fun c => ?_) (fun c => ?_)⟩
    · have c1 : ((vsl rs).length : Int) < 1 := of_decide_eq_true c
      exact iteT (bad (lenBad (by omega)))
    · have c1 : ¬ ((vsl rs).length : Int) < 1 := fun z => c (decide_eq_true z)
      refine ⟨.ref a, rfl, a, _, rfl, .inl hS, _, _, rfl, rfl, _, rfl, ite2 (fun c => ?_) (fun c => ?_)⟩
      · have c2 : (5 : Int) < ((vsl rs).length : Int) := of_decide_eq_true c
        exact bad (lenBad (by omega))
      · have c2 : ¬ (5 : Int) < ((vsl rs).length : Int) := fun z => c (decide_eq_true z)
        refine ⟨.ref a, rfl, a, rfl, ⟨_, hS⟩, for_list (K := K) (a := a) (xs := vsl rs) (fun i σ H' => ∃ v : Option V, σ = [some (.ref a), v] ∧ H' = H ∧ Good (rs.take i))
          ⟨none, rfl, rfl, fun x hx => by simp at hx⟩ (fun i σ H' _ ⟨_, _, e, _⟩ => e ▸ hS) ?_ ?_⟩
        · rintro i y σ H' hi ⟨v, rfl, rfl, g⟩
          obtain ⟨n, hn, rfl⟩ := vsl_at hi
          refine ⟨_, rfl, _, _, rfl, rfl, _, rfl, ite2 (fun c => ?_) (fun c => ?_)⟩
          · have c3 : (n : Int) < 1 := of_decide_eq_true c
            exact iteT (bad (good_bad hn (by omega)))
          · have c3 : ¬ (n : Int) < 1 := fun z => c (decide_eq_true z)
            refine ⟨_, rfl, _, _, rfl, rfl, _, rfl, ite2 (fun c => ?_) (fun c => ?_)⟩
            · have c4 : (6 : Int) < (n : Int) := of_decide_eq_true c
              exact bad (good_bad hn (by omega))
            · have c4 : ¬ (6 : Int) < (n : Int) := fun z => c (decide_eq_true z)
              exact ⟨some (.int (n : Int)), rfl, rfl, good_take hn g (by omega)⟩
        · rintro σ H' ⟨v, rfl, rfl, g⟩
          rw [ll, List.take_length] at g
          have e : Ks609.areValidRadices rs = true := (valid_iff rs).mpr ⟨by omega, by omega, g⟩
          rw [e] at q
          exact q
end
/-! ### what an element is -/
abbrev sElem : Stmt := top 5
theorem scE : FnScope ["element", "radices", "digit", "radix"] ["element", "radices"] (defScope sElem) := ⟨rfl, rfl, rfl, by decide +kernel, rfl, by decide +kernel, by decide +kernel⟩
section
variable {P : Program} {w : World} {K : PySem.W.Frag} {mg : Str → Option Value} {base : Heap}
def spElem (K : PySem.W.Frag) : Sp := fun vs H Q _ => ∃ (b a : Addr) (rs ds : List Nat), vs = [.ref b, .ref a] ∧ SqL K H a (vsl rs) ∧ SqL K H b (vsl ds) ∧ ∀ H' : Hp, Same H H' → Q (.bl (Ks609.isElement rs ds)) H'
theorem ok_elem {f : Addr} {fd : FuncData} {k : Nat} (F : Fun K "is_element" "is_element" sElem f fd) (ml : mg "len" = none) (mz : mg "zip" = none) : FnOk P w K mg base CX0 (k + 1) f fd ["element", "radices"] (spElem K) := by
  refine F.ok scE (fun vs H Q E h => ?_) (fun cdv A outer s H vs Q E hr h => ?_)
  · obtain ⟨b, a, rs, ds, rfl, _⟩ := h
    rfl
  · obtain ⟨b, a, rs, ds, rfl, hR, hD, q⟩ := h
    refine ⟨_, pss_cons (ps_if (pt_cmpR op_ne (pe_callB call_len_seq (by rfl) ml PySem.boot_len (pa_cons (pv 0) pa_nil)) (pe_callB call_len_seq (by rfl) ml PySem.boot_len (pa_cons (pv 1) pa_nil)) (nomark _)) (pss_one (ps_ret pe_bl)) pss_nil)
      (pss_cons (ps_for PassesOwn.never rfl (pi_zip (by rfl) mz (pa_cons (pv 0) (pa_cons (pv 1) pa_nil)))
          (pg_tup rfl (pgs_cons (pg_name (i := 2) scE.nd rfl (.inl rfl)) (pgs_cons (pg_name (i := 3) scE.nd rfl (.inl rfl)) pgs_nil)))
        (pss_one (ps_if (pt_cmpR op_ge (pv 2) (pv 3) (nomark _)) (pss_one (ps_ret pe_bl)) pss_nil)))
      (pss_one (ps_ret pe_bl))), ?_⟩
    have bad : ¬ Elem rs ds → ∀ H' : Hp, Same H H' → Q (.bl false) H' := fun c H' s => by
      have e : Ks609.isElement rs ds = false := by
        cases e : Ks609.isElement rs ds with
        | false => rfl
        | true => exact absurd ((elem_iff rs ds).mp e) c
      have z := q H' s
      rw [e] at z
      exact z
    have lr := vsl_len rs
    have ld := vsl_len ds
    refine ⟨.ref b, rfl, b, _, rfl, .inl hD, .ref a, rfl, a, _, rfl, .inl hR, rfl, _, rfl, ite2 (fun c => ?_) (fun c => ?_)⟩
    · refine bad (fun z => ?_) H (Same.refl H)
      have z2 := z.len
      have e : (V.int ((vsl ds).length : Int)) = V.int ((vsl rs).length : Int) := by rw [ld, lr, z2]
      rw [decide_eq_true e] at c
      cases c
    · have hl : ds.length = rs.length := by
        by_cases e : (V.int ((vsl ds).length : Int)) = V.int ((vsl rs).length : Int)
        · have z := V.int.inj e
          omega
        · exact absurd (show (!decide ((V.int ((vsl ds).length : Int)) = V.int ((vsl rs).length : Int))) = true by rw [decide_eq_false e]; rfl) c
      refine ⟨.ref b, rfl, .ref a, rfl, b, a, vsl ds, vsl rs, rfl, hD, hR, RZ.for_zipL (K := K) (a := b) (b := a) (xs := vsl ds) (ys := vsl rs) (by omega)
        (fun i σ H' => ∃ v2 v3 : Option V, σ = [some (.ref b), some (.ref a), v2, v3] ∧ Same H H' ∧ ∀ (j r d : Nat), j < i → rs[j]? = some r → ds[j]? = some d → d < r)
        ⟨none, none, rfl, Same.refl H, fun j r d z => absurd z (Nat.not_lt_zero j)⟩ (fun i σ H' ⟨_, _, _, s, _⟩ => ⟨s.seq hD, s.seq hR⟩) ?_ ?_⟩
      · rintro i x y T σ H' hx hy ⟨v2, v3, rfl, s2, h2⟩ nT
        obtain ⟨d, hd, rfl⟩ := vsl_at hx
        obtain ⟨r, hn, rfl⟩ := vsl_at hy
        have s3 := s2.trans (same_upd (o := HO.tup [V.int (d : Int), V.int (r : Int)]) nT)
        refine ⟨T, [V.int (d : Int), V.int (r : Int)], rfl, .inl (.inl upd_same), rfl, V.int (d : Int), [V.int (r : Int)], rfl, V.int (r : Int), [], rfl, rfl, ?_⟩
        refine ⟨_, rfl, _, rfl, _, _, rfl, rfl, _, rfl, ite2 (fun c => ?_) (fun c => ?_)⟩
        · have c1 : (r : Int) ≤ (d : Int) := of_decide_eq_true c
          exact bad (fun z => by
            have z2 := z.at hn hd
            omega) _ s3
        · have c1 : ¬ (r : Int) ≤ (d : Int) := fun z => c (decide_eq_true z)
          refine ⟨some (V.int (d : Int)), some (V.int (r : Int)), rfl, s3, fun j r' d' hj e1 e2 => ?_⟩
          by_cases hji : j < i
          · exact h2 j r' d' hji e1 e2
          · have ej : j = i := by omega
            subst ej
            rw [hn] at e1
            rw [hd] at e2
            cases e1
            cases e2
            omega
      · rintro σ H' ⟨v2, v3, rfl, s2, h2⟩
        have e : Ks609.isElement rs ds = true := (elem_iff rs ds).mpr (elem_of hl fun j r d e1 e2 => by
          have hj := (List.getElem?_eq_some_iff.mp e2).1
          exact h2 j r d (by omega) e1 e2)
        have z := q H' s2
        rw [e] at z
        exact z
end
/-! ### the index of an element -/
abbrev sOf : Stmt := top 6
theorem scO : FnScope ["radices", "element", "group_size", "place", "position", "digit"] ["radices", "element"] (defScope sOf) := ⟨rfl, rfl, rfl, by decide +kernel, rfl, by decide +kernel, by decide +kernel⟩
section
variable {P : Program} {w : World} {K : PySem.W.Frag} {mg : Str → Option Value} {base : Heap}
def spOf (K : PySem.W.Frag) : Sp := fun vs H Q _ => ∃ (a b : Addr) (rs ds : List Nat), vs = [.ref a, .ref b] ∧ SqL K H a (vsl rs) ∧ SqL K H b (vsl ds) ∧
  ∀ (H' : Hp) (p : Addr), Same H H' → H p = none → H' p = some (.lst ((PyKs609.index_of (nums rs) (nums ds)).map V.int)) → Q (.ref p) H'
theorem ok_of {f fV fE : Addr} {fd fdV fdE : FuncData} {k : Nat} (F : Fun K "index_of" "index_of" sOf f fd)
    (kV : PySem.W.keepIn K (.ref fV) = true) (GV : FnOk P w K mg base CX0 (k + 1) fV fdV ["radices"] (spVal K)) (bV : Binds K fdV ["radices"] []) (gV : mg "radices_within_limits" = some (.ref fV))
    (kE : PySem.W.keepIn K (.ref fE) = true) (GE : FnOk P w K mg base CX0 (k + 1) fE fdE ["element", "radices"] (spElem K)) (bE : Binds K fdE ["element", "radices"] []) (gE : mg "is_element" = some (.ref fE))
    (ml : mg "len" = none) (mr : mg "range" = none) {t2 : Tok} (m2 : mg "OUTSIDE_LIMITS" = some (.int (-22) t2)) :
    FnOk P w K mg base CX0 (k + 2) f fd ["radices", "element"] (spOf K) := by
  refine F.ok scO (fun vs H Q E h => ?_) (fun cdv A outer s H vs Q E hr h => ?_)
  · obtain ⟨a, b, rs, ds, rfl, _⟩ := h
    rfl
  · obtain ⟨a, b, rs, ds, rfl, hR, hD, q⟩ := h
    refine ⟨_, pss_cons (ps_if (pt_not (pt_val (pe_call GV hr (by rfl) gV kV bV .nil pass0 (pa_cons (pv 0) pa_nil)))) (pss_one (ps_ret (pe_lst (pa_cons (pe_glob (v := .int (-22)) rfl m2 ⟨_, rfl⟩) pa_nil)))) pss_nil)
      (pss_cons (ps_if (pt_not (pt_val (pe_call GE hr (by rfl) gE kE bE .nil pass0 (pa_cons (pv 1) (pa_cons (pv 0) pa_nil))))) (pss_one (ps_ret (pe_lst (pa_cons (pe_glob (v := .int (-22)) rfl m2 ⟨_, rfl⟩) pa_nil)))) pss_nil)
      (pss_cons (ps_set (i := 2) scO.nd rfl (.inl rfl) pe_int)
      (pss_cons (ps_set (i := 3) scO.nd rfl (.inl rfl) pe_int)
      (pss_cons (ps_for PassesOwn.never rfl (pi_range3 rfl mr (pa_cons (pe_op op_sub (pe_callB call_len_seq (by rfl) ml PySem.boot_len (pa_cons (pv 0) pa_nil)) pe_int) (pa_cons (pe_un un_neg pe_int) (pa_cons (pe_un un_neg pe_int) pa_nil)))) (pg_name (i := 4) scO.nd rfl (.inl rfl))
        (pss_cons (ps_set (i := 5) scO.nd rfl (.inl rfl) (pe_ix ix_list (pv 1) (pv 4) (fun _ _ => rfl)))
        (pss_cons (ps_if (pt_cmpR op_eq (pe_op op_mod (pv 5) pe_int) pe_int (nomark _)) (pss_one (ps_set (i := 3) scO.nd rfl (.inl rfl) (pe_op op_sub (pe_op op_sub (pv 2) pe_int) (pv 3)))) pss_nil)
        (pss_cons (ps_set (i := 3) scO.nd rfl (.inl rfl) (pe_op op_add (pe_op op_mul (pv 5) (pv 2)) (pv 3)))
        (pss_one (ps_set (i := 2) scO.nd rfl (.inl rfl) (pe_op op_mul (pv 2) (pe_ix ix_list (pv 0) (pv 4) (fun _ _ => rfl)))))))))
      (pss_one (ps_ret (pe_lst (pa_cons (pv 3) pa_nil)))))))), ?_⟩
    have due := due_of rs ds
    -- if not radices_within_limits(radices)
    refine ⟨.ref a, rfl, a, rs, rfl, hR, _, rfl, ?_⟩
    cases ev : Ks609.areValidRadices rs with
    | false =>
      rw [ev, if_neg Bool.false_ne_true] at due
      refine iteT ⟨by show 1 ≤ sizeLine; decide, fun p np => ?_⟩
      refine q _ p (same_upd np) np ?_
      rw [due]
      exact upd_same
    | true =>
      obtain ⟨l1, l5, hg⟩ := (valid_iff rs).mp ev
      rw [ev, if_pos rfl] at due
      refine iteF ?_
      -- if not is_element(element, radices)
      refine ⟨.ref b, rfl, .ref a, rfl, b, a, rs, ds, rfl, hR, hD, fun H1 s1 => ⟨_, rfl, ?_⟩⟩
      cases ee : Ks609.isElement rs ds with
      | false =>
        rw [ee, if_neg Bool.false_ne_true] at due
        refine iteT ⟨by show 1 ≤ sizeLine; decide, fun p np => ?_⟩
        refine q _ p (s1.trans (same_upd np)) (s1.free np) ?_
        rw [due]
        exact upd_same
      | true =>
        have el := (elem_iff rs ds).mp ee
        have hl := el.len
        rw [ee, if_pos rfl] at due
        refine iteF ?_
        have rg : RgC ((rs.length : Int) - 1) (-1) (-1) rs.length := by
          have z := RgC.neg (i := (rs.length : Int) - 1) (j := -1) (by omega) (by omega) (by decide) (by decide)
          rw [show ((rs.length : Int) - 1 - -1).toNat = rs.length by omega] at z
          exact z
        have hR1 := s1.seq hR
        have hD1 := s1.seq hD
        refine ⟨.ref a, rfl, a, _, rfl, .inl hR1, _, _, rfl, rfl, _, rfl, _, rfl, ((vsl rs).length : Int) - 1, -1, -1, rs.length, rfl, by rw [vsl_len]; exact rg, ?_⟩
        rw [vsl_len]
        refine for_rangeC (lo := (rs.length : Int) - 1) (c := -1) (n := rs.length)
          (fun i σ H' => ∃ v4 v5 : Option V, σ = [some (.ref a), some (.ref b), some (.int ((Ks609.size (rs.drop (rs.length - i)) : Nat) : Int)), some (.int ((Ks609.indexOf (rs.drop (rs.length - i)) (ds.drop (rs.length - i)) : Nat) : Int)), v4, v5] ∧ H' = H1)
          ⟨none, none, ?_, rfl⟩ ?_ ?_
        · rw [Nat.sub_zero, List.drop_length]
          rfl
        · rintro i σ H' hi ⟨v4, v5, rfl, rfl⟩
          -- the place j = length - 1 - i
          have hj : rs.length - i = (rs.length - (i + 1)) + 1 := by omega
          generalize hJ : rs.length - (i + 1) = j at *
          rw [hj]
          have hjr : j < rs.length := by omega
          have hjd : j < ds.length := by omega
          have hr1 : rs[j]? = some rs[j] := List.getElem?_eq_getElem hjr
          have hd1 : ds[j]? = some ds[j] := List.getElem?_eq_getElem hjd
          have hlt := el.at hr1 hd1
          have eJ : (rs.length : Int) - 1 + (i : Nat) * (-1) = (j : Int) := by omega
          rw [eJ]
          have hb := hg _ (List.mem_of_getElem? hr1)
          have e2 := drop_cons hr1
          have e3 := drop_cons hd1
          generalize rs[j] = r at *
          generalize ds[j] = d at *
          have eS : Ks609.size (rs.drop j) = r * Ks609.size (rs.drop (j + 1)) := by rw [e2, size_cons]
          have eI : Ks609.indexOf (rs.drop j) (ds.drop j) = d * Ks609.size (rs.drop (j + 1)) + My.inner d (Ks609.size (rs.drop (j + 1))) (Ks609.indexOf (rs.drop (j + 1)) (ds.drop (j + 1))) := by rw [e2, e3, indexOf_cons]
          have hI := indexOf_lt (el.drop (j + 1))
          have hs : Ks609.size (rs.drop (j + 1)) ≤ 7776 := size_small (hg.drop (j + 1)) (by rw [List.length_drop]; omega)
          rw [eS, eI]
          generalize Ks609.indexOf (rs.drop (j + 1)) (ds.drop (j + 1)) = pl at *
          generalize Ks609.size (rs.drop (j + 1)) = g at *
          have tail : ∀ (p2 : Int), p2 = ((My.inner d g pl : Nat) : Int) → ∃ v4 v5 : Option V, [some (V.ref a), some (.ref b), some (.int ((g : Int) * (r : Int))), some (.int ((d : Int) * (g : Int) + p2)), some (.int (j : Int)), some (.int (d : Int))] =
              [some (V.ref a), some (.ref b), some (.int ((r * g : Nat) : Int)), some (.int ((d * g + My.inner d g pl : Nat) : Int)), v4, v5] ∧ H' = H' := by
            intro p2 e
            refine ⟨some (.int (j : Int)), some (.int (d : Int)), ?_, rfl⟩
            rw [e, Int.natCast_add, Int.natCast_mul, Int.natCast_mul, Int.mul_comm (g : Int)]
          -- digit = element[position]
          refine ⟨.ref b, rfl, _, rfl, b, _, _, .int (d : Int), rfl, rfl, hD1, at_of rfl (vsl_of hd1), ?_⟩
          -- if digit % 2 == 1
          refine ⟨_, rfl, _, _, rfl, rfl, by show (0 : Int) < 2; decide, rfl, _, rfl, ite2 (fun c => ?_) (fun c => ?_)⟩
          · have c2 : (d : Int) % 2 = 1 := V.int.inj (of_decide_eq_true c)
            refine ⟨_, rfl, _, _, rfl, rfl, _, rfl, _, _, rfl, rfl, ?_⟩
            refine ⟨_, rfl, _, rfl, _, _, rfl, rfl, .inl ⟨by omega, by omega⟩, _, rfl, _, _, rfl, rfl, ?_⟩
            refine ⟨_, rfl, .ref a, rfl, _, rfl, a, _, _, .int (r : Int), rfl, rfl, hR1, at_of rfl (vsl_of hr1), _, _, rfl, rfl, .inl ⟨by omega, by omega⟩, ?_⟩
            exact tail ((g : Int) - 1 - (pl : Int)) (by unfold My.inner; rw [if_neg (by omega)]; omega)
          · have c2 : ¬ (d : Int) % 2 = 1 := fun z => c (decide_eq_true (congrArg V.int z))
            refine ⟨_, rfl, _, rfl, _, _, rfl, rfl, .inl ⟨by omega, by omega⟩, _, rfl, _, _, rfl, rfl, ?_⟩
            refine ⟨_, rfl, .ref a, rfl, _, rfl, a, _, _, .int (r : Int), rfl, rfl, hR1, at_of rfl (vsl_of hr1), _, _, rfl, rfl, .inl ⟨by omega, by omega⟩, ?_⟩
            exact tail (pl : Int) (by unfold My.inner; rw [if_pos (by omega)])
        · rintro σ H' ⟨v4, v5, rfl, rfl⟩
          rw [Nat.sub_self, List.drop_zero, List.drop_zero]
          refine ⟨_, rfl, by show 1 ≤ sizeLine; decide, fun p np => ?_⟩
          refine q _ p (s1.trans (same_upd np)) (s1.free np) ?_
          rw [due]
          exact upd_same
end
/-! ### the end -/
theorem all_mk {P : Program} {w : World} {K : PySem.W.Frag} {h : Heap} {mg : Str → Option Value} {fa f1 f2 f3 : Addr} (X : K.In h) (G : h.Ns mainGlobals mg) (hfa : mg "index_of" = some (.ref fa))
    {od1 an1 od2 an2 od3 an3 : Option Addr} {sl1 sl2 sl3 : Array (Option Value)} {oc1 kV1 dc1 pm1 cd1 ct1 oc2 kV2 dc2 pm2 cd2 ct2 oc3 kV3 dc3 pm3 cd3 ct3 : Value} {tk0 tk1 tk2 : Tok}
    (a1 : PySem.W.nsIn K mainGlobals "radices_within_limits" = some (some (.ref f1))) (l1 : K.lookup f1 = some ⟨oc1, od1, .func (PySem.W.fnOf "radices_within_limits" "radices_within_limits" (defArgs sVal) (defBody sVal) (defScope sVal) .none kV1 dc1 pm1 an1 cd1 ct1), sl1⟩) (c1 : PySem.W.codeIn K cd1 "radices_within_limits" = true) (k1 : PySem.W.keepIn K (.ref f1) = true)
    (a2 : PySem.W.nsIn K mainGlobals "is_element" = some (some (.ref f2))) (l2 : K.lookup f2 = some ⟨oc2, od2, .func (PySem.W.fnOf "is_element" "is_element" (defArgs sElem) (defBody sElem) (defScope sElem) .none kV2 dc2 pm2 an2 cd2 ct2), sl2⟩) (c2 : PySem.W.codeIn K cd2 "is_element" = true) (k2 : PySem.W.keepIn K (.ref f2) = true)
    (a3 : PySem.W.nsIn K mainGlobals "index_of" = some (some (.ref f3))) (l3 : K.lookup f3 = some ⟨oc3, od3, .func (PySem.W.fnOf "index_of" "index_of" (defArgs sOf) (defBody sOf) (defScope sOf) .none kV3 dc3 pm3 an3 cd3 ct3), sl3⟩) (c3 : PySem.W.codeIn K cd3 "index_of" = true) (k3 : PySem.W.keepIn K (.ref f3) = true)
    (z_len : PySem.W.nsIn K mainGlobals "len" = some none) (z_zip : PySem.W.nsIn K mainGlobals "zip" = some none) (z_range : PySem.W.nsIn K mainGlobals "range" = some none)
    (n0 : PySem.W.nsIn K mainGlobals "MOST_DIGITS" = some (some (.int (5) tk0))) (n1 : PySem.W.nsIn K mainGlobals "LARGEST_RADIX" = some (some (.int (6) tk1))) (n2 : PySem.W.nsIn K mainGlobals "OUTSIDE_LIMITS" = some (some (.int (-22) tk2))) :
    ∃ fd : FuncData, (∀ (s : Shared) (us : List Value), us.length = (["radices", "element"] : List Str).length → BindsTo s fd ⟨us, []⟩ ((["radices", "element"] : List Str).zip us)) ∧ ∀ base : Heap, K.In base → base.Ns mainGlobals mg → FnOk P w K mg base CX0 2 fa fd ["radices", "element"] (spOf K) := by
  have e := hfa.symm.trans (PySem.W.mg_of X G a3)
  cases e
  have F1 := fun_mk (st := sVal) l1 c1 k1
  have F2 := fun_mk (st := sElem) l2 c2 k2
  have F3 := fun_mk (st := sOf) l3 c3 k3
  have m_len := PySem.W.mg_none_of X G z_len
  have m_zip := PySem.W.mg_none_of X G z_zip
  have m_range := PySem.W.mg_none_of X G z_range
  have m_MOST_DIGITS := PySem.W.mg_of X G n0
  have m_LARGEST_RADIX := PySem.W.mg_of X G n1
  have m_OUTSIDE_LIMITS := PySem.W.mg_of X G n2
  have b1 := F1.binds (ps := ["radices"]) fun _ _ _ _ _ _ us hl => match us, hl with | [_], _ => rfl
  have g1 := PySem.W.mg_of X G a1
  have b2 := F2.binds (ps := ["element", "radices"]) fun _ _ _ _ _ _ us hl => match us, hl with | [_, _], _ => rfl
  have g2 := PySem.W.mg_of X G a2
  exact ⟨PySem.W.fnOf "index_of" "index_of" (defArgs sOf) (defBody sOf) (defScope sOf) .none kV3 dc3 pm3 an3 cd3 ct3, fun s us hu => match us, hu with | [_, _], _ => .of_eq rfl, fun base _ _ =>
    ok_of (k := 0) F3 k1 (ok_val F1 m_len m_MOST_DIGITS m_LARGEST_RADIX) b1 g1 k2 (ok_elem F2 m_len m_zip) b2 g2 m_len m_range m_OUTSIDE_LIMITS⟩
end Deed
open PySem PySem.W PyProof.Rows
set_option maxRecDepth 100000 in
set_option maxHeartbeats 8000000 in
theorem PySem.Challenge.cw_stepdigits_s02_index_of_holds : PySem.Challenge.rw_stepdigits_s02_index_of.Holds := by
  w_on; k_headS; (case hw => exact ⟨[.list [], .list []], by decide +kernel, by decide +kernel⟩)
  k_fillS
  refine L2.walk_specK (r := PySem.Challenge.rw_stepdigits_s02_index_of) (k := 2) (CX := L2.CX0) (ps := ["radices", "element"]) (sp := Deed.spOf) (by decide +kernel) rfl rfl ⟨rfl, by decide, by decide⟩ (fun w h Y => PySem.W.kIn_of Y) ?F ?S (fun _ _ _ _ z => z)
  case F =>
    intro w mg fa h Y KX G hmg
    refine' Deed.all_mk KX G hmg ?a1 ?l1 ?c1 ?k1 ?a2 ?l2 ?c2 ?k2 ?a3 ?l3 ?c3 ?k3 ?z_len ?z_zip ?z_range ?n0 ?n1 ?n2
    (case a1 => k_is)
    (case l1 => k_is)
    (case c1 => k_is)
    (case k1 => k_is)
    (case a2 => k_is)
    (case l2 => k_is)
    (case c2 => k_is)
    (case k2 => k_is)
    (case a3 => k_is)
    (case l3 => k_is)
    (case c3 => k_is)
    (case k3 => k_is)
    (case z_len => k_is)
    (case z_zip => k_is)
    (case z_range => k_is)
    (case n0 => k_is)
    (case n1 => k_is)
    (case n2 => k_is)
  case S =>
    intro K H xs a hO hwi hask hx
    obtain ⟨ns, ms, u⟩ := a
    have q : ((Codec.inLen 0 7 ns && ns.all (Codec.inInt 0 4294967295)) && ((Codec.inLen 0 7 ms && ms.all (Codec.inInt 0 4294967295)) && true)) = true := hwi
    rw [Bool.and_eq_true, Bool.and_eq_true, Bool.and_eq_true, Bool.and_eq_true] at q
    obtain ⟨⟨_, q1⟩, ⟨_, q2⟩, _⟩ := q
    obtain ⟨rs, rfl⟩ := My.nums_of ns fun y hy => (Codec.inInt_iff.mp (List.all_eq_true.mp q1 y hy)).1
    obtain ⟨ds, rfl⟩ := My.nums_of ms fun y hy => (Codec.inInt_iff.mp (List.all_eq_true.mp q2 y hy)).1
    cases hx with
    | cons h1 h2 =>
      cases h1 with
      | lst hs ha =>
        have e := L2.ints_dw _ _ ha
        subst e
        cases h2 with
        | cons h3 h4 =>
          cases h4
          cases h3 with
          | lst ht hb =>
            have e := L2.ints_dw _ _ hb
            subst e
            exact ⟨_, _, rs, ds, rfl, hs, ht, fun H' p _ _ hp => .lst (L2.SqL.of hp) (L2.dw_ints _)⟩
#print axioms PySem.Challenge.cw_stepdigits_s02_index_of_holds
