import PyProof.Rows.All
import Wide.All
import OpenK.AllK
import Wide.FinOn
import Open.SpecLaws
import KE.OsGo
import HandS.ForSpec
import HandS.ForMost
import HandS.Wide
import HandS.WideBits
import HandS.Rev
import HandS.Conv
import HandS.Walk
import HandS.RevRange
import HandS.NoneIn
import HandS.CallLocal
import HandS.ExcInit
import HandS.ClsMeth
import HandS.Lambda
import HandS.ExcOwn
import HandS.Head4
import HandS.HeadHook1
import HandS.HeadHook2
import PySem.Challenge.RW_rootcounts_s01_answers
set_option Elab.async false
set_option linter.all false
set_option maxRecDepth 100000
/-! ## RcA -/
/-! Lists of rationals as polynomials: coefficients, values, the specification's operations. -/
namespace RcA
open Kqg1

theorem cf_nil (i : Nat) : coefficient [] i = 0 := by simp [coefficient]
theorem cf_zero (c : Rat) (p : List Rat) : coefficient (c :: p) 0 = c := by simp [coefficient]
theorem cf_succ (c : Rat) (p : List Rat) (i : Nat) : coefficient (c :: p) (i + 1) = coefficient p i := by simp [coefficient]
theorem cf_ge (p : List Rat) (i : Nat) (h : p.length ≤ i) : coefficient p i = 0 := by
  simp [coefficient, List.getElem?_eq_none h]
theorem cf_lt (p : List Rat) (i : Nat) (h : i < p.length) : coefficient p i = p[i] := by
  simp [coefficient, List.getElem?_eq_getElem h]

theorem ev_nil (t : Rat) : evaluate [] t = 0 := rfl
theorem ev_cons (c : Rat) (p : List Rat) (t : Rat) : evaluate (c :: p) t = c + t * evaluate p t := rfl

/-! ### trim -/
theorem trim_nil : trim [] = [] := rfl
theorem trim_snoc (p : List Rat) (c : Rat) : trim (p ++ [c]) = if c = 0 then trim p else p ++ [c] := by
  unfold trim
  rw [List.reverse_append]
  by_cases h : c = 0
  · simp [h]
  · simp [h]
theorem lead_snoc (p : List Rat) (c : Rat) : leadingCoefficient (p ++ [c]) = c := by
  simp [leadingCoefficient]
theorem snoc_cases (p : List Rat) : p = [] ∨ ∃ q c, p = q ++ [c] := by
  rcases List.eq_nil_or_concat p with h | ⟨q, c, h⟩
  · exact .inl h
  · exact .inr ⟨q, c, by simpa using h⟩
theorem cf_snoc (p : List Rat) (c : Rat) (i : Nat) : coefficient (p ++ [c]) i = if i < p.length then coefficient p i else if i = p.length then c else 0 := by
  by_cases h : i < p.length
  · rw [if_pos h, cf_lt _ _ (by simp; omega), cf_lt _ _ h, List.getElem_append_left h]
  · rw [if_neg h]
    by_cases h2 : i = p.length
    · subst h2
      rw [if_pos rfl, cf_lt _ _ (by simp)]
      simp
    · rw [if_neg h2, cf_ge _ _ (by simp; omega)]
theorem snoc_induct {P : List Rat → Prop} (h0 : P []) (h1 : ∀ p c, P p → P (p ++ [c])) : ∀ p, P p := by
  intro p
  have : ∀ n, ∀ p : List Rat, p.length = n → P p := by
    intro n
    induction n with
    | zero => intro p hp; rw [List.length_eq_zero_iff.mp hp]; exact h0
    | succ n ih =>
      intro p hp
      rcases snoc_cases p with rfl | ⟨q, c, rfl⟩
      · simp at hp
      · exact h1 q c (ih q (by simpa using hp))
  exact this _ p rfl
theorem cf_trim (p : List Rat) : ∀ i, coefficient (trim p) i = coefficient p i := by
  refine snoc_induct (P := fun p => ∀ i, coefficient (trim p) i = coefficient p i) ?_ ?_ p
  · intro i; rfl
  · intro p c ih i
    rw [trim_snoc]
    by_cases h : c = 0
    · rw [if_pos h, ih, cf_snoc]
      subst h
      by_cases h2 : i < p.length
      · rw [if_pos h2]
      · rw [if_neg h2, cf_ge p i (by omega)]
        simp
    · rw [if_neg h]
theorem trim_len (p : List Rat) : (trim p).length ≤ p.length := by
  refine snoc_induct (P := fun p => (trim p).length ≤ p.length) ?_ ?_ p
  · exact Nat.le_refl _
  · intro p c ih
    rw [trim_snoc]
    split
    · simp; omega
    · exact Nat.le_refl _
/-- trimmed: empty, or the last coefficient isn't 0 -/
def Tr (p : List Rat) : Prop := trim p = p
theorem tr_nil : Tr [] := rfl
theorem tr_trim (p : List Rat) : Tr (trim p) := by
  refine snoc_induct (P := fun p => Tr (trim p)) ?_ ?_ p
  · rfl
  · intro p c ih
    unfold Tr at *
    rw [trim_snoc]
    by_cases h : c = 0
    · rw [if_pos h, ih]
    · rw [if_neg h, trim_snoc, if_neg h]
theorem tr_iff (p : List Rat) : Tr p ↔ p = [] ∨ leadingCoefficient p ≠ 0 := by
  rcases snoc_cases p with rfl | ⟨q, c, rfl⟩
  · simp [Tr, trim_nil]
  · unfold Tr
    rw [trim_snoc, lead_snoc]
    by_cases h : c = 0
    · rw [if_pos h]
      have := trim_len q
      constructor
      · intro e
        have := congrArg List.length e
        simp at this; omega
      · intro e; simp [h] at e
    · simp [h]
theorem lead_cf (p : List Rat) : leadingCoefficient p = coefficient p (p.length - 1) := by
  rcases snoc_cases p with rfl | ⟨q, c, rfl⟩
  · rfl
  · rw [lead_snoc, cf_snoc]
    simp
theorem tr_lead {p : List Rat} (h : Tr p) (hp : p ≠ []) : coefficient p (p.length - 1) ≠ 0 := by
  rw [← lead_cf]
  exact ((tr_iff p).mp h).resolve_left hp
theorem tr_of_lead {p : List Rat} (h : coefficient p (p.length - 1) ≠ 0) : Tr p := (tr_iff p).mpr (.inr (by rw [lead_cf]; exact h))
theorem len_le {p : List Rat} (h : Tr p) {n : Nat} (hn : ∀ i, n ≤ i → coefficient p i = 0) : p.length ≤ n := by
  rcases Nat.lt_or_ge n p.length with h1 | h1
  · have hp : p ≠ [] := by intro e; subst e; simp at h1
    exact absurd (hn (p.length - 1) (by omega)) (tr_lead h hp)
  · exact h1
theorem cf_ext {p q : List Rat} (hp : Tr p) (hq : Tr q) (h : ∀ i, coefficient p i = coefficient q i) : p = q := by
  have l1 : p.length ≤ q.length := len_le hp fun i hi => by rw [h, cf_ge q i hi]
  have l2 : q.length ≤ p.length := len_le hq fun i hi => by rw [← h, cf_ge p i hi]
  refine List.ext_getElem (by omega) fun i h1 h2 => ?_
  rw [← cf_lt p i h1, ← cf_lt q i h2, h]
theorem ev_zero : ∀ (p : List Rat) (t : Rat), (∀ i, coefficient p i = 0) → evaluate p t = 0
  | [], _, _ => rfl
  | c :: p, t, h => by
    have h0 := h 0
    rw [cf_zero] at h0
    rw [ev_cons, h0, ev_zero p t fun i => by rw [← cf_succ c p i, h]]
    grind
theorem ev_cf : ∀ (p q : List Rat) (t : Rat), (∀ i, coefficient p i = coefficient q i) → evaluate p t = evaluate q t
  | [], q, t, h => by rw [ev_nil, ev_zero q t fun i => by rw [← h, cf_nil]]
  | c :: p, [], t, h => by rw [ev_nil, ev_zero (c :: p) t fun i => by rw [h, cf_nil]]
  | c :: p, d :: q, t, h => by
    have h0 := h 0
    rw [cf_zero, cf_zero] at h0
    rw [ev_cons, ev_cons, h0, ev_cf p q t fun i => by rw [← cf_succ c p i, ← cf_succ d q i, h]]
theorem ev_trim (p : List Rat) (t : Rat) : evaluate (trim p) t = evaluate p t := ev_cf _ _ _ (cf_trim p)

/-! ### the specification's operations, coefficient by coefficient -/
theorem cf_range (n : Nat) (f : Nat → Rat) (i : Nat) : coefficient ((List.range n).map f) i = if i < n then f i else 0 := by
  by_cases h : i < n
  · rw [if_pos h, cf_lt _ _ (by simpa using h)]
    simp
  · rw [if_neg h, cf_ge _ _ (by simp; omega)]
theorem cf_add (p q : List Rat) (i : Nat) : coefficient (add p q) i = coefficient p i + coefficient q i := by
  unfold add
  rw [cf_trim, cf_range]
  split
  · rfl
  · rename_i h
    rw [cf_ge p i (by omega), cf_ge q i (by omega)]
    grind
theorem cf_map (p : List Rat) (c : Rat) (i : Nat) : coefficient (p.map fun x => c * x) i = c * coefficient p i := by
  by_cases h : i < p.length
  · rw [cf_lt _ _ (by simpa using h), cf_lt _ _ h]
    simp
  · rw [cf_ge _ _ (by simp; omega), cf_ge p i (by omega)]
    grind
theorem cf_scale (c : Rat) (p : List Rat) (i : Nat) : coefficient (scale c p) i = c * coefficient p i := by
  unfold scale
  rw [cf_trim, cf_map]
theorem cf_derivative (p : List Rat) (i : Nat) : coefficient (derivative p) i = ((i + 1 : Nat) : Rat) * coefficient p (i + 1) := by
  unfold derivative
  rw [cf_trim, cf_range]
  split
  · rfl
  · rename_i h
    rw [cf_ge p (i + 1) (by omega)]
    grind
def sumUp (f : Nat → Rat) : Nat → Rat
  | 0 => 0
  | n + 1 => sumUp f n + f n
theorem sum_range (f : Nat → Rat) (n : Nat) : ((List.range n).map f).foldl (fun x y => x + y) 0 = sumUp f n := by
  induction n with
  | zero => rfl
  | succ n ih => rw [List.range_succ, List.map_append, List.foldl_append, ih]; rfl
theorem sum_front (f : Nat → Rat) (n : Nat) : sumUp f (n + 1) = f 0 + sumUp (fun i => f (i + 1)) n := by
  induction n with
  | zero => simp only [sumUp]; grind
  | succ n ih =>
    rw [sumUp, ih]
    simp only [sumUp]
    grind
theorem sum_zero (f : Nat → Rat) (n : Nat) (h : ∀ i, i < n → f i = 0) : sumUp f n = 0 := by
  induction n with
  | zero => rfl
  | succ n ih => rw [sumUp, ih fun i hi => h i (by omega), h n (by omega)]; grind
theorem sum_congr {f g : Nat → Rat} {n : Nat} (h : ∀ i, i < n → f i = g i) : sumUp f n = sumUp g n := by
  induction n with
  | zero => rfl
  | succ n ih => rw [sumUp, sumUp, ih fun i hi => h i (by omega), h n (by omega)]
def conv (p q : List Rat) (i : Nat) : Rat := sumUp (fun j => coefficient p j * coefficient q (i - j)) (i + 1)
theorem cf_multiply (p q : List Rat) (i : Nat) : coefficient (multiply p q) i = conv p q i := by
  unfold multiply
  rw [cf_trim, cf_range, sum_range]
  split
  · rfl
  · rename_i h
    refine (sum_zero _ _ fun j hj => ?_).symm
    by_cases h1 : p.length ≤ j
    · rw [cf_ge p j h1]; grind
    · rw [cf_ge q (i - j) (by omega)]; grind
theorem conv_nil (q : List Rat) (i : Nat) : conv [] q i = 0 := sum_zero _ _ fun j _ => by rw [cf_nil]; grind
theorem conv_zero (c : Rat) (p q : List Rat) : conv (c :: p) q 0 = c * coefficient q 0 := by
  simp only [conv, sumUp, cf_zero]
  grind
theorem conv_succ (c : Rat) (p q : List Rat) (i : Nat) : conv (c :: p) q (i + 1) = c * coefficient q (i + 1) + conv p q i := by
  unfold conv
  rw [sum_front, cf_zero]
  congr 1
  refine sum_congr fun j hj => ?_
  rw [cf_succ]
  congr 2
  omega
/-- + of lists, as they stand -/
def ladd : List Rat → List Rat → List Rat
  | [], q => q
  | p, [] => p
  | c :: p, d :: q => (c + d) :: ladd p q
theorem cf_ladd : ∀ (p q : List Rat) (i : Nat), coefficient (ladd p q) i = coefficient p i + coefficient q i
  | [], q, i => by rw [ladd, cf_nil]; grind
  | c :: p, [], i => by rw [ladd, cf_nil] <;> grind
  | c :: p, d :: q, 0 => by rw [ladd, cf_zero, cf_zero, cf_zero]
  | c :: p, d :: q, i + 1 => by rw [ladd, cf_succ, cf_succ, cf_succ, cf_ladd p q i]
theorem ev_ladd : ∀ (p q : List Rat) (t : Rat), evaluate (ladd p q) t = evaluate p t + evaluate q t
  | [], q, t => by rw [ladd, ev_nil]; grind
  | c :: p, [], t => by rw [ladd, ev_nil] <;> grind
  | c :: p, d :: q, t => by rw [ladd, ev_cons, ev_cons, ev_cons, ev_ladd p q t]; grind
theorem ev_map (c : Rat) : ∀ (p : List Rat) (t : Rat), evaluate (p.map fun x => c * x) t = c * evaluate p t
  | [], t => by rw [List.map_nil, ev_nil]; grind
  | d :: p, t => by rw [List.map_cons, ev_cons, ev_cons, ev_map c p t]; grind
def lmul : List Rat → List Rat → List Rat
  | [], _ => []
  | c :: p, q => ladd (q.map fun x => c * x) (0 :: lmul p q)
theorem cf_lmul : ∀ (p q : List Rat) (i : Nat), coefficient (lmul p q) i = conv p q i
  | [], q, i => by rw [lmul, cf_nil, conv_nil]
  | c :: p, q, 0 => by rw [lmul, cf_ladd, cf_map, cf_zero, conv_zero]; grind
  | c :: p, q, i + 1 => by rw [lmul, cf_ladd, cf_map, cf_succ, conv_succ, cf_lmul p q i]
theorem ev_lmul : ∀ (p q : List Rat) (t : Rat), evaluate (lmul p q) t = evaluate p t * evaluate q t
  | [], q, t => by rw [lmul, ev_nil]; grind
  | c :: p, q, t => by rw [lmul, ev_ladd, ev_map, ev_cons, ev_cons, ev_lmul p q t]; grind
theorem ev_add (p q : List Rat) (t : Rat) : evaluate (add p q) t = evaluate p t + evaluate q t := by
  rw [← ev_ladd]
  exact ev_cf _ _ _ fun i => by rw [cf_add, cf_ladd]
theorem ev_scale (c : Rat) (p : List Rat) (t : Rat) : evaluate (scale c p) t = c * evaluate p t := by
  rw [← ev_map]
  exact ev_cf _ _ _ fun i => by rw [cf_scale, cf_map]
theorem ev_multiply (p q : List Rat) (t : Rat) : evaluate (multiply p q) t = evaluate p t * evaluate q t := by
  rw [← ev_lmul]
  exact ev_cf _ _ _ fun i => by rw [cf_multiply, cf_lmul]
theorem tr_add (p q : List Rat) : Tr (add p q) := tr_trim _
theorem tr_scale (c : Rat) (p : List Rat) : Tr (scale c p) := tr_trim _
theorem tr_multiply (p q : List Rat) : Tr (multiply p q) := tr_trim _
theorem tr_derivative (p : List Rat) : Tr (derivative p) := tr_trim _
/-- the derivative's value -/
def dv : List Rat → Rat → Rat
  | [], _ => 0
  | _ :: p, t => evaluate p t + t * dv p t
def lder : List Rat → List Rat
  | [] => []
  | _ :: p => ladd p (0 :: lder p)
theorem cf_lder : ∀ (p : List Rat) (i : Nat), coefficient (lder p) i = ((i + 1 : Nat) : Rat) * coefficient p (i + 1)
  | [], i => by rw [lder, cf_nil, cf_nil]; grind
  | c :: p, 0 => by rw [lder, cf_ladd, cf_zero, cf_succ]; grind
  | c :: p, i + 1 => by rw [lder, cf_ladd, cf_succ, cf_succ, cf_lder p i]; grind
theorem ev_lder : ∀ (p : List Rat) (t : Rat), evaluate (lder p) t = dv p t
  | [], _ => rfl
  | c :: p, t => by rw [lder, ev_ladd, ev_cons, ev_lder p t, dv]; grind
theorem ev_derivative (p : List Rat) (t : Rat) : evaluate (derivative p) t = dv p t := by
  rw [← ev_lder]
  exact ev_cf _ _ _ fun i => by rw [cf_derivative, cf_lder]
theorem dv_cf {p q : List Rat} (t : Rat) (h : ∀ i, coefficient p i = coefficient q i) : dv p t = dv q t := by
  rw [← ev_derivative, ← ev_derivative]
  exact ev_cf _ _ _ fun i => by rw [cf_derivative, cf_derivative, h]
theorem dv_ladd : ∀ (p q : List Rat) (t : Rat), dv (ladd p q) t = dv p t + dv q t
  | [], q, t => by rw [ladd, dv]; grind
  | c :: p, [], t => by rw [ladd, dv, dv] <;> grind
  | c :: p, d :: q, t => by rw [ladd, dv, dv, dv, ev_ladd, dv_ladd p q t]; grind
theorem dv_map (c : Rat) : ∀ (p : List Rat) (t : Rat), dv (p.map fun x => c * x) t = c * dv p t
  | [], t => by rw [List.map_nil, dv]; grind
  | d :: p, t => by rw [List.map_cons, dv, dv, ev_map, dv_map c p t]; grind
theorem dv_lmul : ∀ (p q : List Rat) (t : Rat), dv (lmul p q) t = dv p t * evaluate q t + evaluate p t * dv q t
  | [], q, t => by rw [lmul, dv, ev_nil]; grind
  | c :: p, q, t => by rw [lmul, dv_ladd, dv_map, dv, ev_lmul, dv_lmul p q t, dv, ev_cons]; grind
theorem dv_multiply (p q : List Rat) (t : Rat) : dv (multiply p q) t = dv p t * evaluate q t + evaluate p t * dv q t := by
  rw [← dv_lmul]
  exact dv_cf _ fun i => by rw [cf_multiply, cf_lmul]
theorem dv_scale (c : Rat) (p : List Rat) (t : Rat) : dv (scale c p) t = c * dv p t := by
  rw [← dv_map]
  exact dv_cf _ fun i => by rw [cf_scale, cf_map]
theorem dv_add (p q : List Rat) (t : Rat) : dv (add p q) t = dv p t + dv q t := by
  rw [← dv_ladd]
  exact dv_cf _ fun i => by rw [cf_add, cf_ladd]
end RcA

/-! ## RcB -/
/-! Values far out, a polynomial's coefficients from its values, division, common divisors. -/
namespace RcB
open Kqg1 RcA

theorem snoc_ne {p : List Rat} (hp : p ≠ []) : ∃ q c, p = q ++ [c] := (snoc_cases p).resolve_left hp
theorem lead_cons (c : Rat) {p : List Rat} (hp : p ≠ []) : leadingCoefficient (c :: p) = leadingCoefficient p := by
  obtain ⟨q, d, rfl⟩ := snoc_ne hp
  have : c :: (q ++ [d]) = (c :: q) ++ [d] := rfl
  rw [this, lead_snoc, lead_snoc]
theorem lead_one (c : Rat) : leadingCoefficient [c] = c := rfl
/-- far out on the right a polynomial has its leading coefficient's sign, and stays away from 0 -/
theorem grows : ∀ (p : List Rat), 0 < leadingCoefficient p → ∃ B d : Rat, 0 ≤ B ∧ 0 < d ∧ ∀ t, B ≤ t → d ≤ evaluate p t
  | [], h => absurd h (by simp [leadingCoefficient])
  | [c], h => ⟨0, c, Rat.le_refl, h, fun t _ => by rw [ev_cons, ev_nil]; grind⟩
  | c :: e :: p, h => by
    rw [lead_cons c (by simp)] at h
    obtain ⟨B, d, h0, h1, h2⟩ := grows (e :: p) h
    have hc := Rat.abs_nonneg (x := c)
    have hc2 : -c ≤ c.abs := by
      rcases Rat.le_total (a := 0) (b := c) with z | z
      · rw [Rat.abs_of_nonneg z]; grind
      · rw [Rat.abs_of_nonpos z]; grind
    have e1 : (c.abs + 1) / d * d = c.abs + 1 := Rat.div_mul_cancel (by grind)
    have e2 : 0 ≤ (c.abs + 1) / d := by
      rcases Rat.le_total (a := 0) (b := (c.abs + 1) / d) with z | z
      · exact z
      · have := Rat.mul_le_mul_of_nonneg_right z (Rat.le_of_lt h1)
        grind
    refine ⟨B + (c.abs + 1) / d, 1, by grind, by grind, fun t ht => ?_⟩
    rw [ev_cons]
    have a1 := h2 t (by grind)
    have a2 : 0 ≤ t := by grind
    have a3 : (c.abs + 1) / d * d ≤ t * d := Rat.mul_le_mul_of_nonneg_right (by grind) (Rat.le_of_lt h1)
    have a4 : t * d ≤ t * evaluate (e :: p) t := Rat.mul_le_mul_of_nonneg_left a1 a2
    grind
theorem lead_scale {c : Rat} {p : List Rat} (hc : c ≠ 0) (hp : Tr p) : scale c p = p.map (fun x => c * x) ∧ leadingCoefficient (scale c p) = c * leadingCoefficient p := by
  rcases snoc_cases p with rfl | ⟨q, d, rfl⟩
  · exact ⟨rfl, by simp [leadingCoefficient, scale, trim_nil]⟩
  · have hd : d ≠ 0 := by
      have := ((tr_iff _).mp hp).resolve_left (by simp)
      rwa [lead_snoc] at this
    have e : scale c (q ++ [d]) = q.map (fun x => c * x) ++ [c * d] := by
      unfold scale
      rw [List.map_append, List.map_cons, List.map_nil, trim_snoc, if_neg]
      intro h
      rcases Rat.mul_eq_zero.mp h with h | h
      · exact hc h
      · exact hd h
    rw [e, lead_snoc, lead_snoc]
    simp
theorem grows_neg (p : List Rat) (hp : Tr p) (h : leadingCoefficient p < 0) : ∃ B d : Rat, 0 ≤ B ∧ 0 < d ∧ ∀ t, B ≤ t → evaluate p t ≤ -d := by
  obtain ⟨_, e⟩ := lead_scale (c := -1) (p := p) (by decide) hp
  obtain ⟨B, d, h0, h1, h2⟩ := grows (scale (-1) p) (by rw [e]; grind)
  refine ⟨B, d, h0, h1, fun t ht => ?_⟩
  have := h2 t ht
  rw [ev_scale] at this
  grind
theorem far_ne {p : List Rat} (hp : Tr p) (h : p ≠ []) : ∃ B : Rat, ∀ t, B ≤ t → evaluate p t ≠ 0 := by
  have hl := ((tr_iff p).mp hp).resolve_left h
  rcases Rat.le_total (a := 0) (b := leadingCoefficient p) with z | z
  · obtain ⟨B, d, h0, h1, h2⟩ := grows p (Rat.lt_of_le_of_ne z (Ne.symm hl))
    exact ⟨B, fun t ht => by have := h2 t ht; grind⟩
  · obtain ⟨B, d, h0, h1, h2⟩ := grows_neg p hp (Rat.lt_of_le_of_ne z hl)
    exact ⟨B, fun t ht => by have := h2 t ht; grind⟩
/-- coefficients from values -/
theorem cf_of_far {p q : List Rat} (B : Rat) (h : ∀ t, B ≤ t → evaluate p t = evaluate q t) (i : Nat) : coefficient p i = coefficient q i := by
  have e : ∀ i, coefficient (add p (scale (-1) q)) i = coefficient p i - coefficient q i := fun i => by rw [cf_add, cf_scale]; grind
  have z : add p (scale (-1) q) = [] := by
    refine Classical.byContradiction fun hn => ?_
    obtain ⟨C, hC⟩ := far_ne (tr_add _ _) hn
    refine hC (B.abs + C.abs) ?_ ?_
    · have := Rat.abs_nonneg (x := B)
      have hc2 : C ≤ C.abs := by
        rcases Rat.le_total (a := 0) (b := C) with z | z
        · rw [Rat.abs_of_nonneg z]; grind
        · rw [Rat.abs_of_nonpos z]; grind
      grind
    · rw [ev_add, ev_scale, h _ ?_]
      · grind
      · have := Rat.abs_nonneg (x := C)
        have hc2 : B ≤ B.abs := by
          rcases Rat.le_total (a := 0) (b := B) with z | z
          · rw [Rat.abs_of_nonneg z]; grind
          · rw [Rat.abs_of_nonpos z]; grind
        grind
  have := e i
  rw [z, cf_nil] at this
  grind
theorem cf_of_ev {p q : List Rat} (h : ∀ t, evaluate p t = evaluate q t) (i : Nat) : coefficient p i = coefficient q i := cf_of_far 0 (fun t _ => h t) i
theorem eq_of_ev {p q : List Rat} (hp : Tr p) (hq : Tr q) (h : ∀ t, evaluate p t = evaluate q t) : p = q := cf_ext hp hq (cf_of_ev h)
theorem ne_nil_of_ev {p : List Rat} {t : Rat} (h : evaluate p t ≠ 0) : p ≠ [] := by
  intro e
  subst e
  exact h rfl
theorem exists_ne {p : List Rat} (hp : Tr p) (h : p ≠ []) : ∃ t, evaluate p t ≠ 0 := by
  obtain ⟨B, hB⟩ := far_ne hp h
  exact ⟨B, hB B Rat.le_refl⟩
/-- cancel a factor that isn't 0 -/
theorem cancel {d a b : List Rat} (hd : Tr d) (hn : d ≠ []) (h : ∀ t, evaluate d t * evaluate a t = evaluate d t * evaluate b t) : ∀ t, evaluate a t = evaluate b t := by
  obtain ⟨B, hB⟩ := far_ne hd hn
  intro t
  refine ev_cf _ _ _ (cf_of_far B fun t ht => ?_)
  have h1 := h t
  have h2 := hB t ht
  have h3 : evaluate d t * (evaluate a t - evaluate b t) = 0 := by grind
  rcases Rat.mul_eq_zero.mp h3 with z | z
  · exact absurd z h2
  · grind
theorem mul_ne {p q : List Rat} (hp : Tr p) (hq : Tr q) (h1 : p ≠ []) (h2 : q ≠ []) : multiply p q ≠ [] := by
  obtain ⟨B, hB⟩ := far_ne hp h1
  obtain ⟨C, hC⟩ := far_ne hq h2
  have a1 : ∃ t, B ≤ t ∧ C ≤ t := by
    rcases Rat.le_total (a := B) (b := C) with z | z
    · exact ⟨C, z, Rat.le_refl⟩
    · exact ⟨B, Rat.le_refl, z⟩
  obtain ⟨t, b1, b2⟩ := a1
  refine ne_nil_of_ev (t := t) ?_
  rw [ev_multiply]
  intro z
  rcases Rat.mul_eq_zero.mp z with z | z
  · exact hB t b1 z
  · exact hC t b2 z
/-- the top coefficient of a product -/
theorem conv_top (p q : List Rat) : coefficient (multiply p q) (p.length - 1 + (q.length - 1)) = coefficient p (p.length - 1) * coefficient q (q.length - 1) := by
  rw [cf_multiply]
  unfold conv
  have key : ∀ (n : Nat), p.length - 1 < n → n ≤ p.length - 1 + (q.length - 1) + 1 → sumUp (fun j => coefficient p j * coefficient q (p.length - 1 + (q.length - 1) - j)) n = coefficient p (p.length - 1) * coefficient q (q.length - 1) := by
    intro n
    induction n with
    | zero => intro h; omega
    | succ n ih =>
      intro h h2
      rw [sumUp]
      by_cases c : p.length - 1 < n
      · rw [ih c (by omega), cf_ge p n (by omega)]
        grind
      · have : n = p.length - 1 := by omega
        subst this
        rw [sum_zero]
        · rw [show p.length - 1 + (q.length - 1) - (p.length - 1) = q.length - 1 by omega]
          grind
        · intro i hi
          rw [cf_ge q _ (by omega)]
          grind
  exact key _ (by omega) (Nat.le_refl _)
theorem len_mul {p q : List Rat} (hp : Tr p) (hq : Tr q) (h1 : p ≠ []) (h2 : q ≠ []) : (multiply p q).length = p.length + q.length - 1 := by
  have l1 : 0 < p.length := List.length_pos_iff.mpr h1
  have l2 : 0 < q.length := List.length_pos_iff.mpr h2
  have a : (multiply p q).length ≤ p.length + q.length - 1 := by
    unfold multiply
    refine Nat.le_trans (trim_len _) ?_
    simp
  have b : ¬ (multiply p q).length < p.length + q.length - 1 := by
    intro hlt
    have t := conv_top p q
    rw [cf_ge _ _ (by omega)] at t
    rcases Rat.mul_eq_zero.mp t.symm with z | z
    · exact tr_lead hp h1 z
    · exact tr_lead hq h2 z
  omega
theorem lead_mul {p q : List Rat} (hp : Tr p) (hq : Tr q) (h1 : p ≠ []) (h2 : q ≠ []) : leadingCoefficient (multiply p q) = leadingCoefficient p * leadingCoefficient q := by
  have l1 : 0 < p.length := List.length_pos_iff.mpr h1
  have l2 : 0 < q.length := List.length_pos_iff.mpr h2
  rw [lead_cf, lead_cf, lead_cf, ← conv_top, len_mul hp hq h1 h2]
  congr 1
  omega
/-! ### division -/
theorem cf_rep (k : Nat) (c : Rat) (i : Nat) : coefficient (List.replicate k 0 ++ [c]) i = if i = k then c else 0 := by
  rw [cf_snoc]
  simp only [List.length_replicate]
  by_cases h : i < k
  · rw [if_pos h, if_neg (by omega), cf_lt _ _ (by simpa using h)]
    simp
  · rw [if_neg h]
theorem tr_term (k : Nat) {c : Rat} (hc : c ≠ 0) : Tr (List.replicate k 0 ++ [c]) := (tr_iff _).mpr (.inr (by rwa [lead_snoc]))
/-- one step of the division -/
def dstep (p q : List Rat) : List Rat := add p (scale (-1) (multiply (List.replicate (p.length - q.length) 0 ++ [leadingCoefficient p / leadingCoefficient q]) q))
theorem conv_term (k : Nat) (c : Rat) (q : List Rat) (i : Nat) : conv (List.replicate k 0 ++ [c]) q i = if k ≤ i then c * coefficient q (i - k) else 0 := by
  induction k generalizing i with
  | zero =>
    show conv [c] q i = _
    cases i with
    | zero => rw [conv_zero]; simp
    | succ i => rw [conv_succ, conv_nil]; simp; grind
  | succ k ih =>
    rw [List.replicate_succ, List.cons_append]
    cases i with
    | zero => rw [conv_zero]; simp
    | succ i =>
      rw [conv_succ, ih]
      simp only [Nat.add_le_add_iff_right, Nat.add_sub_add_right]
      grind
theorem cf_dstep (p q : List Rat) (i : Nat) : coefficient (dstep p q) i = coefficient p i - (if p.length - q.length ≤ i then leadingCoefficient p / leadingCoefficient q * coefficient q (i - (p.length - q.length)) else 0) := by
  unfold dstep
  rw [cf_add, cf_scale, cf_multiply, conv_term]
  grind
theorem dstep_len {p q : List Rat} (hq : Tr q) (hn : q ≠ []) (hp : p ≠ []) (h : q.length ≤ p.length) : (dstep p q).length < p.length := by
  have l1 : 0 < p.length := List.length_pos_iff.mpr hp
  have l2 : 0 < q.length := List.length_pos_iff.mpr hn
  have : (dstep p q).length ≤ p.length - 1 := by
    refine len_le (tr_add _ _) fun i hi => ?_
    show coefficient (dstep p q) i = 0
    rw [cf_dstep, if_pos (by omega)]
    by_cases c : i = p.length - 1
    · have e : i - (p.length - q.length) = q.length - 1 := by omega
      rw [e, c, ← lead_cf, ← lead_cf, Rat.div_mul_cancel (((tr_iff q).mp hq).resolve_left hn)]
      grind
    · rw [cf_ge p i (by omega), cf_ge q _ (by omega)]
      grind
  omega
theorem divide_zero (q p a : List Rat) : divide 0 q p a = (a, p) := rfl
theorem divide_done (n : Nat) {q p a : List Rat} (h : p.length < q.length ∨ p = []) : divide (n + 1) q p a = (a, p) := by
  rw [divide, if_pos h]
theorem divide_more (n : Nat) {q p a : List Rat} (h : ¬ (p.length < q.length ∨ p = [])) :
    divide (n + 1) q p a = divide n q (dstep p q) (add a (List.replicate (p.length - q.length) 0 ++ [leadingCoefficient p / leadingCoefficient q])) := by
  rw [divide, if_neg h]
  rfl
theorem divide_is (q : List Rat) (hq : Tr q) (hn : q ≠ []) : ∀ (n : Nat) (p a : List Rat), Tr p → Tr a → p.length < n →
    Tr (divide n q p a).1 ∧ Tr (divide n q p a).2 ∧ (divide n q p a).2.length < q.length ∧
    ∀ t, evaluate p t + evaluate a t * evaluate q t = evaluate (divide n q p a).2 t + evaluate (divide n q p a).1 t * evaluate q t := by
  have l2 : 0 < q.length := List.length_pos_iff.mpr hn
  intro n
  induction n with
  | zero => intro p a _ _ h; omega
  | succ n ih =>
    intro p a hp ha h
    by_cases c : p.length < q.length ∨ p = []
    · rw [divide_done n c]
      refine ⟨ha, hp, ?_, fun t => rfl⟩
      rcases c with c | c
      · exact c
      · subst c; exact l2
    · rw [divide_more n c]
      have c1 : ¬ p.length < q.length := fun z => c (.inl z)
      have c2 : p ≠ [] := fun z => c (.inr z)
      have hl := dstep_len hq hn c2 (by omega)
      obtain ⟨b1, b2, b3, b4⟩ := ih (dstep p q) (add a (List.replicate (p.length - q.length) 0 ++ [leadingCoefficient p / leadingCoefficient q])) (tr_add _ _) (tr_add _ _) (by omega)
      refine ⟨b1, b2, b3, fun t => ?_⟩
      rw [← b4 t]
      unfold dstep
      rw [ev_add, ev_add, ev_scale, ev_multiply]
      grind
theorem div_spec {p q : List Rat} (hp : Tr p) (hq : Tr q) (hn : q ≠ []) :
    Tr (quotient p q) ∧ Tr (remainder p q) ∧ (remainder p q).length < q.length ∧ ∀ t, evaluate p t = evaluate (quotient p q) t * evaluate q t + evaluate (remainder p q) t := by
  obtain ⟨a, b, c, d⟩ := divide_is q hq hn (p.length + 1) p [] hp tr_nil (Nat.lt_succ_self _)
  refine ⟨a, b, c, fun t => ?_⟩
  have := d t
  rw [ev_nil] at this
  unfold quotient remainder
  grind
/-- d divides p -/
def Dv (d p : List Rat) : Prop := ∃ a, ∀ t, evaluate p t = evaluate d t * evaluate a t
theorem Dv.tr {d p : List Rat} (h : Dv d p) : ∃ a, Tr a ∧ ∀ t, evaluate p t = evaluate d t * evaluate a t := by
  obtain ⟨a, e⟩ := h
  exact ⟨trim a, tr_trim a, fun t => by rw [ev_trim, e]⟩
theorem Dv.refl (p : List Rat) : Dv p p := ⟨[1], fun t => by rw [ev_cons, ev_nil]; grind⟩
theorem Dv.nil (p : List Rat) : Dv p [] := ⟨[], fun t => by rw [ev_nil]; grind⟩
theorem Dv.trans {a b c : List Rat} (h1 : Dv a b) (h2 : Dv b c) : Dv a c := by
  obtain ⟨x, e⟩ := h1
  obtain ⟨y, f⟩ := h2
  exact ⟨multiply x y, fun t => by rw [f, e, ev_multiply]; grind⟩
theorem Dv.len {d p : List Rat} (h : Dv d p) (hd : Tr d) (hp : Tr p) (hn : p ≠ []) : d ≠ [] ∧ ∃ a, Tr a ∧ a ≠ [] ∧ p = multiply d a ∧ p.length = d.length + a.length - 1 := by
  obtain ⟨a, ha, e⟩ := h.tr
  have hdn : d ≠ [] := by
    intro z
    subst z
    obtain ⟨t, ht⟩ := exists_ne hp hn
    apply ht
    rw [e, ev_nil]
    grind
  have han : a ≠ [] := by
    intro z
    subst z
    obtain ⟨t, ht⟩ := exists_ne hp hn
    apply ht
    rw [e, ev_nil]
    grind
  have ep : p = multiply d a := eq_of_ev hp (tr_multiply _ _) fun t => by rw [ev_multiply, e]
  refine ⟨hdn, a, ha, han, ep, ?_⟩
  have l := len_mul hd ha hdn han
  rw [← ep] at l
  exact l
/-- the euclidean algorithm -/
theorem euclid_is : ∀ (n : Nat) (p q : List Rat), Tr p → Tr q → (p ≠ [] ∨ q ≠ []) → q.length < n →
    Tr (euclid n p q) ∧ euclid n p q ≠ [] ∧ Dv (euclid n p q) p ∧ Dv (euclid n p q) q ∧ ∃ u v, ∀ t, evaluate (euclid n p q) t = evaluate u t * evaluate p t + evaluate v t * evaluate q t := by
  intro n
  induction n with
  | zero => intro p q _ _ _ h; omega
  | succ n ih =>
    intro p q hp hq hpq h
    by_cases c : q = []
    · rw [euclid, if_pos c]
      subst c
      refine ⟨hp, hpq.resolve_right (by simp), .refl p, .nil p, [1], [], fun t => ?_⟩
      rw [ev_cons, ev_nil]
      grind
    · rw [euclid, if_neg c]
      obtain ⟨d1, d2, d3, d4⟩ := div_spec hp hq c
      obtain ⟨b1, b2, b3, b4, u, v, b5⟩ := ih q (remainder p q) hq d2 (.inl c) (by omega)
      refine ⟨b1, b2, ?_, b3, v, add u (scale (-1) (multiply v (quotient p q))), fun t => ?_⟩
      · obtain ⟨x, ex⟩ := b3
        obtain ⟨y, ey⟩ := b4
        exact ⟨add (multiply (quotient p q) x) y, fun t => by rw [d4, ey, ev_add, ev_multiply, ex]; grind⟩
      · rw [b5, ev_add, ev_scale, ev_multiply]
        have := d4 t
        grind
theorem monic_is {p : List Rat} (hp : Tr p) (hn : p ≠ []) : Tr (monic p) ∧ monic p ≠ [] ∧ leadingCoefficient (monic p) = 1 ∧ (monic p).length = p.length ∧ ∀ t, evaluate p t = leadingCoefficient p * evaluate (monic p) t := by
  have hl := ((tr_iff p).mp hp).resolve_left hn
  have e : monic p = scale (1 / leadingCoefficient p) p := by rw [monic, if_neg hn]
  have h1 : (1 : Rat) / leadingCoefficient p ≠ 0 := by
    intro z
    have := Rat.div_mul_cancel (a := 1) hl
    rw [z] at this
    grind
  obtain ⟨f, g⟩ := lead_scale h1 hp
  refine ⟨by rw [e]; exact tr_scale _ _, ?_, ?_, ?_, fun t => ?_⟩
  · rw [e, f]
    simpa using hn
  · rw [e, g]
    exact Rat.div_mul_cancel hl
  · rw [e, f]
    simp
  · rw [e, ev_scale, ← Rat.mul_assoc, Rat.mul_comm (leadingCoefficient p), Rat.div_mul_cancel hl]
    grind
/-- the monic greatest common divisor -/
theorem gcd_is {p q : List Rat} (hp : Tr p) (hq : Tr q) (hpq : p ≠ [] ∨ q ≠ []) :
    Tr (gcd p q) ∧ gcd p q ≠ [] ∧ leadingCoefficient (gcd p q) = 1 ∧ Dv (gcd p q) p ∧ Dv (gcd p q) q ∧ ∃ u v, ∀ t, evaluate (gcd p q) t = evaluate u t * evaluate p t + evaluate v t * evaluate q t := by
  obtain ⟨a1, a2, a3, a4, u, v, a5⟩ := euclid_is (p.length + q.length + 2) p q hp hq hpq (by omega)
  obtain ⟨b1, b2, b3, b4, b5⟩ := monic_is a1 a2
  have hl := ((tr_iff _).mp a1).resolve_left a2
  have key : ∀ t, evaluate (gcd p q) t = 1 / leadingCoefficient (euclid (p.length + q.length + 2) p q) * evaluate (euclid (p.length + q.length + 2) p q) t := fun t => by
    unfold gcd
    rw [monic, if_neg a2, ev_scale]
  refine ⟨b1, b2, b3, ?_, ?_, scale (1 / leadingCoefficient (euclid (p.length + q.length + 2) p q)) u, scale (1 / leadingCoefficient (euclid (p.length + q.length + 2) p q)) v, fun t => ?_⟩
  · obtain ⟨x, ex⟩ := a3
    refine ⟨scale (leadingCoefficient (euclid (p.length + q.length + 2) p q)) x, fun t => ?_⟩
    rw [ex, b5, ev_scale]
    unfold gcd
    grind
  · obtain ⟨x, ex⟩ := a4
    refine ⟨scale (leadingCoefficient (euclid (p.length + q.length + 2) p q)) x, fun t => ?_⟩
    rw [ex, b5, ev_scale]
    unfold gcd
    grind
  · rw [key, a5, ev_scale, ev_scale]
    grind
end RcB

/-! ## RcC -/
/-! The squarefree part has no factor in common with its derivative. -/
namespace RcC
open Kqg1 RcA RcB

theorem rem_nil {p g : List Rat} (hp : Tr p) (hg : Tr g) (hn : g ≠ []) (h : Dv g p) : remainder p g = [] := by
  obtain ⟨a1, a2, a3, a4⟩ := div_spec hp hg hn
  refine Classical.byContradiction fun hr => ?_
  obtain ⟨x, ex⟩ := h
  have hd : Dv g (remainder p g) := ⟨add x (scale (-1) (quotient p g)), fun t => by
    rw [ev_add, ev_scale]
    have := a4 t
    rw [ex] at this
    grind⟩
  obtain ⟨_, y, _, hy, _, l⟩ := hd.len hg a2 hr
  have := List.length_pos_iff.mpr hy
  omega
theorem quot_mul {p g : List Rat} (hp : Tr p) (hg : Tr g) (hn : g ≠ []) (h : Dv g p) : ∀ t, evaluate p t = evaluate g t * evaluate (quotient p g) t := by
  intro t
  obtain ⟨_, _, _, a4⟩ := div_spec hp hg hn
  rw [a4, rem_nil hp hg hn h, ev_nil]
  grind
theorem dv_of_ev {p q : List Rat} (h : ∀ t, evaluate p t = evaluate q t) (t : Rat) : dv p t = dv q t := dv_cf t (cf_of_ev h)
/-- no common factor, step by step: d ^ k divides g for every k -/
theorem no_factor {g s h d a b u v : List Rat} (hdt : Tr d) (hd : 2 ≤ d.length)
    (bez : ∀ t, 1 = evaluate u t * evaluate s t + evaluate v t * evaluate h t)
    (e1 : ∀ t, evaluate g t * evaluate h t = dv g t * evaluate s t + evaluate g t * dv s t)
    (es : ∀ t, evaluate s t = evaluate d t * evaluate a t)
    (eb : ∀ t, dv s t = evaluate d t * evaluate b t)
    (e2 : ∀ t, dv s t = dv d t * evaluate a t + evaluate d t * dv a t) :
    ∀ (n : Nat) (e D : List Rat) (k : Rat), e.length ≤ n → Tr e → e ≠ [] → Tr D → D ≠ [] →
      (∀ t, evaluate d t * dv D t = k * (evaluate D t * dv d t)) → (∀ t, evaluate g t = evaluate D t * evaluate e t) → False := by
  intro n
  induction n with
  | zero => intro e D k hl _ hn; exact absurd (List.length_eq_zero_iff.mp (by omega)) hn
  | succ n ih =>
    intro e D k hl he hen hD hDn hk hg
    have hdn : d ≠ [] := by intro z; subst z; simp at hd
    have hdg : ∀ t, dv g t = dv D t * evaluate e t + evaluate D t * dv e t := fun t => by
      rw [← dv_multiply]
      exact dv_of_ev (fun t => by rw [ev_multiply, hg]) t
    -- e h = d w
    let w : List Rat := add (scale k (multiply e (add b (scale (-1) (derivative a))))) (add (multiply (derivative e) a) (multiply e b))
    have hw : ∀ t, evaluate e t * evaluate h t = evaluate d t * evaluate w t := by
      intro t
      have := cancel (a := multiply e h) (b := multiply d w) hD hDn (fun t => ?_) t
      · rwa [ev_multiply, ev_multiply] at this
      · rw [ev_multiply, ev_multiply]
        show _ = evaluate D t * (evaluate d t * evaluate (add (scale k (multiply e (add b (scale (-1) (derivative a))))) (add (multiply (derivative e) a) (multiply e b))) t)
        simp only [ev_add, ev_scale, ev_multiply, ev_derivative]
        have h1 := e1 t
        rw [hdg, hg, es] at h1
        have h2 := hk t
        have h3 := e2 t
        rw [eb] at h3
        have h4 := eb t
        rw [h4] at h1
        grind
    let f : List Rat := add (multiply u (multiply e a)) (multiply v w)
    have hf : ∀ t, evaluate e t = evaluate d t * evaluate f t := by
      intro t
      show _ = evaluate d t * evaluate (add (multiply u (multiply e a)) (multiply v w)) t
      rw [ev_add, ev_multiply, ev_multiply, ev_multiply]
      have h1 := bez t
      rw [es] at h1
      have h2 := hw t
      grind
    obtain ⟨_, x, hx, hxn, ex, lx⟩ := Dv.len ⟨f, hf⟩ hdt he hen
    refine ih x (multiply D d) (k + 1) (by omega) hx hxn (tr_multiply _ _) (mul_ne hD hdt hDn hdn) (fun t => ?_) (fun t => ?_)
    · rw [dv_multiply, ev_multiply]
      have := hk t
      grind
    · rw [hg, ev_multiply, ex, ev_multiply]
      grind
theorem sqf_is {p : List Rat} (hp : Tr p) (hn : 2 ≤ p.length) :
    Tr (squarefree p) ∧ 2 ≤ (squarefree p).length ∧ (∀ t, evaluate p t = evaluate (gcd p (derivative p)) t * evaluate (squarefree p) t) ∧
    ∃ u v, ∀ t, 1 = evaluate u t * evaluate (squarefree p) t + evaluate v t * dv (squarefree p) t := by
  have hpn : p ≠ [] := by intro z; subst z; simp at hn
  obtain ⟨g1, g2, g3, g4, g5, u, v, g6⟩ := gcd_is hp (tr_derivative p) (.inl hpn)
  have hs : squarefree p = quotient p (gcd p (derivative p)) := by rw [squarefree, if_neg (by omega)]
  have hst : Tr (squarefree p) := by rw [hs]; exact (div_spec hp g1 g2).1
  have hm : ∀ t, evaluate p t = evaluate (gcd p (derivative p)) t * evaluate (squarefree p) t := by rw [hs]; exact quot_mul hp g1 g2 g4
  generalize squarefree p = s at hst hm hs
  generalize gcd p (derivative p) = g at g1 g2 g3 g4 g5 g6 hm hs
  obtain ⟨h, eh⟩ := g5
  have bez : ∀ t, 1 = evaluate u t * evaluate s t + evaluate v t * evaluate h t := by
    intro t
    have := cancel (a := [1]) (b := add (multiply u s) (multiply v h)) g1 g2 (fun t => ?_) t
    · rw [ev_cons, ev_nil, ev_add, ev_multiply, ev_multiply] at this
      grind
    · rw [ev_cons, ev_nil, ev_add, ev_multiply, ev_multiply]
      have h1 := g6 t
      rw [hm, eh] at h1
      grind
  have hsn : s ≠ [] := by
    intro z
    obtain ⟨t, ht⟩ := exists_ne hp hpn
    apply ht
    rw [hm, z, ev_nil]
    grind
  have e1 : ∀ t, evaluate g t * evaluate h t = dv g t * evaluate s t + evaluate g t * dv s t := fun t => by
    rw [← eh, ev_derivative, ← dv_multiply]
    exact dv_of_ev (fun t => by rw [ev_multiply, hm]) t
  obtain ⟨d1, d2, d3, d4, d5, x, y, d6⟩ := gcd_is hst (tr_derivative s) (.inl hsn)
  generalize gcd s (derivative s) = d at d1 d2 d3 d4 d5 d6
  obtain ⟨a, ea⟩ := d4
  obtain ⟨b, eb⟩ := d5
  have eb' : ∀ t, dv s t = evaluate d t * evaluate b t := fun t => by rw [← ev_derivative, eb]
  have hlen : d.length ≤ 1 := by
    refine Nat.le_of_lt_succ (Nat.lt_of_not_le fun hd => ?_)
    refine no_factor d1 hd bez e1 ea eb' (fun t => ?_) g.length g [1] 0 (Nat.le_refl _) g1 g2 ((tr_iff _).mpr (.inr (by rw [lead_one]; decide))) (by simp) (fun t => ?_) (fun t => ?_)
    · rw [← dv_multiply]
      exact dv_of_ev (fun t => by rw [ev_multiply, ea]) t
    · show evaluate d t * (evaluate [] t + t * dv [] t) = _
      rw [ev_nil, dv]
      grind
    · rw [ev_cons, ev_nil]
      grind
  have dd : d = [1] := by
    match d, d2, hlen, d3 with
    | [c], _, _, h => rw [lead_one] at h; rw [h]
  refine ⟨hst, ?_, hm, x, y, fun t => ?_⟩
  · -- a constant squarefree part: then p and g have the same length, but g divides the derivative
    have lp : p.length = g.length + s.length - 1 := by
      have : p = multiply g s := eq_of_ev hp (tr_multiply _ _) fun t => by rw [ev_multiply, hm]
      rw [this, len_mul g1 hst g2 hsn]
    have ldn : derivative p ≠ [] := by
      intro z
      have := cf_derivative p (p.length - 2)
      rw [z, cf_nil, show p.length - 2 + 1 = p.length - 1 by omega] at this
      rcases Rat.mul_eq_zero.mp this.symm with w | w
      · have : (0 : Rat) < ((p.length - 1 : Nat) : Rat) := Rat.natCast_pos.mpr (by omega)
        grind
      · exact tr_lead hp hpn w
    obtain ⟨_, z, _, hz, _, lz⟩ := Dv.len ⟨h, eh⟩ g1 (tr_derivative p) ldn
    have l3 : (derivative p).length ≤ p.length - 1 := by
      unfold derivative
      refine Nat.le_trans (trim_len _) ?_
      simp
    have := List.length_pos_iff.mpr hz
    have := List.length_pos_iff.mpr g2
    omega
  · have := d6 t
    rw [dd, ev_cons, ev_nil, ev_derivative] at this
    grind
end RcC

/-! ## RcD -/
/-! Sturm's theorem without real numbers: the number of sign changes doesn't grow from left to right. -/
namespace RcD
open Kqg1 RcA RcB RcC

def Bd (M z : Rat) : Prop := -M ≤ z ∧ z ≤ M
theorem Bd.le {M N z : Rat} (h : Bd M z) (h2 : M ≤ N) : Bd N z := by unfold Bd at *; grind
theorem Bd.add {M N y z : Rat} (h : Bd M y) (h2 : Bd N z) : Bd (M + N) (y + z) := by unfold Bd at *; grind
theorem Bd.neg {M y : Rat} (h : Bd M y) : Bd M (-y) := by unfold Bd at *; grind
theorem Bd.mul {M N y z : Rat} (h : Bd M y) (h2 : Bd N z) : Bd (M * N) (y * z) := by
  unfold Bd at *
  have a1 := Rat.mul_nonneg (a := M - y) (b := N + z) (by grind) (by grind)
  have a2 := Rat.mul_nonneg (a := M + y) (b := N - z) (by grind) (by grind)
  have a3 := Rat.mul_nonneg (a := M - y) (b := N - z) (by grind) (by grind)
  have a4 := Rat.mul_nonneg (a := M + y) (b := N + z) (by grind) (by grind)
  grind
theorem Bd.nonneg {M z : Rat} (h : Bd M z) : 0 ≤ M := by unfold Bd at *; grind
theorem bd_self (z : Rat) : ∃ M, 0 ≤ M ∧ Bd M z := by
  rcases Rat.le_total (a := 0) (b := z) with h | h
  · exact ⟨z, h, by unfold Bd; grind⟩
  · exact ⟨-z, by grind, by unfold Bd; grind⟩
/-- first and second difference quotients -/
def dq : List Rat → Rat → Rat → Rat
  | [], _, _ => 0
  | _ :: p, x, y => evaluate p y + x * dq p x y
def dq2 : List Rat → Rat → Rat → Rat
  | [], _, _ => 0
  | _ :: p, x, y => dq p x y + x * dq2 p x y
theorem dq_is : ∀ (p : List Rat) (x y : Rat), evaluate p y - evaluate p x = (y - x) * dq p x y
  | [], x, y => by rw [ev_nil, ev_nil, dq]; grind
  | c :: p, x, y => by
    rw [ev_cons, ev_cons, dq]
    have := dq_is p x y
    grind
theorem dq2_is : ∀ (p : List Rat) (x y : Rat), dq p x y - dv p x = (y - x) * dq2 p x y
  | [], x, y => by rw [dq, dv, dq2]; grind
  | c :: p, x, y => by
    rw [dq, dv, dq2]
    have := dq2_is p x y
    have := dq_is p x y
    grind
theorem bounds (R : Rat) (hR : 0 ≤ R) : ∀ p : List Rat, ∃ M, 0 ≤ M ∧ ∀ x y, Bd R x → Bd R y → Bd M (evaluate p y) ∧ Bd M (dq p x y) ∧ Bd M (dq2 p x y)
  | [] => ⟨0, Rat.le_refl, fun x y _ _ => by rw [ev_nil, dq, dq2]; unfold Bd; grind⟩
  | c :: p => by
    obtain ⟨M, h0, h⟩ := bounds R hR p
    obtain ⟨C, c0, hc⟩ := bd_self c
    have h1 := Rat.mul_nonneg hR h0
    refine ⟨C + M + R * M, by grind, fun x y hx hy => ?_⟩
    obtain ⟨a1, a2, a3⟩ := h x y hx hy
    rw [ev_cons, dq, dq2]
    exact ⟨(hc.add (hy.mul a1)).le (by grind), (a1.add (hx.mul a2)).le (by grind), (a2.add (hx.mul a3)).le (by grind)⟩
/-! ### nested intervals -/
structure Nest (a b : Nat → Rat) : Prop where
  lt : ∀ n, a n < b n
  left : ∀ n, a n ≤ a (n + 1)
  right : ∀ n, b (n + 1) ≤ b n
  small : ∀ e, 0 < e → ∃ n, b n - a n ≤ e
def In (a b : Nat → Rat) (n : Nat) (x : Rat) : Prop := a n ≤ x ∧ x ≤ b n
theorem Nest.mono {a b : Nat → Rat} (h : Nest a b) : ∀ {n m : Nat}, n ≤ m → a n ≤ a m ∧ b m ≤ b n := by
  intro n m hm
  induction hm with
  | refl => exact ⟨Rat.le_refl, Rat.le_refl⟩
  | step _ ih =>
    rename_i k _
    have := h.left k
    have := h.right k
    grind
theorem Nest.within {a b : Nat → Rat} (h : Nest a b) {n m : Nat} (hm : n ≤ m) {x : Rat} (hx : In a b m x) : In a b n x := by
  have := h.mono hm
  unfold In at *
  grind
theorem Nest.inL {a b : Nat → Rat} (h : Nest a b) (n : Nat) : In a b n (a n) := ⟨Rat.le_refl, Rat.le_of_lt (h.lt n)⟩
theorem Nest.inR {a b : Nat → Rat} (h : Nest a b) (n : Nat) : In a b n (b n) := ⟨Rat.le_of_lt (h.lt n), Rat.le_refl⟩
theorem Nest.bd {a b : Nat → Rat} (_h : Nest a b) : ∃ R, 0 ≤ R ∧ ∀ x, In a b 0 x → Bd R x := by
  obtain ⟨A, a0, ha⟩ := bd_self (a 0)
  obtain ⟨B, b0, hb⟩ := bd_self (b 0)
  refine ⟨A + B, by grind, fun x hx => ?_⟩
  unfold In at hx
  unfold Bd at *
  grind
theorem Nest.fine {a b : Nat → Rat} (h : Nest a b) {e : Rat} (he : 0 < e) : ∃ N, ∀ n, N ≤ n → b n - a n ≤ e := by
  obtain ⟨N, hN⟩ := h.small e he
  refine ⟨N, fun n hn => ?_⟩
  have := h.mono hn
  grind
/-- a function of the point that becomes small -/
def Small (a b : Nat → Rat) (F : Rat → Rat) : Prop := ∀ e, 0 < e → ∃ N, ∀ n, N ≤ n → ∀ x, In a b n x → Bd e (F x)
/-- .. that keeps away from 0, with the sign s -/
def Away (a b : Nat → Rat) (F : Rat → Rat) (s : Rat) : Prop := ∃ d, 0 < d ∧ ∃ N, ∀ n, N ≤ n → ∀ x, In a b n x → d ≤ s * F x
section
variable {a b : Nat → Rat}
theorem Small.congr {F G : Rat → Rat} (h : Small a b F) (e : ∀ x, F x = G x) : Small a b G := by
  have : F = G := funext e
  rw [← this]
  exact h
theorem Small.add {F G : Rat → Rat} (h : Small a b F) (g : Small a b G) : Small a b (fun x => F x + G x) := by
  intro e he
  obtain ⟨N, hN⟩ := h (e / 2) (by grind)
  obtain ⟨M, hM⟩ := g (e / 2) (by grind)
  refine ⟨N + M, fun n hn x hx => ?_⟩
  exact ((hN n (by omega) x hx).add (hM n (by omega) x hx)).le (by grind)
theorem Small.neg {F : Rat → Rat} (h : Small a b F) : Small a b (fun x => -F x) := by
  intro e he
  obtain ⟨N, hN⟩ := h e he
  exact ⟨N, fun n hn x hx => (hN n hn x hx).neg⟩
theorem Small.mul (I : Nest a b) (q : List Rat) {F : Rat → Rat} (h : Small a b F) : Small a b (fun x => evaluate q x * F x) := by
  intro e he
  obtain ⟨R, r0, hR⟩ := I.bd
  obtain ⟨M, m0, hM⟩ := bounds R r0 q
  have hm : (0 : Rat) < M + 1 := by grind
  have e1 : e / (M + 1) * (M + 1) = e := Rat.div_mul_cancel (by grind)
  have e2 : 0 < e / (M + 1) := by
    rcases Rat.le_total (a := e / (M + 1)) (b := 0) with z | z
    · have := Rat.mul_le_mul_of_nonneg_right z (Rat.le_of_lt hm)
      grind
    · refine Rat.lt_of_le_of_ne z fun z => ?_
      rw [← z] at e1
      grind
  obtain ⟨N, hN⟩ := h (e / (M + 1)) e2
  refine ⟨N, fun n hn x hx => ?_⟩
  have h1 := hR x (I.within (Nat.zero_le n) hx)
  have h2 := (hM x x h1 h1).1
  have := (h2.le (show M ≤ M + 1 by grind)).mul (hN n hn x hx)
  exact this.le (by grind)
theorem not_small_one (I : Nest a b) (h : Small a b (fun _ => 1)) : False := by
  obtain ⟨N, hN⟩ := h (1 / 2) (by grind)
  have := (hN N (Nat.le_refl _) _ (I.inL N)).2
  grind
theorem Away.not_small (I : Nest a b) {F : Rat → Rat} {s : Rat} (hs : s = 1 ∨ s = -1) (h : Away a b F s) (g : Small a b F) : False := by
  obtain ⟨d, d0, N, hN⟩ := h
  obtain ⟨M, hM⟩ := g (d / 2) (by grind)
  have h1 := hN (N + M) (by omega) _ (I.inL _)
  have h2 := hM (N + M) (by omega) _ (I.inL _)
  unfold Bd at h2
  rcases hs with rfl | rfl <;> grind
/-- each polynomial either becomes small or keeps away from 0 -/
theorem small_or (I : Nest a b) (p : List Rat) : Small a b (evaluate p) ∨ ∃ s, (s = 1 ∨ s = -1) ∧ Away a b (evaluate p) s := by
  refine Classical.or_iff_not_imp_left.mpr fun hns => ?_
  have : ∃ e, 0 < e ∧ ∀ N, ∃ n, N ≤ n ∧ ∃ x, In a b n x ∧ ¬ Bd e (evaluate p x) := by
    refine Classical.byContradiction fun hc => hns fun e he => Classical.byContradiction fun hd => hc ⟨e, he, fun N => ?_⟩
    refine Classical.byContradiction fun hf => hd ⟨N, fun n hn x hx => Classical.byContradiction fun hb => hf ⟨n, hn, x, hx, hb⟩⟩
  obtain ⟨e, he, hN⟩ := this
  obtain ⟨R, r0, hR⟩ := I.bd
  obtain ⟨M, m0, hM⟩ := bounds R r0 p
  have hm : (0 : Rat) < 2 * (M + 1) := by grind
  have e1 : e / (2 * (M + 1)) * (2 * (M + 1)) = e := Rat.div_mul_cancel (by grind)
  have e2 : 0 < e / (2 * (M + 1)) := by
    rcases Rat.le_total (a := e / (2 * (M + 1))) (b := 0) with z | z
    · have := Rat.mul_le_mul_of_nonneg_right z (Rat.le_of_lt hm)
      grind
    · refine Rat.lt_of_le_of_ne z fun z => ?_
      rw [← z] at e1
      grind
  obtain ⟨N, hw⟩ := I.small _ e2
  obtain ⟨n, hn, x, hx, hb⟩ := hN N
  have hxN := I.within hn hx
  have h1 := hR x (I.within (Nat.zero_le n) hx)
  have near : ∀ m, N ≤ m → ∀ y, In a b m y → Bd (e / 2) (evaluate p y - evaluate p x) := by
    intro m hm y hy
    have hyN := I.within hm hy
    have h2 := hR y (I.within (Nat.zero_le m) hy)
    rw [dq_is]
    have h3 := (hM x y h1 h2).2.1
    have h4 : Bd (e / (2 * (M + 1))) (y - x) := by
      unfold In at hxN hyN
      unfold Bd
      grind
    exact (h4.mul (h3.le (show M ≤ M + 1 by grind))).le (by grind)
  rcases Classical.em (e < evaluate p x) with c | c
  · refine ⟨1, .inl rfl, e / 2, by grind, N, fun m hm y hy => ?_⟩
    have := near m hm y hy
    unfold Bd at this
    grind
  · refine ⟨-1, .inr rfl, e / 2, by grind, N, fun m hm y hy => ?_⟩
    have := near m hm y hy
    unfold Bd at this hb
    grind
/-! ### sign changes of a list of values -/
def sc : Rat → List Rat → Nat
  | _, [] => 0
  | l, x :: r => if x = 0 then sc l r else (if l * x < 0 then 1 else 0) + sc x r
/-- a chain: each but the first two is what is left, with the other sign -/
def Linked : List (List Rat) → Prop
  | [] => True
  | [_] => True
  | [f, g] => ∃ q, ∀ t, evaluate f t = evaluate q t * evaluate g t
  | f :: g :: h :: r => (∃ q, ∀ t, evaluate f t = evaluate q t * evaluate g t - evaluate h t) ∧ Linked (g :: h :: r)
def vals (l : List (List Rat)) (x : Rat) : List Rat := l.map fun p => evaluate p x
theorem pm_mul {s t x y d e : Rat} (hs : s = 1 ∨ s = -1) (ht : t = 1 ∨ t = -1) (hd : 0 < d) (he : 0 < e) (hx : d ≤ s * x) (hy : e ≤ t * y) : x ≠ 0 ∧ y ≠ 0 ∧ (x * y < 0 ↔ s ≠ t) := by
  have h := Rat.mul_pos (a := s * x) (b := t * y) (by grind) (by grind)
  rcases hs with rfl | rfl <;> rcases ht with rfl | rfl <;> grind
theorem tail_const (I : Nest a b) : ∀ (n : Nat) (r : List (List Rat)) (g : List Rat) (s : Rat), r.length ≤ n → Linked (g :: r) → (s = 1 ∨ s = -1) → Away a b (evaluate g) s →
    ∃ c N, ∀ m, N ≤ m → ∀ x, In a b m x → sc (evaluate g x) (vals r x) = c := by
  intro n
  induction n with
  | zero =>
    intro r g s hr _ _ _
    have : r = [] := List.length_eq_zero_iff.mp (by omega)
    subst this
    exact ⟨0, 0, fun _ _ _ _ => rfl⟩
  | succ n ih =>
    intro r g s hr hl hs hg
    match r, hr, hl with
    | [], _, _ => exact ⟨0, 0, fun _ _ _ _ => rfl⟩
    | h :: r, hr, hl =>
      have hl' : Linked (h :: r) := by
        match r, hl with
        | [], _ => trivial
        | k :: r, hl => exact hl.2
      rcases small_or I h with hh | ⟨t, ht, hh⟩
      · match r, hr, hl, hl' with
        | [], _, hl, _ =>
          obtain ⟨q, hq⟩ := hl
          exact (hg.not_small I hs ((hh.mul I q).congr fun x => (hq x).symm)).elim
        | k :: r, hr, hl, hl' =>
          obtain ⟨⟨q, hq⟩, hl2⟩ := hl
          -- k keeps away from 0 with the other sign
          obtain ⟨d, d0, N, hN⟩ := hg
          obtain ⟨M, hM⟩ := hh.mul I q (d / 2) (by grind)
          have hk : ∀ m, N + M ≤ m → ∀ x, In a b m x → d / 2 ≤ -s * evaluate k x := by
            intro m hm x hx
            have h1 := hN m (by omega) x hx
            have h2 := hM m (by omega) x hx
            have h3 := hq x
            unfold Bd at h2
            rcases hs with rfl | rfl <;> grind
          have hl3 : Linked (k :: r) := by
            match r, hl2 with
            | [], _ => trivial
            | j :: r, hl2 => exact hl2.2
          obtain ⟨c, K, hc⟩ := ih r k (-s) (by simp at hr; omega) hl3 (by grind) ⟨d / 2, by grind, N + M, hk⟩
          refine ⟨1 + c, N + M + K, fun m hm x hx => ?_⟩
          have h1 := hc m (by omega) x hx
          have h2 := hN m (by omega) x hx
          have h3 := hk m (by omega) x hx
          have h4 := pm_mul hs (show -s = 1 ∨ -s = -1 by grind) d0 (show 0 < d / 2 by grind) h2 h3
          have h5 : evaluate g x * evaluate k x < 0 := h4.2.2.mpr (by grind)
          show sc (evaluate g x) (evaluate h x :: evaluate k x :: vals r x) = 1 + c
          rw [sc]
          by_cases z : evaluate h x = 0
          · rw [if_pos z, sc, if_neg h4.2.1, if_pos h5, h1]
          · rw [if_neg z, sc, if_neg h4.2.1, h1, ← Nat.add_assoc]
            congr 1
            have h6 : evaluate g x * evaluate h x < 0 ↔ ¬ evaluate h x * evaluate k x < 0 := by
              have h7 : 0 < evaluate h x * evaluate h x := by
                rcases Rat.le_total (a := 0) (b := evaluate h x) with w | w
                · exact Rat.mul_pos (Rat.lt_of_le_of_ne w (Ne.symm z)) (Rat.lt_of_le_of_ne w (Ne.symm z))
                · have w2 := Rat.lt_of_le_of_ne w z
                  have := Rat.mul_pos (a := -evaluate h x) (b := -evaluate h x) (by grind) (by grind)
                  grind
              -- (g h)(h k) = (g k)(h h) < 0
              have h8 := Rat.mul_pos (a := -(evaluate g x * evaluate k x)) (b := evaluate h x * evaluate h x) (by grind) h7
              constructor
              · intro w1 w2
                have := Rat.mul_pos (a := -(evaluate g x * evaluate h x)) (b := -(evaluate h x * evaluate k x)) (by grind) (by grind)
                grind
              · intro w1
                refine Rat.not_le.mp fun w2 => ?_
                have := Rat.mul_nonneg w2 (Rat.not_lt.mp w1)
                grind
            by_cases w : evaluate g x * evaluate h x < 0
            · rw [if_pos w, if_neg (h6.mp w)]
            · rw [if_neg w, if_pos (Classical.not_not.mp fun z => w (h6.mpr z))]
      · obtain ⟨c, K, hc⟩ := ih r h t (by simp at hr; omega) hl' ht hh
        obtain ⟨d, d0, N, hN⟩ := hg
        obtain ⟨e, e0, M, hM⟩ := hh
        refine ⟨(if s ≠ t then 1 else 0) + c, K + N + M, fun m hm x hx => ?_⟩
        have h1 := hc m (by omega) x hx
        have h2 := hN m (by omega) x hx
        have h3 := hM m (by omega) x hx
        have h4 := pm_mul hs ht d0 e0 h2 h3
        show sc (evaluate g x) (evaluate h x :: vals r x) = _
        rw [sc, if_neg h4.2.1, h1]
        congr 1
        by_cases w : s ≠ t
        · rw [if_pos w, if_pos (h4.2.2.mpr w)]
        · rw [if_neg w, if_neg fun z => w (h4.2.2.mp z)]
theorem prod_inc {s A B w q : Rat} (h1 : B - A = w * q) (h : 0 < w * (s * q)) : s * A < s * B := by
  have e : s * B - s * A = w * (s * q) := by grind
  grind
theorem ltle {a b c : Rat} (h : a < b) (h2 : b ≤ c) : a < c := by grind
theorem half_pos {d : Rat} (h : 0 < d) : 0 < d / 2 := by grind
/-- a Sturm chain -/
structure Chain (f g : List Rat) (r : List (List Rat)) : Prop where
  link : Linked (f :: g :: r)
  der : ∀ t, evaluate g t = dv f t
  bez : ∃ u v, ∀ t, 1 = evaluate u t * evaluate f t + evaluate v t * evaluate g t
def V (l : List (List Rat)) (x : Rat) : Nat := sc 0 (vals l x)
theorem local_sturm (I : Nest a b) {f g : List Rat} {r : List (List Rat)} (h : Chain f g r) :
    ∃ N, ∀ n, N ≤ n → V (f :: g :: r) (b n) ≤ V (f :: g :: r) (a n) ∧ (evaluate f (b n) = 0 → V (f :: g :: r) (b n) + 1 ≤ V (f :: g :: r) (a n)) := by
  have z0 : ∀ x : Rat, ¬ (0 : Rat) * x < 0 := fun x => by rw [Rat.zero_mul]; exact Rat.lt_irrefl
  rcases small_or I f with hf | ⟨s, hs, hf⟩
  · rcases small_or I g with hg | ⟨s, hs, hg⟩
    · obtain ⟨u, v, e⟩ := h.bez
      exact (not_small_one I (((hf.mul I u).add (hg.mul I v)).congr fun x => (e x).symm)).elim
    · have hl : Linked (g :: r) := by
        have := h.link
        match r, this with
        | [], _ => trivial
        | k :: r, hl => exact hl.2
      obtain ⟨c, K, hc⟩ := tail_const I r.length r g s (Nat.le_refl _) hl hs hg
      obtain ⟨d, d0, N, hN⟩ := hg
      obtain ⟨R, r0, hR⟩ := I.bd
      obtain ⟨M, m0, hM⟩ := bounds R r0 f
      have hm : (0 : Rat) < 2 * (M + 1) := by grind
      have e1 : d / (2 * (M + 1)) * (2 * (M + 1)) = d := Rat.div_mul_cancel (by grind)
      have e2 : 0 < d / (2 * (M + 1)) := by
        rcases Rat.le_total (a := d / (2 * (M + 1))) (b := 0) with z | z
        · have := Rat.mul_le_mul_of_nonneg_right z (Rat.le_of_lt hm)
          grind
        · refine Rat.lt_of_le_of_ne z fun z => ?_
          rw [← z] at e1
          grind
      obtain ⟨W, hW⟩ := I.fine e2
      refine ⟨K + N + W, fun n hn => ?_⟩
      have val : ∀ x, In a b n x → V (f :: g :: r) x = (if evaluate f x * evaluate g x < 0 then 1 else 0) + c := by
        intro x hx
        have h1 := hc n (by omega) x hx
        have h2 := hN n (by omega) x hx
        have hg0 : evaluate g x ≠ 0 := by
          intro z
          rw [z] at h2
          grind
        show sc 0 (evaluate f x :: evaluate g x :: vals r x) = _
        rw [sc]
        by_cases z : evaluate f x = 0
        · rw [if_pos z, sc, if_neg hg0, if_neg (z0 _), h1, z, if_neg (z0 _)]
        · rw [if_neg z, if_neg (z0 _), sc, if_neg hg0, h1, Nat.zero_add]
      have inc : s * evaluate f (a n) < s * evaluate f (b n) := by
        have hA := hR _ (I.within (Nat.zero_le n) (I.inL n))
        have hB := hR _ (I.within (Nat.zero_le n) (I.inR n))
        have h1 := dq_is f (a n) (b n)
        have h2 := dq2_is f (a n) (b n)
        have h3 := (hM _ _ hA hB).2.2
        have h4 := hN n (by omega) _ (I.inL n)
        rw [h.der] at h4
        have h5 := hW n (by omega)
        have h6 := I.lt n
        have h7 : Bd (d / (2 * (M + 1))) (b n - a n) := by unfold Bd; grind
        have h8 := (h7.mul (h3.le (show M ≤ M + 1 by grind))).le (show d / (2 * (M + 1)) * (M + 1) ≤ d / 2 by grind)
        rw [← h2] at h8
        have h9 : d / 2 ≤ s * dq f (a n) (b n) := by
          unfold Bd at h8
          rcases hs with rfl | rfl <;> grind
        have h10 := Rat.mul_pos (a := b n - a n) (b := s * dq f (a n) (b n)) ((Rat.lt_iff_sub_pos _ _).mp h6) (ltle (half_pos d0) h9)
        exact prod_inc h1 h10
      have hgA := hN n (by omega) _ (I.inL n)
      have hgB := hN n (by omega) _ (I.inR n)
      rw [val _ (I.inL n), val _ (I.inR n)]
      -- the sign of f g is that of s f
      have sgn : ∀ x, d ≤ s * evaluate g x → (evaluate f x * evaluate g x < 0 ↔ s * evaluate f x < 0) := by
        intro x hx
        have ss : s * s = 1 := by rcases hs with rfl | rfl <;> grind
        have e : evaluate f x * evaluate g x = s * evaluate f x * (s * evaluate g x) := by grind
        rw [e]
        constructor
        · intro w
          refine Rat.not_le.mp fun z => ?_
          have := Rat.mul_nonneg (a := s * evaluate f x) (b := s * evaluate g x) z (by grind)
          grind
        · intro w
          have := Rat.mul_pos (a := -(s * evaluate f x)) (b := s * evaluate g x) (by grind) (by grind)
          grind
      constructor
      · by_cases w : evaluate f (b n) * evaluate g (b n) < 0
        · have w1 := (sgn _ hgB).mp w
          rw [if_pos w, if_pos ((sgn _ hgA).mpr (by grind))]
          exact Nat.le_refl _
        · rw [if_neg w]
          omega
      · intro z
        rw [if_pos ((sgn _ hgA).mpr (by rw [z] at inc; grind)), z, if_neg (z0 _)]
        omega
  · obtain ⟨c, K, hc⟩ := tail_const I (r.length + 1) (g :: r) f s (Nat.le_refl _) h.link hs hf
    obtain ⟨d, d0, N, hN⟩ := hf
    refine ⟨K + N, fun n hn => ?_⟩
    have val : ∀ x, In a b n x → evaluate f x ≠ 0 ∧ V (f :: g :: r) x = c := by
      intro x hx
      have h1 := hc n (by omega) x hx
      have h2 := hN n (by omega) x hx
      have hg0 : evaluate f x ≠ 0 := by
        intro z
        rw [z] at h2
        grind
      refine ⟨hg0, ?_⟩
      show sc 0 (evaluate f x :: vals (g :: r) x) = _
      rw [sc, if_neg hg0, if_neg (z0 _), h1, Nat.zero_add]
    rw [(val _ (I.inL n)).2, (val _ (I.inR n)).2]
    exact ⟨Nat.le_refl _, fun z => absurd z (val _ (I.inR n)).1⟩
end
/-! ### from the small to the large -/
theorem arch (C : Rat) : ∃ n : Nat, C ≤ (n : Rat) := by
  refine ⟨C.ceil.toNat, ?_⟩
  have h1 : C ≤ (C.ceil : Rat) := Rat.le_ceil
  have h2 : (C.ceil : Rat) ≤ ((C.ceil.toNat : Int) : Rat) := Rat.intCast_le_intCast.mpr (Int.self_le_toNat _)
  have h3 : ((C.ceil.toNat : Int) : Rat) = ((C.ceil.toNat : Nat) : Rat) := rfl
  rw [h3] at h2
  exact Rat.le_trans h1 h2
theorem halves_small {w : Nat → Rat} (h0 : ∀ n, 0 ≤ w n) (h : ∀ n, w (n + 1) = w n / 2) {e : Rat} (he : 0 < e) : ∃ n, w n ≤ e := by
  have key : ∀ n : Nat, w n * ((n + 1 : Nat) : Rat) ≤ w 0 := by
    intro n
    induction n with
    | zero => grind
    | succ n ih =>
      rw [h]
      have : (0 : Rat) ≤ w n * (n : Rat) := Rat.mul_nonneg (h0 n) Rat.natCast_nonneg
      grind
  obtain ⟨n, hn⟩ := arch (w 0 / e)
  refine ⟨n, ?_⟩
  have h1 := key n
  have h2 : w 0 / e * e = w 0 := Rat.div_mul_cancel (by grind)
  have h3 := Rat.mul_le_mul_of_nonneg_right hn (Rat.le_of_lt he)
  rw [h2] at h3
  refine Rat.not_lt.mp fun hlt => ?_
  have h4 : (0 : Rat) < ((n + 1 : Nat) : Rat) := Rat.natCast_pos.mpr (by omega)
  have h5 := Rat.mul_lt_mul_of_pos_right hlt h4
  grind
/-- halving again and again, always the half that is bad -/
noncomputable def halve (W : Rat → Nat) (x y : Rat) : Nat → Rat × Rat
  | 0 => (x, y)
  | n + 1 =>
    let p := halve W x y n
    let m := (p.1 + p.2) / 2
    if W p.1 < W m then (p.1, m) else (m, p.2)
theorem sturm_mono {f g : List Rat} {r : List (List Rat)} (h : Chain f g r) {x y : Rat} (hxy : x ≤ y) : V (f :: g :: r) y ≤ V (f :: g :: r) x := by
  refine Nat.le_of_not_lt fun hbad => ?_
  have hlt : x < y := Rat.lt_of_le_of_ne hxy fun z => by subst z; omega
  generalize hW : V (f :: g :: r) = W at hbad
  have step : ∀ n, halve W x y (n + 1) = if W (halve W x y n).1 < W (((halve W x y n).1 + (halve W x y n).2) / 2) then ((halve W x y n).1, ((halve W x y n).1 + (halve W x y n).2) / 2) else (((halve W x y n).1 + (halve W x y n).2) / 2, (halve W x y n).2) := fun n => rfl
  have inv : ∀ n, (halve W x y n).1 < (halve W x y n).2 ∧ W (halve W x y n).1 < W (halve W x y n).2 := by
    intro n
    induction n with
    | zero => exact ⟨hlt, hbad⟩
    | succ n ih =>
      rw [step]
      by_cases c : W (halve W x y n).1 < W (((halve W x y n).1 + (halve W x y n).2) / 2)
      · rw [if_pos c]
        exact ⟨by show (halve W x y n).1 < ((halve W x y n).1 + (halve W x y n).2) / 2; grind, c⟩
      · rw [if_neg c]
        exact ⟨by show ((halve W x y n).1 + (halve W x y n).2) / 2 < (halve W x y n).2; grind, by show W (((halve W x y n).1 + (halve W x y n).2) / 2) < W (halve W x y n).2; omega⟩
  have wid : ∀ n, (halve W x y (n + 1)).2 - (halve W x y (n + 1)).1 = ((halve W x y n).2 - (halve W x y n).1) / 2 := by
    intro n
    rw [step]
    split <;> (dsimp only; grind)
  have I : Nest (fun n => (halve W x y n).1) (fun n => (halve W x y n).2) := by
    refine ⟨fun n => (inv n).1, fun n => ?_, fun n => ?_, fun e he => ?_⟩
    · have := (inv n).1
      show (halve W x y n).1 ≤ (halve W x y (n + 1)).1
      rw [step]
      split <;> (dsimp only; grind)
    · have := (inv n).1
      show (halve W x y (n + 1)).2 ≤ (halve W x y n).2
      rw [step]
      split <;> (dsimp only; grind)
    · exact halves_small (w := fun n => (halve W x y n).2 - (halve W x y n).1) (fun n => by have := (inv n).1; grind) wid he
  obtain ⟨N, hN⟩ := local_sturm I h
  have h1 := (hN N (Nat.le_refl _)).1
  rw [hW] at h1
  have h2 := (inv N).2
  exact absurd h1 (by omega)
def toward (x y : Rat) : Nat → Rat
  | 0 => x
  | n + 1 => (toward x y n + y) / 2
/-- a root on the right is counted -/
theorem sturm_root {f g : List Rat} {r : List (List Rat)} (h : Chain f g r) {x y : Rat} (hxy : x < y) (hy : evaluate f y = 0) : V (f :: g :: r) y + 1 ≤ V (f :: g :: r) x := by
  have inv : ∀ n, toward x y n < y ∧ x ≤ toward x y n := by
    intro n
    induction n with
    | zero => exact ⟨hxy, Rat.le_refl⟩
    | succ n ih => rw [toward]; grind
  have I : Nest (toward x y) (fun _ => y) := by
    refine ⟨fun n => (inv n).1, fun n => ?_, fun n => Rat.le_refl, fun e he => ?_⟩
    · have := (inv n).1
      rw [toward]
      grind
    · exact halves_small (w := fun n => y - toward x y n) (fun n => by have := (inv n).1; grind) (fun n => by rw [toward]; grind) he
  obtain ⟨N, hN⟩ := local_sturm I h
  have h1 := (hN N (Nat.le_refl _)).2 hy
  exact Nat.le_trans h1 (sturm_mono h (inv N).2)
end RcD

/-! ## RcE -/
/-! The specification's Sturm chains: they are chains; their counts never fall below 0; far out. -/
namespace RcE
open Kqg1 RcA RcB RcC RcD

theorem scale_ne {c : Rat} {p : List Rat} (hc : c ≠ 0) (hp : Tr p) (hn : p ≠ []) : scale c p ≠ [] := by
  rw [(lead_scale hc hp).1]
  simpa using hn
theorem scale_len {c : Rat} {p : List Rat} (hc : c ≠ 0) (hp : Tr p) : (scale c p).length = p.length := by
  rw [(lead_scale hc hp).1]
  simp
theorem scale_nil (c : Rat) : scale c [] = [] := rfl
def Good (p : List Rat) : Prop := Tr p ∧ p ≠ []
theorem chain_from : ∀ (n : Nat) (p q : List Rat), Good p → Tr q → q.length < n →
    ∃ r, sturmChainFrom n p q = p :: r ∧ (q = [] → r = []) ∧ (q ≠ [] → ∃ r', r = q :: r') ∧ Linked (p :: r) ∧ ∀ x ∈ r, Good x := by
  intro n
  induction n with
  | zero => intro p q _ _ h; omega
  | succ n ih =>
    intro p q hp hq h
    by_cases c : q = []
    · refine ⟨[], by rw [sturmChainFrom, if_pos c], fun _ => rfl, fun z => absurd c z, trivial, by simp⟩
    · obtain ⟨d1, d2, d3, d4⟩ := div_spec hp.1 hq c
      have hsl : (scale (-1) (remainder p q)).length = (remainder p q).length := scale_len (by decide) d2
      obtain ⟨r, e, r1, r2, r3, r4⟩ := ih q (scale (-1) (remainder p q)) ⟨hq, c⟩ (tr_scale _ _) (by omega)
      refine ⟨q :: r, by rw [sturmChainFrom, if_neg c, e], fun z => absurd z c, fun _ => ⟨r, rfl⟩, ?_, ?_⟩
      · by_cases z : scale (-1) (remainder p q) = []
        · rw [r1 z]
          refine ⟨quotient p q, fun t => ?_⟩
          rw [d4]
          have z2 : remainder p q = [] := Classical.byContradiction fun w => scale_ne (by decide) d2 w z
          rw [z2, ev_nil]
          grind
        · obtain ⟨r', e'⟩ := r2 z
          subst e'
          refine ⟨⟨quotient p q, fun t => ?_⟩, r3⟩
          rw [d4, ev_scale]
          grind
      · intro x hx
        rcases List.mem_cons.mp hx with rfl | hx
        · exact ⟨hq, c⟩
        · exact r4 x hx
theorem der_len {p : List Rat} (hp : Tr p) (hn : 2 ≤ p.length) : (derivative p).length = p.length - 1 := by
  have hpn : p ≠ [] := by intro z; subst z; simp at hn
  have l3 : (derivative p).length ≤ p.length - 1 := by
    unfold derivative
    refine Nat.le_trans (trim_len _) ?_
    simp
  have : ¬ (derivative p).length < p.length - 1 := by
    intro hlt
    have := cf_derivative p (p.length - 2)
    rw [cf_ge _ _ (by omega), show p.length - 2 + 1 = p.length - 1 by omega] at this
    rcases Rat.mul_eq_zero.mp this.symm with w | w
    · have : (0 : Rat) < ((p.length - 1 : Nat) : Rat) := Rat.natCast_pos.mpr (by omega)
      grind
    · exact tr_lead hp hpn w
  omega
/-- the specification's chain of a polynomial that isn't constant -/
theorem chain_is {p : List Rat} (hp : Tr p) (hn : 2 ≤ p.length) :
    ∃ r, sturmChain p = squarefree p :: derivative (squarefree p) :: r ∧ Chain (squarefree p) (derivative (squarefree p)) r ∧ ∀ x ∈ sturmChain p, Good x := by
  obtain ⟨s1, s2, s3, u, v, s4⟩ := sqf_is hp hn
  have sn : squarefree p ≠ [] := by intro z; rw [z] at s2; simp at s2
  have dl := der_len s1 s2
  have dn : derivative (squarefree p) ≠ [] := by
    intro z
    rw [z] at dl
    simp at dl
    omega
  obtain ⟨r, e, r1, r2, r3, r4⟩ := chain_from ((squarefree p).length + 1) (squarefree p) (derivative (squarefree p)) ⟨s1, sn⟩ (tr_derivative _) (by omega)
  obtain ⟨r', e'⟩ := r2 dn
  subst e'
  refine ⟨r', e, ⟨r3, fun t => ev_derivative _ _, u, v, fun t => by rw [ev_derivative]; exact s4 t⟩, ?_⟩
  intro x hx
  rw [show sturmChain p = _ from e] at hx
  rcases List.mem_cons.mp hx with rfl | hx
  · exact ⟨s1, sn⟩
  · exact r4 x hx
/-! ### sign changes -/
theorem sign_zero {x : Rat} : sign x = 0 ↔ x = 0 := by
  unfold sign
  constructor
  · intro h
    by_cases c : x = 0
    · exact c
    · rw [if_neg c] at h
      split at h <;> simp at h
  · intro h
    rw [if_pos h]
theorem sign_ne {x y : Rat} (hx : x ≠ 0) (hy : y ≠ 0) : (sign x != sign y) = decide (x * y < 0) := by
  unfold sign
  rw [if_neg hx, if_neg hy]
  by_cases a : x < 0 <;> by_cases b : y < 0
  · rw [if_pos a, if_pos b]
    have := Rat.mul_pos (a := -x) (b := -y) (by grind) (by grind)
    rw [decide_eq_false (by grind)]
    rfl
  · rw [if_pos a, if_neg b]
    have := Rat.mul_pos (a := -x) (b := y) (by grind) (by grind)
    rw [decide_eq_true (by grind)]
    rfl
  · rw [if_neg a, if_pos b]
    have := Rat.mul_pos (a := x) (b := -y) (by grind) (by grind)
    rw [decide_eq_true (by grind)]
    rfl
  · rw [if_neg a, if_neg b]
    have := Rat.mul_pos (a := x) (b := y) (by grind) (by grind)
    rw [decide_eq_false (by grind)]
    rfl
def zc (m : List Int) : Nat := ((List.zip m (m.drop 1)).filter fun p => p.1 != p.2).length
theorem zc_cons (a b : Int) (m : List Int) : zc (a :: b :: m) = (if (a != b) = true then 1 else 0) + zc (b :: m) := by
  unfold zc
  show ((List.filter _ ((a, b) :: List.zip (b :: m) ((b :: m).drop 1)))).length = _
  rw [List.filter_cons]
  by_cases h : (a != b) = true
  · rw [if_pos h, if_pos h, List.length_cons]
    omega
  · rw [if_neg h, if_neg h]
    omega
theorem zc_one (a : Int) : zc [a] = 0 := rfl
theorem zc_sc : ∀ (v : List Rat) (x : Rat), x ≠ 0 → zc (sign x :: (v.map sign).filter (fun z => z != 0)) = sc x v
  | [], x, _ => rfl
  | y :: v, x, hx => by
    rw [List.map_cons, List.filter_cons, sc]
    by_cases c : y = 0
    · rw [if_pos c, if_neg (by rw [sign_zero.mpr c]; decide)]
      exact zc_sc v x hx
    · have : (sign y != 0) = true := by simpa using fun z => c (sign_zero.mp z)
      rw [if_neg c, if_pos this, zc_cons, zc_sc v y c, sign_ne hx c]
      simp
theorem changes_sc (v : List Rat) : signChanges (v.map sign) = sc 0 v := by
  show zc ((v.map sign).filter (fun z => z != 0)) = sc 0 v
  induction v with
  | nil => rfl
  | cons y v ih =>
    rw [List.map_cons, List.filter_cons, sc]
    by_cases c : y = 0
    · rw [if_pos c, if_neg (by rw [sign_zero.mpr c]; decide)]
      exact ih
    · have : (sign y != 0) = true := by simpa using fun z => c (sign_zero.mp z)
      rw [if_neg c, if_pos this, zc_sc v y c, if_neg (by rw [Rat.zero_mul]; exact Rat.lt_irrefl), Nat.zero_add]
theorem changes_at (chain : List Poly) (t : Rat) : changesAt chain (.at t) = V chain t := by
  unfold changesAt V vals
  rw [← changes_sc, List.map_map]
  rfl
/-! ### far out -/
/-- p(-t) -/
def refl : List Rat → List Rat
  | [] => []
  | c :: p => c :: (refl p).map fun x => -1 * x
theorem ev_refl : ∀ (p : List Rat) (t : Rat), evaluate (refl p) t = evaluate p (-t)
  | [], _ => rfl
  | c :: p, t => by rw [refl, ev_cons, ev_cons, ev_map, ev_refl p t]; grind
theorem refl_len : ∀ (p : List Rat), (refl p).length = p.length
  | [] => rfl
  | c :: p => by rw [refl, List.length_cons, List.length_map, refl_len p, List.length_cons]
theorem lead_map (c : Rat) (p : List Rat) : leadingCoefficient (p.map fun x => c * x) = c * leadingCoefficient p := by
  rcases snoc_cases p with rfl | ⟨q, d, rfl⟩
  · simp [leadingCoefficient]
  · rw [List.map_append, List.map_cons, List.map_nil, lead_snoc, lead_snoc]
theorem lead_refl : ∀ (p : List Rat), leadingCoefficient (refl p) = if degree p % 2 = 0 then leadingCoefficient p else -leadingCoefficient p
  | [] => rfl
  | [c] => rfl
  | c :: e :: p => by
    have ih := lead_refl (e :: p)
    rw [refl, lead_cons c (by simp [refl]), lead_map, ih, lead_cons c (by simp)]
    have : degree (c :: e :: p) = degree (e :: p) + 1 := by simp [degree]
    rw [this]
    by_cases h : degree (e :: p) % 2 = 0
    · rw [if_pos h, if_neg (by omega)]
      grind
    · rw [if_neg h, if_pos (by omega)]
      grind
theorem sign_far {p : List Rat} (hp : Good p) : ∃ B : Rat, ∀ t, B ≤ t → sign (evaluate p t) = sign (leadingCoefficient p) := by
  have hl := ((tr_iff p).mp hp.1).resolve_left hp.2
  rcases Rat.le_total (a := 0) (b := leadingCoefficient p) with z | z
  · have z2 := Rat.lt_of_le_of_ne z (Ne.symm hl)
    obtain ⟨B, d, h0, h1, h2⟩ := grows p z2
    refine ⟨B, fun t ht => ?_⟩
    have := h2 t ht
    unfold sign
    rw [if_neg (by grind), if_neg (by grind), if_neg (by grind), if_neg (by grind)]
  · have z2 := Rat.lt_of_le_of_ne z hl
    obtain ⟨B, d, h0, h1, h2⟩ := grows_neg p hp.1 z2
    refine ⟨B, fun t ht => ?_⟩
    have := h2 t ht
    unfold sign
    rw [if_neg (by grind), if_pos (by grind), if_neg (by grind), if_pos (by grind)]
theorem sign_neg (x : Rat) : sign (-x) = -sign x := by
  unfold sign
  by_cases a : x = 0
  · rw [if_pos a, if_pos (by grind)]; rfl
  · rw [if_neg a, if_neg (by grind)]
    by_cases b : x < 0
    · rw [if_pos b, if_neg (by grind)]; rfl
    · rw [if_neg b, if_pos (by grind)]
theorem good_refl {p : List Rat} (hp : Good p) : Good (refl p) := by
  have hl := ((tr_iff p).mp hp.1).resolve_left hp.2
  have hn : refl p ≠ [] := by
    intro z
    have := refl_len p
    rw [z] at this
    exact hp.2 (List.length_eq_zero_iff.mp this.symm)
  refine ⟨(tr_iff _).mpr (.inr ?_), hn⟩
  rw [lead_refl]
  split
  · exact hl
  · grind
theorem sign_far_left {p : List Rat} (hp : Good p) : ∃ B : Rat, ∀ t, t ≤ -B → sign (evaluate p t) = signAt p .minusInfinity := by
  obtain ⟨B, hB⟩ := sign_far (good_refl hp)
  refine ⟨B, fun t ht => ?_⟩
  have := hB (-t) (by grind)
  rw [ev_refl, Rat.neg_neg, lead_refl] at this
  rw [this]
  show _ = if degree p % 2 = 0 then sign (leadingCoefficient p) else -(sign (leadingCoefficient p))
  split
  · rfl
  · exact sign_neg _
theorem le_abs (x : Rat) : x ≤ x.abs := by
  rcases Rat.le_total (a := 0) (b := x) with z | z
  · rw [Rat.abs_of_nonneg z]; exact Rat.le_refl
  · rw [Rat.abs_of_nonpos z]; grind
theorem far_right : ∀ (l : List (List Rat)), (∀ p ∈ l, Good p) → ∃ B : Rat, ∀ t, B ≤ t → ∀ p ∈ l, sign (evaluate p t) = signAt p .plusInfinity
  | [], _ => ⟨0, fun _ _ _ h => by simp at h⟩
  | p :: l, h => by
    obtain ⟨B, hB⟩ := sign_far (h p (by simp))
    obtain ⟨C, hC⟩ := far_right l fun q hq => h q (by simp [hq])
    have b1 := le_abs B
    have c1 := le_abs C
    have b2 := Rat.abs_nonneg (x := B)
    have c2 := Rat.abs_nonneg (x := C)
    refine ⟨B.abs + C.abs, fun t ht q hq => ?_⟩
    rcases List.mem_cons.mp hq with rfl | hq
    · exact hB t (by grind)
    · exact hC t (by grind) q hq
theorem far_left : ∀ (l : List (List Rat)), (∀ p ∈ l, Good p) → ∃ B : Rat, ∀ t, t ≤ -B → ∀ p ∈ l, sign (evaluate p t) = signAt p .minusInfinity
  | [], _ => ⟨0, fun _ _ _ h => by simp at h⟩
  | p :: l, h => by
    obtain ⟨B, hB⟩ := sign_far_left (h p (by simp))
    obtain ⟨C, hC⟩ := far_left l fun q hq => h q (by simp [hq])
    have b1 := le_abs B
    have c1 := le_abs C
    have b2 := Rat.abs_nonneg (x := B)
    have c2 := Rat.abs_nonneg (x := C)
    refine ⟨B.abs + C.abs, fun t ht q hq => ?_⟩
    rcases List.mem_cons.mp hq with rfl | hq
    · exact hB t (by grind)
    · exact hC t (by grind) q hq
theorem changes_right (l : List Poly) (h : ∀ p ∈ l, Good p) : ∃ B : Rat, ∀ t, B ≤ t → changesAt l .plusInfinity = V l t := by
  obtain ⟨B, hB⟩ := far_right l h
  refine ⟨B, fun t ht => ?_⟩
  rw [← changes_at]
  unfold changesAt
  congr 1
  exact List.map_congr_left fun p hp => (hB t ht p hp).symm
theorem changes_left (l : List Poly) (h : ∀ p ∈ l, Good p) : ∃ B : Rat, ∀ t, t ≤ -B → changesAt l .minusInfinity = V l t := by
  obtain ⟨B, hB⟩ := far_left l h
  refine ⟨B, fun t ht => ?_⟩
  rw [← changes_at]
  unfold changesAt
  congr 1
  exact List.map_congr_left fun p hp => (hB t ht p hp).symm
/-- points in their order -/
def Before : Point → Point → Prop
  | .minusInfinity, _ => True
  | _, .plusInfinity => True
  | .at s, .at t => s ≤ t
  | _, _ => False
/-- the changes don't grow from left to right -/
theorem changes_mono {p : List Rat} (hp : Tr p) (hn : 2 ≤ p.length) {s t : Point} (h : Before s t) : changesAt (sturmChain p) t ≤ changesAt (sturmChain p) s := by
  obtain ⟨r, e, c, g⟩ := chain_is hp hn
  obtain ⟨B, hB⟩ := changes_right _ g
  obtain ⟨C, hC⟩ := changes_left _ g
  have mono : ∀ x y, x ≤ y → V (sturmChain p) y ≤ V (sturmChain p) x := fun x y h => by rw [e]; exact sturm_mono c h
  have b1 := le_abs B
  have c1 := le_abs C
  have b2 := Rat.abs_nonneg (x := B)
  have c2 := Rat.abs_nonneg (x := C)
  match s, t, h with
  | .minusInfinity, .minusInfinity, _ => exact Nat.le_refl _
  | .minusInfinity, .at y, _ =>
    rw [hC (-(C.abs + y.abs)) (by have := Rat.abs_nonneg (x := y); grind), changes_at]
    have y1 := le_abs (-y)
    rw [Rat.abs_neg] at y1
    exact mono _ _ (by grind)
  | .minusInfinity, .plusInfinity, _ =>
    rw [hC (-(C.abs + B.abs)) (by grind), hB B.abs b1]
    exact mono _ _ (by grind)
  | .at x, .plusInfinity, _ =>
    rw [hB (B.abs + x.abs) (by have := Rat.abs_nonneg (x := x); grind), changes_at]
    have := le_abs x
    exact mono _ _ (by grind)
  | .plusInfinity, .plusInfinity, _ => exact Nat.le_refl _
  | .at x, .at y, h =>
    rw [changes_at, changes_at]
    exact mono _ _ h
/-- a root is counted in front of itself -/
theorem changes_root {p : List Rat} (hp : Tr p) (hn : 2 ≤ p.length) {x y : Rat} (h : x < y) (hy : evaluate (squarefree p) y = 0) :
    changesAt (sturmChain p) (.at y) + 1 ≤ changesAt (sturmChain p) (.at x) := by
  obtain ⟨r, e, c, g⟩ := chain_is hp hn
  rw [changes_at, changes_at, e]
  exact sturm_root c h hy
end RcE

/-! ## RcF -/
/-! Lists of whole numbers as polynomials: products, Gauss's lemma, how large a factor is. -/
namespace RcF
open Kqg1 RcA RcB RcC RcD RcE

def ic (p : List Int) (i : Nat) : Int := p.getD i 0
def iev (p : List Int) (x : Int) : Int := p.foldr (fun c s => c + x * s) 0
theorem ic_nil (i : Nat) : ic [] i = 0 := by simp [ic]
theorem ic_zero (c : Int) (p : List Int) : ic (c :: p) 0 = c := by simp [ic]
theorem ic_succ (c : Int) (p : List Int) (i : Nat) : ic (c :: p) (i + 1) = ic p i := by simp [ic]
theorem ic_ge (p : List Int) (i : Nat) (h : p.length ≤ i) : ic p i = 0 := by simp [ic, List.getElem?_eq_none h]
theorem ic_lt (p : List Int) (i : Nat) (h : i < p.length) : ic p i = p[i] := by simp [ic, List.getElem?_eq_getElem h]
theorem iev_nil (x : Int) : iev [] x = 0 := rfl
theorem iev_cons (c : Int) (p : List Int) (x : Int) : iev (c :: p) x = c + x * iev p x := rfl
/-- as rationals -/
def toR (p : List Int) : List Rat := List.map (fun (z : Int) => (z : Rat)) p
theorem cast_nat (D : Nat) : ((D : Int) : Rat) = (D : Rat) := rfl
theorem cast_mul (a b : Int) : ((a * b : Int) : Rat) = (a : Rat) * (b : Rat) := by grind
theorem toR_len (p : List Int) : (toR p).length = p.length := by simp [toR]
theorem toR_cons (c : Int) (p : List Int) : toR (c :: p) = (c : Rat) :: toR p := rfl
theorem cf_toR (p : List Int) (i : Nat) : coefficient (toR p) i = (ic p i : Rat) := by
  by_cases h : i < p.length
  · rw [cf_lt _ _ (by rw [toR_len]; exact h), ic_lt _ _ h]
    simp [toR]
  · rw [cf_ge _ _ (by rw [toR_len]; omega), ic_ge _ _ (by omega)]
    rfl
theorem cast_inj {a b : Int} (h : (a : Rat) = (b : Rat)) : a = b := by
  have h1 : ((a : Rat)).num = ((b : Rat)).num := by rw [h]
  simpa using h1
theorem cast_zero_iff {a : Int} : (a : Rat) = 0 ↔ a = 0 := ⟨fun h => cast_inj (by rw [h]; rfl), fun h => by rw [h]; rfl⟩
theorem toR_inj {p q : List Int} (h : toR p = toR q) : p = q := by
  have hl : p.length = q.length := by rw [← toR_len p, h, toR_len]
  refine List.ext_getElem hl fun i h1 h2 => ?_
  rw [← ic_lt p i h1, ← ic_lt q i h2]
  apply cast_inj
  rw [← cf_toR, ← cf_toR, h]
theorem ev_toR : ∀ (p : List Int) (x : Int), evaluate (toR p) (x : Rat) = (iev p x : Rat)
  | [], _ => rfl
  | c :: p, x => by
    rw [toR_cons, ev_cons, ev_toR p x, iev_cons]
    grind
/-! ### products -/
def iadd : List Int → List Int → List Int
  | [], q => q
  | p, [] => p
  | c :: p, d :: q => (c + d) :: iadd p q
theorem ic_iadd : ∀ (p q : List Int) (i : Nat), ic (iadd p q) i = ic p i + ic q i
  | [], q, i => by rw [iadd, ic_nil]; omega
  | c :: p, [], i => by rw [iadd, ic_nil] <;> simp
  | c :: p, d :: q, 0 => by rw [iadd, ic_zero, ic_zero, ic_zero]
  | c :: p, d :: q, i + 1 => by rw [iadd, ic_succ, ic_succ, ic_succ, ic_iadd p q i]
theorem ic_map (c : Int) (p : List Int) (i : Nat) : ic (p.map fun x => c * x) i = c * ic p i := by
  by_cases h : i < p.length
  · rw [ic_lt _ _ (by simpa using h), ic_lt _ _ h]
    simp
  · rw [ic_ge _ _ (by simp; omega), ic_ge p i (by omega)]
    simp
def imul : List Int → List Int → List Int
  | [], _ => []
  | c :: p, q => iadd (q.map fun x => c * x) (0 :: imul p q)
theorem ic_imul_zero (c : Int) (p q : List Int) : ic (imul (c :: p) q) 0 = c * ic q 0 := by
  rw [imul, ic_iadd, ic_map, ic_zero]
  omega
theorem ic_imul_succ (c : Int) (p q : List Int) (i : Nat) : ic (imul (c :: p) q) (i + 1) = c * ic q (i + 1) + ic (imul p q) i := by
  rw [imul, ic_iadd, ic_map, ic_succ]
theorem ic_imul_right0 : ∀ (p : List Int) (b : Int) (q : List Int), ic (imul p (b :: q)) 0 = b * ic p 0
  | [], b, q => by rw [imul, ic_nil]; simp
  | c :: p, b, q => by rw [ic_imul_zero, ic_zero, ic_zero, Int.mul_comm]
theorem ic_imul_right : ∀ (p : List Int) (b : Int) (q : List Int) (i : Nat), ic (imul p (b :: q)) (i + 1) = b * ic p (i + 1) + ic (imul p q) i
  | [], b, q, i => by rw [imul, imul, ic_nil, ic_nil]; simp
  | c :: p, b, q, 0 => by
    rw [ic_imul_succ, ic_succ, ic_succ, ic_imul_right0, ic_imul_zero]
    omega
  | c :: p, b, q, i + 1 => by
    rw [ic_imul_succ, ic_succ, ic_succ, ic_imul_right p b q i, ic_imul_succ]
    omega
theorem iev_iadd : ∀ (p q : List Int) (x : Int), iev (iadd p q) x = iev p x + iev q x
  | [], q, x => by rw [iadd, iev_nil]; omega
  | c :: p, [], x => by rw [iadd, iev_nil] <;> simp
  | c :: p, d :: q, x => by rw [iadd, iev_cons, iev_cons, iev_cons, iev_iadd p q x]; grind
theorem iev_map (c : Int) : ∀ (p : List Int) (x : Int), iev (p.map fun z => c * z) x = c * iev p x
  | [], x => by rw [List.map_nil, iev_nil]; simp
  | d :: p, x => by rw [List.map_cons, iev_cons, iev_cons, iev_map c p x]; grind
theorem iev_imul : ∀ (p q : List Int) (x : Int), iev (imul p q) x = iev p x * iev q x
  | [], q, x => by rw [imul, iev_nil]; simp
  | c :: p, q, x => by rw [imul, iev_iadd, iev_map, iev_cons, iev_cons, iev_imul p q x]; grind
theorem cf_imul : ∀ (p q : List Int) (i : Nat), (ic (imul p q) i : Rat) = conv (toR p) (toR q) i
  | [], q, i => by rw [imul, ic_nil]; exact (conv_nil _ _).symm
  | c :: p, q, 0 => by rw [ic_imul_zero, toR_cons, conv_zero, cf_toR]; grind
  | c :: p, q, i + 1 => by rw [ic_imul_succ, toR_cons, conv_succ, cf_toR, ← cf_imul p q i]; grind
/-! ### Gauss's lemma -/
def Alldvd (d : Int) (p : List Int) : Prop := ∀ i, d ∣ ic p i
theorem all_cons {d c : Int} {p : List Int} : Alldvd d (c :: p) ↔ d ∣ c ∧ Alldvd d p := by
  constructor
  · intro h
    exact ⟨by have := h 0; rwa [ic_zero] at this, fun i => by have := h (i + 1); rwa [ic_succ] at this⟩
  · rintro ⟨h1, h2⟩ i
    cases i with
    | zero => rw [ic_zero]; exact h1
    | succ i => rw [ic_succ]; exact h2 i
theorem all_nil (d : Int) : Alldvd d [] := fun i => by rw [ic_nil]; exact Int.dvd_zero d
/-- a number that divides no product but its factors -/
def Pr (q : Int) : Prop := ∀ a b : Int, q ∣ a * b → q ∣ a ∨ q ∣ b
theorem pr_mul {q : Int} (hq : Pr q) : ∀ (n : Nat) (g h : List Int), g.length + h.length ≤ n → Alldvd q (imul g h) → Alldvd q g ∨ Alldvd q h := by
  intro n
  induction n with
  | zero =>
    intro g h hl _
    have : g = [] := List.length_eq_zero_iff.mp (by omega)
    subst this
    exact .inl (all_nil q)
  | succ n ih =>
    intro g h hl hd
    cases g with
    | nil => exact .inl (all_nil q)
    | cons a g =>
      cases h with
      | nil => exact .inr (all_nil q)
      | cons b h =>
        simp only [List.length_cons] at hl
        have h0 := hd 0
        rw [ic_imul_zero, ic_zero] at h0
        rcases hq a b h0 with ha | hb
        · rcases ih g (b :: h) (by simp only [List.length_cons]; omega) (fun i => by
            have := hd (i + 1)
            rw [ic_imul_succ] at this
            exact (Int.dvd_add_right (Int.dvd_mul_of_dvd_left ha)).mp this) with r | r
          · exact .inl (all_cons.mpr ⟨ha, r⟩)
          · exact .inr r
        · rcases ih (a :: g) h (by simp only [List.length_cons]; omega) (fun i => by
            have := hd (i + 1)
            rw [ic_imul_right] at this
            exact (Int.dvd_add_right (Int.dvd_mul_of_dvd_left hb)).mp this) with r | r
          · exact .inl r
          · exact .inr (all_cons.mpr ⟨hb, r⟩)
theorem least_pr : ∀ (n d : Nat), d ≤ n → 2 ≤ d → ∃ q : Nat, 2 ≤ q ∧ q ∣ d ∧ Pr (q : Int) := by
  intro n
  induction n with
  | zero => intro d h1 h2; omega
  | succ n ih =>
    intro d h1 h2
    by_cases c : ∃ e : Nat, 2 ≤ e ∧ e < d ∧ e ∣ d
    · obtain ⟨e, e1, e2, e3⟩ := c
      obtain ⟨q, q1, q2, q3⟩ := ih e (by omega) e1
      exact ⟨q, q1, Nat.dvd_trans q2 e3, q3⟩
    · refine ⟨d, h2, Nat.dvd_refl d, fun a b hab => ?_⟩
      by_cases ha : (d : Int) ∣ a
      · exact .inl ha
      · refine .inr ?_
        have hg : Int.gcd (d : Int) a = 1 := by
          have g1 : Int.gcd (d : Int) a ∣ d := Int.gcd_dvd_natAbs_left _ _
          have g2 : Int.gcd (d : Int) a ≤ d := Nat.le_of_dvd (by omega) g1
          have g3 : Int.gcd (d : Int) a ≠ 0 := by
            intro z
            rw [z] at g1
            have := Nat.eq_zero_of_zero_dvd g1
            omega
          have g4 : Int.gcd (d : Int) a ≠ d := by
            intro z
            apply ha
            have : ((Int.gcd (d : Int) a : Nat) : Int) ∣ a := Int.gcd_dvd_right ..
            rwa [z] at this
          refine Classical.byContradiction fun z => c ⟨Int.gcd (d : Int) a, by omega, by omega, g1⟩
        have := (Int.dvd_gcd_mul_iff_dvd_mul (k := (d : Int)) (n := a) (m := b)).mpr hab
        rw [hg] at this
        simpa using this
/-- all coefficients have no common divisor -/
def Prim (g : List Int) : Prop := ∀ d : Nat, 2 ≤ d → ¬ Alldvd (d : Int) g
theorem gauss {g : List Int} (hg : Prim g) : ∀ (n D : Nat) (h : List Int), D ≤ n → 0 < D → Alldvd (D : Int) (imul g h) → Alldvd (D : Int) h := by
  intro n
  induction n with
  | zero => intro D h h1 h2; omega
  | succ n ih =>
    intro D h h1 h2 hd
    by_cases c : D = 1
    · intro i
      rw [c]
      exact Int.one_dvd _
    · obtain ⟨q, q1, ⟨D', q2⟩, q3⟩ := least_pr D D (Nat.le_refl _) (by omega)
      have hq : Alldvd (q : Int) (imul g h) := fun i => Int.dvd_trans ⟨(D' : Int), by rw [q2]; simp⟩ (hd i)
      have hh := (pr_mul q3 _ g h (Nat.le_refl _) hq).resolve_left (hg q q1)
      have qne : (q : Int) ≠ 0 := by omega
      -- h = q h1
      have e : h = (h.map fun x => x / (q : Int)).map fun x => (q : Int) * x := by
        rw [List.map_map]
        conv => lhs; rw [← List.map_id h]
        refine List.map_congr_left fun x hx => ?_
        obtain ⟨i, hi, rfl⟩ := List.mem_iff_getElem.mp hx
        have := hh i
        rw [ic_lt _ _ hi] at this
        simp only [id, Function.comp]
        exact (Int.mul_ediv_cancel' this).symm
      have D0 : 0 < D' := by
        rcases Nat.eq_zero_or_pos D' with z | z
        · subst z; simp at q2; omega
        · exact z
      have Dl : D' ≤ n := by
        have : 2 * D' ≤ q * D' := Nat.mul_le_mul_right D' q1
        omega
      have key : ∀ (g : List Int) (i : Nat), ic (imul g ((h.map fun x => x / (q : Int)).map fun x => (q : Int) * x)) i = (q : Int) * ic (imul g (h.map fun x => x / (q : Int))) i := by
        intro g
        induction g with
        | nil => intro i; rw [imul, imul, ic_nil]; simp
        | cons a g ihg =>
          intro i
          cases i with
          | zero => rw [ic_imul_zero, ic_imul_zero, ic_map]; grind
          | succ i => rw [ic_imul_succ, ic_imul_succ, ic_map, ihg]; grind
      have hd' : Alldvd (D' : Int) (imul g (h.map fun x => x / (q : Int))) := fun i => by
        have := hd i
        rw [e, key] at this
        rw [q2, Int.natCast_mul] at this
        exact Int.dvd_of_mul_dvd_mul_left qne this
      have r := ih D' _ Dl D0 hd'
      intro i
      rw [e, ic_map, q2, Int.natCast_mul]
      exact Int.mul_dvd_mul_left _ (r i)
/-- the common denominator of a list -/
theorem common_den : ∀ (h : List Rat), ∃ (D : Nat) (H : List Int), 0 < D ∧ H.length = h.length ∧ ∀ i, (ic H i : Rat) = (D : Rat) * coefficient h i
  | [] => ⟨1, [], by decide, rfl, fun i => by rw [ic_nil, cf_nil]; grind⟩
  | c :: h => by
    obtain ⟨D, H, h0, h1, h2⟩ := common_den h
    refine ⟨c.den * D, (c.num * D) :: H.map (fun x => (c.den : Int) * x), Nat.mul_pos c.den_pos h0, by simp [h1], fun i => ?_⟩
    cases i with
    | zero =>
      rw [ic_zero, cf_zero]
      have : c * (c.den : Rat) = (c.num : Rat) := by
        have h3 : c = (c.num : Rat) / (c.den : Rat) := by rw [← Rat.mkRat_eq_div, Rat.mkRat_self]
        have h4 : (c.den : Rat) ≠ 0 := by
          have : (0 : Rat) < (c.den : Rat) := Rat.natCast_pos.mpr c.den_pos
          grind
        have h5 := Rat.div_mul_cancel (a := (c.num : Rat)) h4
        rw [← h3] at h5
        exact h5
      have e1 : ((c.num * (D : Int) : Int) : Rat) = (c.num : Rat) * (D : Rat) := by rw [cast_mul, cast_nat]
      have e2 : ((c.den * D : Nat) : Rat) = (c.den : Rat) * (D : Rat) := by grind
      rw [e1, e2, ← this]
      grind
    | succ i =>
      rw [ic_succ, cf_succ, ic_map]
      have e2 : ((c.den * D : Nat) : Rat) = (c.den : Rat) * (D : Rat) := by grind
      have e1 : (((c.den : Int) * ic H i : Int) : Rat) = (c.den : Rat) * (ic H i : Rat) := by rw [cast_mul, cast_nat]
      rw [e1, e2, h2]
      grind
/-- the quotient by a primitive polynomial has whole coefficients -/
theorem whole_quot {P g : List Int} {h : List Rat} (hg : Prim g) (e : ∀ t, evaluate (toR P) t = evaluate (toR g) t * evaluate h t) : ∃ H : List Int, toR H = h := by
  obtain ⟨D, H, h0, h1, h2⟩ := common_den h
  have hD : (D : Rat) ≠ 0 := by
    have : (0 : Rat) < (D : Rat) := Rat.natCast_pos.mpr h0
    grind
  have key : ∀ i, ic (imul g H) i = (D : Int) * ic P i := by
    intro i
    apply cast_inj
    rw [cf_imul]
    have a1 : ∀ i, coefficient (toR H) i = coefficient (h.map fun x => (D : Rat) * x) i := fun i => by rw [cf_toR, h2, cf_map]
    have a2 : ∀ t, evaluate (lmul (toR g) (toR H)) t = evaluate ((toR P).map fun x => (D : Rat) * x) t := fun t => by
      rw [ev_lmul, ev_cf _ _ t a1, ev_map, ev_map, e]
      grind
    have a3 := cf_of_ev a2 i
    rw [cf_lmul, cf_map, cf_toR] at a3
    rw [a3, cast_mul, cast_nat]
  have hd := gauss hg D D H (Nat.le_refl _) h0 fun i => ⟨ic P i, key i⟩
  refine ⟨H.map fun x => x / (D : Int), ?_⟩
  refine List.ext_getElem (by rw [toR_len]; simpa using h1) fun i i1 i2 => ?_
  rw [← cf_lt _ _ i1, ← cf_lt _ _ i2, cf_toR]
  have b1 : ic (H.map fun x => x / (D : Int)) i = ic H i / (D : Int) := by
    rw [ic_lt _ _ (by rw [toR_len] at i1; exact i1), ic_lt _ _ (by omega)]
    simp
  rw [b1]
  have b2 := h2 i
  obtain ⟨z, hz⟩ := hd i
  rw [hz, Int.mul_ediv_cancel_left _ (by omega)]
  rw [hz] at b2
  have b3 : (((D : Int) * z : Int) : Rat) = (D : Rat) * (z : Rat) := by rw [cast_mul, cast_nat]
  rw [b3] at b2
  have : (D : Rat) * ((z : Rat) - coefficient h i) = 0 := by grind
  rcases Rat.mul_eq_zero.mp this with w | w
  · exact absurd w hD
  · grind
/-! ### how large a factor is -/
def Le (B : Nat) (p : List Int) : Prop := ∀ i, (ic p i).natAbs ≤ B
theorem Le.mono {B C : Nat} {p : List Int} (h : Le B p) (hc : B ≤ C) : Le C p := fun i => Nat.le_trans (h i) hc
/-- (p - p(x)) / (X - x) -/
def synth : List Int → Int → List Int
  | [], _ => []
  | _ :: p, x => match p with
    | [] => []
    | _ :: _ => iev p x :: synth p x
theorem synth_len : ∀ (p : List Int) (x : Int), (synth p x).length = p.length - 1
  | [], _ => rfl
  | [_], _ => rfl
  | c :: d :: p, x => by
    show (iev (d :: p) x :: synth (d :: p) x).length = _
    rw [List.length_cons, synth_len (d :: p) x]
    simp
theorem synth_is : ∀ (p : List Int) (x y : Int), iev p y = iev p x + (y - x) * iev (synth p x) y
  | [], x, y => by rw [synth, iev_nil, iev_nil]; simp
  | [c], x, y => by show c + y * 0 = c + x * 0 + (y - x) * 0; simp
  | c :: d :: p, x, y => by
    have ih := synth_is (d :: p) x y
    show c + y * iev (d :: p) y = c + x * iev (d :: p) x + (y - x) * (iev (d :: p) x + y * iev (synth (d :: p) x) y)
    rw [ih]
    grind
theorem ic_synth : ∀ (p : List Int) (x : Int) (i : Nat), ic p i = (if i = 0 then iev p x else ic (synth p x) (i - 1)) - x * ic (synth p x) i
  | [], x, i => by rw [synth, ic_nil, ic_nil, iev_nil]; simp
  | [c], x, 0 => by show c = c + x * 0 - x * ic [] 0; rw [ic_nil]; simp
  | [c], x, i + 1 => by
    have e : synth [c] x = [] := rfl
    rw [e, ic_succ, ic_nil, ic_nil, ic_nil, if_neg (Nat.succ_ne_zero i)]
    simp
  | c :: d :: p, x, 0 => by
    show c = c + x * iev (d :: p) x - x * ic (iev (d :: p) x :: synth (d :: p) x) 0
    rw [ic_zero]
    omega
  | c :: d :: p, x, i + 1 => by
    have ih := ic_synth (d :: p) x i
    have e : synth (c :: d :: p) x = iev (d :: p) x :: synth (d :: p) x := rfl
    rw [e, ic_succ, ic_succ, if_neg (Nat.succ_ne_zero i), Nat.add_sub_cancel, ih]
    cases i with
    | zero => rw [ic_zero]; simp
    | succ i => rw [ic_succ]; simp
/-- a polynomial by its values: distinct points of at most 16 -/
def grow : Nat → Nat
  | 0 => 0
  | n + 1 => 1 + 34 * grow n
theorem by_values : ∀ (n : Nat) (h : List Int) (pts : List Int) (B : Nat), h.length ≤ n → n ≤ pts.length → pts.Nodup → (∀ x ∈ pts, x.natAbs ≤ 16 ∧ (iev h x).natAbs ≤ B) → Le (grow n * B) h := by
  intro n
  induction n with
  | zero =>
    intro h pts B hl _ _ _ i
    have : h = [] := List.length_eq_zero_iff.mp (by omega)
    subst this
    rw [ic_nil]
    simp
  | succ n ih =>
    intro h pts B hl hp hn hv i
    cases pts with
    | nil => simp at hp
    | cons x pts =>
      obtain ⟨hx, hn'⟩ := List.nodup_cons.mp hn
      obtain ⟨x16, xB⟩ := hv x (by simp)
      have r := ih (synth h x) pts (2 * B) (by rw [synth_len]; omega) (by simpa using hp) hn' (fun y hy => by
        obtain ⟨y16, yB⟩ := hv y (by simp [hy])
        refine ⟨y16, ?_⟩
        have e := synth_is h x y
        have hne : y - x ≠ 0 := fun z => hx (by rw [show x = y by omega]; exact hy)
        have e2 : (y - x) * iev (synth h x) y = iev h y - iev h x := by omega
        have e3 : (y - x).natAbs * (iev (synth h x) y).natAbs = (iev h y - iev h x).natAbs := by rw [← Int.natAbs_mul, e2]
        have e4 : (iev h y - iev h x).natAbs ≤ 2 * B := by omega
        have e5 : 1 * (iev (synth h x) y).natAbs ≤ (y - x).natAbs * (iev (synth h x) y).natAbs := Nat.mul_le_mul_right _ (by omega)
        omega)
      have e := ic_synth h x i
      have r1 := r i
      have r2 : (x * ic (synth h x) i).natAbs ≤ 16 * (grow n * (2 * B)) := by
        rw [Int.natAbs_mul]
        exact Nat.mul_le_mul x16 r1
      have g : grow (n + 1) * B = B + 34 * (grow n * B) := by
        show (1 + 34 * grow n) * B = _
        rw [Nat.add_mul, Nat.one_mul, Nat.mul_assoc]
      have g2 : grow n * (2 * B) = 2 * (grow n * B) := by rw [Nat.mul_left_comm]
      rw [g]
      rw [g2] at r1 r2
      by_cases c : i = 0
      · rw [if_pos c] at e
        omega
      · rw [if_neg c] at e
        have r3 := r (i - 1)
        rw [g2] at r3
        omega
/-- so many distinct roots only -/
theorem few_roots : ∀ (n : Nat) (p : List Int) (pts : List Int), p.length ≤ n → n ≤ pts.length → pts.Nodup → (∀ x ∈ pts, iev p x = 0) → ∀ i, ic p i = 0 := by
  intro n p pts h1 h2 h3 h4 i
  have key : ∀ (n : Nat) (p : List Int) (pts : List Int), p.length ≤ n → n ≤ pts.length → pts.Nodup → (∀ x ∈ pts, iev p x = 0) → ∀ i, ic p i = 0 := by
    intro n
    induction n with
    | zero =>
      intro p pts hl _ _ _ i
      have : p = [] := List.length_eq_zero_iff.mp (by omega)
      subst this
      exact ic_nil i
    | succ n ih =>
      intro p pts hl hp hn hv i
      cases pts with
      | nil => simp at hp
      | cons x pts =>
        obtain ⟨hx, hn'⟩ := List.nodup_cons.mp hn
        have r := ih (synth p x) pts (by rw [synth_len]; omega) (by simpa using hp) hn' (fun y hy => by
          have e := synth_is p x y
          rw [hv y (by simp [hy]), hv x (by simp)] at e
          have hne : y - x ≠ 0 := fun z => hx (by rw [show x = y by omega]; exact hy)
          have e2 : (y - x) * iev (synth p x) y = 0 := by omega
          exact (Int.mul_eq_zero.mp e2).resolve_left hne)
        have e := ic_synth p x i
        rw [hv x (by simp), r i] at e
        by_cases c : i = 0
        · rw [if_pos c] at e
          omega
        · rw [if_neg c, r (i - 1)] at e
          omega
  exact key n p pts h1 h2 h3 h4 i
def spots : List Int := [0, 1, 2, 3, 4, 5, 6, 7, 8, 9, 10, 11, 12, 13, 14, 15, 16]
theorem iev_le {B : Nat} : ∀ (n : Nat) (p : List Int) (x : Int), p.length ≤ n → Le B p → x.natAbs ≤ 16 → (iev p x).natAbs ≤ (17 ^ n) * B := by
  intro n
  induction n with
  | zero =>
    intro p x hl _ _
    have : p = [] := List.length_eq_zero_iff.mp (by omega)
    subst this
    rw [iev_nil]
    simp
  | succ n ih =>
    intro p x hl hB hx
    cases p with
    | nil => rw [iev_nil]; simp
    | cons c p =>
      have r := ih p x (by simpa using hl) (fun i => by have := hB (i + 1); rwa [ic_succ] at this) hx
      have hc := hB 0
      rw [ic_zero] at hc
      rw [iev_cons]
      have r2 : (x * iev p x).natAbs ≤ 16 * (17 ^ n * B) := by
        rw [Int.natAbs_mul]
        exact Nat.mul_le_mul hx r
      have e : 17 ^ (n + 1) * B = 17 * (17 ^ n * B) := by rw [Nat.pow_succ, Nat.mul_comm (17 ^ n) 17, Nat.mul_assoc]
      have e2 : 1 * B ≤ 17 ^ n * B := Nat.mul_le_mul_right B (Nat.pos_of_ne_zero (by
        have := Nat.pow_pos (a := 17) (n := n) (by decide)
        omega))
      omega
/-- a factor of a polynomial of degree at most 8 -/
theorem factor_le {P g h : List Int} {B : Nat} (hl : P.length ≤ 9) (hh : h.length ≤ 9) (hP : Le B P) (hn : ∃ i, ic P i ≠ 0) (e : ∀ x : Int, iev P x = iev g x * iev h x) : Le (2 ^ 90 * B) h := by
  have hnd : (spots.filter fun x => iev P x != 0).Nodup := List.Pairwise.filter _ (by decide)
  have hcount : 9 ≤ (spots.filter fun x => iev P x != 0).length := by
    refine Nat.le_of_not_lt fun hlt => ?_
    have hsplit : (spots.filter fun x => iev P x != 0).length + (spots.filter fun x => !(iev P x != 0)).length = 17 := by
      rw [← List.countP_eq_length_filter, ← List.countP_eq_length_filter]
      have := List.length_eq_countP_add_countP (fun x => iev P x != 0) (l := spots)
      have e17 : spots.length = 17 := rfl
      rw [e17] at this
      rw [this]
      congr 2
      funext x
      cases iev P x != 0 <;> rfl
    have r := few_roots 9 P (spots.filter fun x => !(iev P x != 0)) hl (by omega) (List.Pairwise.filter _ (by decide)) (fun x hx => by
      have := (List.mem_filter.mp hx).2
      simpa using this)
    obtain ⟨i, hi⟩ := hn
    exact hi (r i)
  have r := by_values 9 h (spots.filter fun x => iev P x != 0) (17 ^ 9 * B) hh hcount hnd (fun x hx => by
    obtain ⟨h1, h2⟩ := List.mem_filter.mp hx
    have x16 : x.natAbs ≤ 16 := by
      have : ∀ y ∈ spots, y.natAbs ≤ 16 := by decide
      exact this x h1
    refine ⟨x16, ?_⟩
    have hP0 : iev P x ≠ 0 := by simpa using h2
    have hg0 : iev g x ≠ 0 := by
      intro z
      rw [e, z] at hP0
      simp at hP0
    have e2 : (iev P x).natAbs = (iev g x).natAbs * (iev h x).natAbs := by rw [e, Int.natAbs_mul]
    have e3 : 1 * (iev h x).natAbs ≤ (iev g x).natAbs * (iev h x).natAbs := Nat.mul_le_mul_right _ (by omega)
    have e4 := iev_le 9 P x hl hP x16
    omega)
  refine r.mono ?_
  rw [← Nat.mul_assoc]
  exact Nat.mul_le_mul_right B (by decide)
end RcF

/-! ## RcG -/
/-! The program's arithmetic over whole numbers as plain functions, and that it stands for the specification's. -/
namespace RcG
open Kqg1 RcA RcB RcC RcD RcE RcF

/-! ### the functions -/
def itrim (p : List Int) : List Int := (p.reverse.dropWhile (fun c => c == 0)).reverse
def ilast (p : List Int) : Int := p.getLast?.getD 0
def content (p : List Int) : Nat := p.foldl (fun d c => Nat.gcd d c.natAbs) 0
def prim (p : List Int) : List Int := p.map fun c => c / (content p : Int)
def ider (p : List Int) : List Int := ((List.range p.length).map fun (i : Nat) => ((i : Nat) : Int) * ic p i).drop 1
def svalS (p : List Int) (n d : Int) : Int × Int := p.foldr (fun c s => (s.1 * n + c * s.2, s.2 * d)) (0, 1)
def sval (p : List Int) (n d : Int) : Int := (svalS p n d).1
/-- one step of the division: l - f * X ^ k * g -/
def isub (l : List Int) (k : Nat) (f : Int) (g : List Int) : List Int := (List.range l.length).map fun i => ic l i - if k ≤ i then f * ic g (i - k) else 0
def pstep (r g : List Int) : List Int :=
  itrim (isub (r.map fun c => ((ilast g).natAbs : Int) * c) (r.length - g.length) (if ilast g > 0 then ilast r else -ilast r) g)
def prem : Nat → List Int → List Int → List Int
  | 0, r, _ => r
  | n + 1, r, g => if r.length < g.length then r else prem n (pstep r g) g
def irem (f g : List Int) : List Int := prim (prem (f.length + 1) f g)
def igcdL : Nat → List Int → List Int → List Int
  | 0, f, _ => f
  | n + 1, f, g => if g = [] then f else igcdL n g (irem f g)
def igcd (f g : List Int) : List Int := prim (igcdL (f.length + g.length + 2) f g)

/-! ### coefficients -/
theorem toR_trim (p : List Int) : toR (itrim p) = trim (toR p) := by
  unfold itrim trim toR
  rw [List.map_reverse, show (List.map (fun (z : Int) => (z : Rat)) p).reverse = List.map (fun (z : Int) => (z : Rat)) p.reverse from List.map_reverse.symm, List.dropWhile_map]
  congr 2
  congr 1
  funext z
  simp only [Function.comp]
  by_cases h : z = 0
  · subst h; rfl
  · have : (z : Rat) ≠ 0 := fun e => h (cast_zero_iff.mp e)
    rw [beq_eq_false_iff_ne.mpr h, beq_eq_false_iff_ne.mpr this]
theorem ic_itrim (p : List Int) (i : Nat) : ic (itrim p) i = ic p i := by
  apply cast_inj
  rw [← cf_toR, ← cf_toR, toR_trim, cf_trim]
theorem itrim_len (p : List Int) : (itrim p).length ≤ p.length := by
  have := trim_len (toR p)
  rw [← toR_trim, toR_len, toR_len] at this
  exact this
theorem ic_isub (l : List Int) (k : Nat) (f : Int) (g : List Int) (h : k + g.length ≤ l.length) (i : Nat) : ic (isub l k f g) i = ic l i - if k ≤ i then f * ic g (i - k) else 0 := by
  unfold isub
  by_cases c : i < l.length
  · rw [ic_lt _ _ (by simpa using c)]
    simp
  · rw [ic_ge _ _ (by simp; omega), ic_ge l i (by omega)]
    split
    · rw [ic_ge g _ (by omega)]; simp
    · rfl
theorem lead_toR (p : List Int) : leadingCoefficient (toR p) = (ilast p : Rat) := by
  rcases List.eq_nil_or_concat p with rfl | ⟨q, c, rfl⟩
  · rfl
  · simp [leadingCoefficient, toR, ilast]
/-- P is c times L -/
structure Rl (c : Rat) (P : List Int) (L : List Rat) : Prop where
  ne : c ≠ 0
  tr : Tr L
  eq : toR P = L.map fun x => c * x
section
variable {c e : Rat} {P Q : List Int} {L M : List Rat}
theorem Rl.len (h : Rl c P L) : P.length = L.length := by
  have := congrArg List.length h.eq
  simpa [toR] using this
theorem Rl.nil (h : Rl c P L) : P = [] ↔ L = [] := by
  rw [← List.length_eq_zero_iff, ← List.length_eq_zero_iff, h.len]
theorem Rl.ic (h : Rl c P L) (i : Nat) : (ic P i : Rat) = c * coefficient L i := by rw [← cf_toR, h.eq, cf_map]
theorem Rl.last (h : Rl c P L) : (ilast P : Rat) = c * leadingCoefficient L := by rw [← lead_toR, h.eq, lead_map]
theorem Rl.last_ne (h : Rl c P L) (hn : P ≠ []) : ilast P ≠ 0 := by
  intro z
  have h1 := h.last
  have h2 := ((tr_iff L).mp h.tr).resolve_left fun z => hn (h.nil.mpr z)
  rw [z] at h1
  rcases Rat.mul_eq_zero.mp h1.symm with w | w
  · exact h.ne w
  · exact h2 w
theorem Rl.trP (h : Rl c P L) : Tr (toR P) := by
  rw [h.eq, ← (lead_scale h.ne h.tr).1]
  exact tr_scale _ _
theorem Rl.ev (h : Rl c P L) (t : Rat) : evaluate (toR P) t = c * evaluate L t := by rw [h.eq, ev_map]
theorem Rl.of_ic (hc : c ≠ 0) (hL : Tr L) (hP : Tr (toR P)) (h : ∀ i, (RcF.ic P i : Rat) = c * coefficient L i) : Rl c P L := by
  refine ⟨hc, hL, ?_⟩
  rw [← (lead_scale hc hL).1]
  exact cf_ext hP (tr_scale _ _) fun i => by rw [cf_toR, h, cf_scale]
theorem Rl.mk_ic (hc : c ≠ 0) (hL : Tr L) (h : ∀ i, (RcF.ic P i : Rat) = c * coefficient L i) : Rl c (itrim P) L :=
  Rl.of_ic hc hL (by rw [toR_trim]; exact tr_trim _) fun i => by rw [ic_itrim, h]
theorem abs_cast (z : Int) : (((z.natAbs : Nat) : Int) : Rat) = if 0 < z then (z : Rat) else -(z : Rat) := by
  by_cases h : 0 < z
  · rw [if_pos h, show ((z.natAbs : Nat) : Int) = z by omega]
  · rw [if_neg h, show ((z.natAbs : Nat) : Int) = -z by omega]
    exact Rat.intCast_neg z
theorem nat_pos_cast {z : Int} (h : z ≠ 0) : (0 : Rat) < (((z.natAbs : Nat) : Int) : Rat) := Rat.intCast_pos.mpr (by omega)
/-- one step of the division -/
theorem rl_step {R0 G0 : List Int} {R G : List Rat} (hR : Rl c R0 R) (hG : Rl e G0 G) (hn : G ≠ []) (hl : G.length ≤ R.length) :
    Rl (c * (((ilast G0).natAbs : Nat) : Int)) (pstep R0 G0) (dstep R G) := by
  have gn : G0 ≠ [] := fun z => hn (hG.nil.mp z)
  have l1 := hR.len
  have l2 := hG.len
  have lg := hG.last_ne gn
  have pos := nat_pos_cast lg
  have lgd := ((tr_iff G).mp hG.tr).resolve_left hn
  have hc : c * (((ilast G0).natAbs : Nat) : Int) ≠ 0 := by
    intro z
    rcases Rat.mul_eq_zero.mp z with w | w
    · exact hR.ne w
    · grind
  refine Rl.mk_ic hc (tr_add _ _) fun i => ?_
  rw [ic_isub _ _ _ _ (by rw [List.length_map]; omega), ic_map, cf_dstep, l1, l2]
  have hd : leadingCoefficient R / leadingCoefficient G * leadingCoefficient G = leadingCoefficient R := Rat.div_mul_cancel lgd
  have h1 := hR.ic i
  have h2 := hR.last
  have h3 := hG.last
  have a := abs_cast (ilast G0)
  by_cases k : R.length - G.length ≤ i
  · rw [if_pos k, if_pos k]
    have h4 := hG.ic (i - (R.length - G.length))
    generalize (((ilast G0).natAbs : Nat) : Int) = A at *
    generalize leadingCoefficient R / leadingCoefficient G = q at *
    by_cases s : ilast G0 > 0
    · rw [if_pos s] at a ⊢
      have x1 : ((A * ic R0 i - ilast R0 * ic G0 (i - (R.length - G.length)) : Int) : Rat) = (A : Rat) * (ic R0 i : Rat) - (ilast R0 : Rat) * (ic G0 (i - (R.length - G.length)) : Rat) := by grind
      rw [x1, h1, h2, h4, a]
      grind
    · rw [if_neg s] at a ⊢
      have x1 : ((A * ic R0 i - -ilast R0 * ic G0 (i - (R.length - G.length)) : Int) : Rat) = (A : Rat) * (ic R0 i : Rat) + (ilast R0 : Rat) * (ic G0 (i - (R.length - G.length)) : Rat) := by grind
      rw [x1, h1, h2, h4, a]
      grind
  · rw [if_neg k, if_neg k]
    generalize (((ilast G0).natAbs : Nat) : Int) = A at *
    have x1 : ((A * ic R0 i - 0 : Int) : Rat) = (A : Rat) * (ic R0 i : Rat) := by grind
    rw [x1, h1]
    grind
/-- the division: up to a factor above 0 -/
theorem rl_prem {G0 : List Int} {G : List Rat} (hG : Rl e G0 G) (hn : G ≠ []) : ∀ (n : Nat) (R0 : List Int) (R a : List Rat) (c : Rat), Rl c R0 R → ∃ k : Rat, 0 < k ∧ Rl (c * k) (prem n R0 G0) (divide n G R a).2 := by
  intro n
  have lp := List.length_pos_iff.mpr hn
  induction n with
  | zero => intro R0 R a c h; exact ⟨1, by decide, by rw [Rat.mul_one]; exact h⟩
  | succ n ih =>
    intro R0 R a c h
    have l1 := h.len
    have l2 := hG.len
    by_cases k : R.length < G.length ∨ R = []
    · have : R0.length < G0.length := by
        rcases k with k | k
        · omega
        · have : R.length = 0 := by rw [k]; rfl
          omega
      rw [divide_done n k, prem, if_pos this]
      exact ⟨1, by decide, by rw [Rat.mul_one]; exact h⟩
    · have k1 : ¬ R.length < G.length := fun z => k (.inl z)
      rw [divide_more n k, prem, if_neg (by omega)]
      obtain ⟨x, x1, x2⟩ := ih (pstep R0 G0) (dstep R G) _ _ (rl_step h hG hn (by omega))
      have gn : G0 ≠ [] := fun z => hn (hG.nil.mp z)
      have pos := nat_pos_cast (hG.last_ne gn)
      refine ⟨(((ilast G0).natAbs : Nat) : Int) * x, Rat.mul_pos pos x1, ?_⟩
      rw [← Rat.mul_assoc]
      exact x2
/-! ### contents -/
theorem gcd_fold : ∀ (p : List Int) (d : Nat), (p.foldl (fun d c => Nat.gcd d c.natAbs) d) ∣ d ∧ ∀ c ∈ p, (p.foldl (fun d c => Nat.gcd d c.natAbs) d) ∣ c.natAbs
  | [], d => ⟨Nat.dvd_refl d, fun c h => by simp at h⟩
  | x :: p, d => by
    obtain ⟨h1, h2⟩ := gcd_fold p (Nat.gcd d x.natAbs)
    refine ⟨Nat.dvd_trans h1 (Nat.gcd_dvd_left _ _), fun c hc => ?_⟩
    rcases List.mem_cons.mp hc with rfl | hc
    · exact Nat.dvd_trans h1 (Nat.gcd_dvd_right _ _)
    · exact h2 c hc
theorem gcd_great : ∀ (p : List Int) (d e : Nat), e ∣ d → (∀ c ∈ p, e ∣ c.natAbs) → e ∣ p.foldl (fun d c => Nat.gcd d c.natAbs) d
  | [], d, e, h, _ => h
  | x :: p, d, e, h, hc => gcd_great p (Nat.gcd d x.natAbs) e (Nat.dvd_gcd h (hc x (by simp))) fun c hm => hc c (by simp [hm])
theorem content_dvd (p : List Int) {c : Int} (h : c ∈ p) : ((content p : Nat) : Int) ∣ c := Int.ofNat_dvd_left.mpr ((gcd_fold p 0).2 c h)
theorem content_pos {p : List Int} (h : ∃ c ∈ p, c ≠ 0) : 0 < content p := by
  obtain ⟨c, hc, h0⟩ := h
  rcases Nat.eq_zero_or_pos (content p) with z | z
  · have := content_dvd p hc
    rw [z] at this
    exact absurd (Int.zero_dvd.mp this) h0
  · exact z
theorem last_mem {p : List Int} (h : p ≠ []) : ilast p ∈ p := by
  rcases List.eq_nil_or_concat p with rfl | ⟨q, c, rfl⟩
  · exact absurd rfl h
  · simp [ilast]
theorem rl_prim (h : Rl c P L) (hn : P ≠ []) : 0 < content P ∧ Rl (c / ((content P : Nat) : Rat)) (prim P) L := by
  have hp := content_pos ⟨_, last_mem hn, h.last_ne hn⟩
  have hpr : (0 : Rat) < ((content P : Nat) : Rat) := Rat.natCast_pos.mpr hp
  have hne : ((content P : Nat) : Rat) ≠ 0 := by grind
  refine ⟨hp, ?_, h.tr, ?_⟩
  · intro z
    have := Rat.div_mul_cancel (a := c) hne
    rw [z] at this
    exact h.ne (by grind)
  · refine List.ext_getElem (by simp [toR, prim, h.len]) fun i h1 h2 => ?_
    have hi : i < P.length := by simpa [toR, prim] using h1
    have e1 := h.ic i
    rw [ic_lt _ _ hi, cf_lt _ _ (by rw [← h.len]; exact hi)] at e1
    obtain ⟨z, hz⟩ := content_dvd P (List.getElem_mem hi)
    have e2 : (toR (prim P))[i] = ((P[i] / ((content P : Nat) : Int) : Int) : Rat) := by simp [toR, prim]
    rw [e2]
    have e3 : P[i] / ((content P : Nat) : Int) = z := by
      rw [hz]
      exact Int.mul_ediv_cancel_left z (by omega)
    rw [e3]
    rw [hz, cast_mul, cast_nat] at e1
    rw [List.getElem_map]
    have hm := Rat.div_mul_cancel (a := c) hne
    generalize c / ((content P : Nat) : Rat) = q at *
    have : ((content P : Nat) : Rat) * ((z : Rat) - q * L[i]'(by rw [← h.len]; exact hi)) = 0 := by grind
    rcases Rat.mul_eq_zero.mp this with w | w
    · exact absurd w hne
    · grind
theorem prim_nil : prim [] = [] := rfl
theorem prim_prim (hn : ∃ c ∈ P, c ≠ 0) : Prim (prim P) := by
  have hp := content_pos hn
  intro d hd hall
  have : d * content P ∣ content P := by
    refine gcd_great P 0 (d * content P) (Nat.dvd_zero _) fun c hc => ?_
    obtain ⟨i, hi, rfl⟩ := List.mem_iff_getElem.mp hc
    have h1 := hall i
    rw [ic_lt _ _ (by simpa [prim] using hi)] at h1
    have e2 : (prim P)[i]'(by simpa [prim] using hi) = P[i] / ((content P : Nat) : Int) := by simp [prim]
    rw [e2] at h1
    obtain ⟨y, hy⟩ := h1
    have h2 := content_dvd P hc
    have h3 := Int.ediv_mul_cancel h2
    rw [hy] at h3
    have : ((d * content P : Nat) : Int) ∣ P[i] := ⟨y, by rw [← h3, Int.natCast_mul]; grind⟩
    exact Int.ofNat_dvd_left.mp this
  have := Nat.le_of_dvd hp this
  have : 2 * content P ≤ d * content P := Nat.mul_le_mul_right _ hd
  omega
/-- the remainder, up to a factor above 0 -/
theorem rl_rem (hP : Rl c P L) (hQ : Rl e Q M) (hn : M ≠ []) : ∃ k : Rat, 0 < k ∧ Rl (c * k) (irem P Q) (remainder L M) := by
  obtain ⟨k, k0, h⟩ := rl_prem hQ hn (P.length + 1) P L [] c hP
  have he : (divide (P.length + 1) M L []).2 = remainder L M := by rw [hP.len]; rfl
  rw [he] at h
  unfold irem
  by_cases z : prem (P.length + 1) P Q = []
  · refine ⟨k, k0, ?_⟩
    rw [z] at h ⊢
    exact h
  · obtain ⟨p0, r⟩ := rl_prim h z
    have hpr : (0 : Rat) < ((content (prem (P.length + 1) P Q) : Nat) : Rat) := Rat.natCast_pos.mpr p0
    refine ⟨k / ((content (prem (P.length + 1) P Q) : Nat) : Rat), (Rat.lt_div_iff hpr).mpr (by grind), ?_⟩
    have : c * (k / ((content (prem (P.length + 1) P Q) : Nat) : Rat)) = c * k / ((content (prem (P.length + 1) P Q) : Nat) : Rat) := by
      rw [Rat.div_def, Rat.div_def, Rat.mul_assoc]
    rw [this]
    exact r
theorem rl_gcdL : ∀ (n : Nat) (P Q : List Int) (L M : List Rat) (c e : Rat), Rl c P L → Rl e Q M → ∃ k : Rat, Rl k (igcdL n P Q) (euclid n L M) := by
  intro n
  induction n with
  | zero => intro P Q L M c e hP hQ; exact ⟨c, hP⟩
  | succ n ih =>
    intro P Q L M c e hP hQ
    by_cases z : M = []
    · rw [igcdL, euclid, if_pos z, if_pos (hQ.nil.mpr z)]
      exact ⟨c, hP⟩
    · rw [igcdL, euclid, if_neg z, if_neg fun w => z (hQ.nil.mp w)]
      obtain ⟨k, k0, r⟩ := rl_rem hP hQ z
      exact ih _ _ _ _ _ _ hQ r
theorem Rl.scaled {d : Rat} (h : Rl c P L) (hd : d ≠ 0) : Rl (c / d) P (scale d L) := by
  refine ⟨?_, tr_scale _ _, ?_⟩
  · intro z
    have := Rat.div_mul_cancel (a := c) hd
    rw [z] at this
    exact h.ne (by grind)
  · rw [h.eq, (lead_scale hd h.tr).1, List.map_map]
    refine List.map_congr_left fun x _ => ?_
    simp only [Function.comp]
    have := Rat.div_mul_cancel (a := c) hd
    grind
/-- the greatest common divisor: primitive, up to a factor -/
theorem rl_gcd (hP : Rl c P L) (hQ : Rl e Q M) (hn : L ≠ [] ∨ M ≠ []) : Prim (igcd P Q) ∧ ∃ k : Rat, Rl k (igcd P Q) (Kqg1.gcd L M) := by
  obtain ⟨k, r⟩ := rl_gcdL (P.length + Q.length + 2) P Q L M c e hP hQ
  obtain ⟨a1, a2, a3, a4, u, v, a5⟩ := euclid_is (L.length + M.length + 2) L M hP.tr hQ.tr hn (by omega)
  rw [hP.len, hQ.len] at r
  have rn : igcdL (L.length + M.length + 2) P Q ≠ [] := fun z => a2 (r.nil.mp z)
  obtain ⟨p0, r2⟩ := rl_prim r rn
  have hl := ((tr_iff _).mp a1).resolve_left a2
  unfold igcd
  rw [hP.len, hQ.len]
  refine ⟨prim_prim ⟨_, last_mem rn, r.last_ne rn⟩, k / ((content (igcdL (L.length + M.length + 2) P Q) : Nat) : Rat) / (1 / leadingCoefficient (euclid (L.length + M.length + 2) L M)), ?_⟩
  · unfold Kqg1.gcd
    rw [monic, if_neg a2]
    exact r2.scaled (by
      intro z
      have := Rat.div_mul_cancel (a := 1) hl
      rw [z] at this
      grind)
end
end RcG

/-! ## RcH -/
/-! Quotients, layers, chains and counts over whole numbers: they are the specification's. -/
namespace RcH
open Kqg1 RcA RcB RcC RcD RcE RcF RcG

/-! ### the quotient -/
def iquotL : Nat → List Int → List Int → List Int → List Int
  | 0, _, _, q => q
  | s + 1, rest, g, q => iquotL s (isub rest s ((ic rest (s + (g.length - 1))).fdiv (ilast g)) g) g ((ic rest (s + (g.length - 1))).fdiv (ilast g) :: q)
def iquot (P g : List Int) : List Int := iquotL (P.length - (g.length - 1)) P g []
theorem ic_mul_snoc : ∀ (A : List Int) (g : List Int) (h : Int) (i : Nat), ic (imul g (A ++ [h])) i = ic (imul g A) i + if A.length ≤ i then h * ic g (i - A.length) else 0
  | [], g, h, 0 => by
    have : ic (imul g []) 0 = 0 := by
      cases g with
      | nil => exact ic_nil 0
      | cons c g => rw [ic_imul_zero, ic_nil]; simp
    rw [this, List.nil_append, ic_imul_right0]
    simp
  | [], g, h, i + 1 => by
    have z : ∀ (g : List Int) (i : Nat), ic (imul g []) i = 0 := by
      intro g
      induction g with
      | nil => intro i; exact ic_nil i
      | cons c g ih =>
        intro i
        cases i with
        | zero => rw [ic_imul_zero, ic_nil]; simp
        | succ i => rw [ic_imul_succ, ic_nil, ih]; simp
    rw [z, List.nil_append, ic_imul_right, z]
    simp
  | a :: A, g, h, 0 => by
    rw [List.cons_append, ic_imul_right0, ic_imul_right0]
    simp
  | a :: A, g, h, i + 1 => by
    rw [List.cons_append, ic_imul_right, ic_imul_right, ic_mul_snoc A g h i, List.length_cons]
    simp only [Nat.add_le_add_iff_right, Nat.add_sub_add_right]
    omega
theorem ilast_ic (g : List Int) : ilast g = ic g (g.length - 1) := by
  rcases List.eq_nil_or_concat g with rfl | ⟨q, c, rfl⟩
  · rfl
  · have : ic (q ++ [c]) q.length = c := by
      rw [ic_lt _ _ (by simp)]
      simp
    simp [ilast, List.concat_eq_append, this]
theorem quotL_is {g : List Int} (hg : ilast g ≠ 0) (gl : 0 < g.length) : ∀ (s : Nat) (A q rest : List Int), A.length = s → (s + g.length - 1 ≤ rest.length ∨ s = 0) → (∀ i, ic rest i = ic (imul g A) i) → iquotL s rest g q = A ++ q := by
  intro s
  induction s with
  | zero =>
    intro A q rest hA _ _
    rw [List.length_eq_zero_iff.mp hA]
    rfl
  | succ s ih =>
    intro A q rest hA hl hr
    rcases List.eq_nil_or_concat A with rfl | ⟨B, h, rfl⟩
    · simp at hA
    · rw [List.concat_eq_append] at *
      have hB : B.length = s := by simpa using hA
      have e1 : ic rest (s + (g.length - 1)) = ilast g * h := by
        rw [hr, ic_mul_snoc, hB, if_pos (by omega), Nat.add_sub_cancel_left, ← ilast_ic]
        have z : ic (imul g B) (s + (g.length - 1)) = 0 := by
          have key : ∀ (B : List Int) (g : List Int) (i : Nat), B.length + g.length ≤ i + 1 → ic (imul g B) i = 0 := by
            intro B
            induction B with
            | nil =>
              intro g
              induction g with
              | nil => intro i _; exact ic_nil i
              | cons c g ihg =>
                intro i hi
                cases i with
                | zero => rw [ic_imul_zero, ic_nil]; simp
                | succ i => rw [ic_imul_succ, ic_nil, ihg i (by simpa using hi)]; simp
            | cons b B ihB =>
              intro g i hi
              simp only [List.length_cons] at hi
              cases i with
              | zero =>
                have : g = [] := List.length_eq_zero_iff.mp (by omega)
                subst this
                exact ic_nil 0
              | succ i => rw [ic_imul_right, ic_ge g (i + 1) (by omega), ihB g i (by omega)]; simp
          exact key B g _ (by omega)
        rw [z]
        grind
      have e2 : (ic rest (s + (g.length - 1))).fdiv (ilast g) = h := by
        rw [e1]
        exact Int.mul_fdiv_cancel_left h hg
      rw [iquotL, e2]
      rw [ih B (h :: q) _ hB (by
        rcases Nat.eq_zero_or_pos s with z | z
        · exact .inr z
        · refine .inl ?_
          unfold isub
          rw [List.length_map, List.length_range]
          omega) (fun i => by
        rw [ic_isub _ _ _ _ (by omega), hr, ic_mul_snoc, hB]
        omega)]
      simp
theorem rl_quot {c e : Rat} {P g : List Int} {L G : List Rat} (hg : Prim g) (hP : Rl c P L) (hG : Rl e g G) (hL : L ≠ []) (hd : Dv G L) :
    Rl (c / e) (iquot P g) (quotient L G) ∧ (∀ x : Int, iev P x = iev g x * iev (iquot P g) x) ∧ (iquot P g).length ≤ P.length := by
  obtain ⟨gn, A, hA, hAn, eA, lA⟩ := hd.len hG.tr hP.tr hL
  have g0 : g ≠ [] := fun z => gn (hG.nil.mp z)
  have qA : quotient L G = A := by
    refine eq_of_ev (div_spec hP.tr hG.tr gn).1 hA (cancel hG.tr gn fun t => ?_)
    rw [← quot_mul hP.tr hG.tr gn hd t]
    conv => lhs; rw [eA, ev_multiply]
  have en := hG.ne
  have hce : c / e ≠ 0 := by
    intro z
    have := Rat.div_mul_cancel (a := c) en
    rw [z] at this
    exact hP.ne (by grind)
  obtain ⟨H, hH⟩ := whole_quot (P := P) (h := A.map fun x => c / e * x) hg (fun t => by
    rw [hP.ev, hG.ev, ev_map]
    have h1 : evaluate L t = evaluate G t * evaluate A t := by rw [eA, ev_multiply]
    rw [h1]
    have := Rat.div_mul_cancel (a := c) en
    generalize c / e = q at *
    grind)
  have hR : Rl (c / e) H A := ⟨hce, hA, hH⟩
  have key : ∀ i, ic P i = ic (imul g H) i := by
    intro i
    apply cast_inj
    have a2 : ∀ t, evaluate (toR P) t = evaluate (lmul (toR g) (toR H)) t := fun t => by
      rw [ev_lmul, hP.ev, hG.ev, hR.ev]
      have h1 : evaluate L t = evaluate G t * evaluate A t := by rw [eA, ev_multiply]
      rw [h1]
      have := Rat.div_mul_cancel (a := c) en
      generalize c / e = q at *
      grind
    have a3 := cf_of_ev a2 i
    rw [cf_lmul, cf_toR] at a3
    rw [a3, cf_imul]
  have lp := hP.len
  have lg := hG.len
  have lh := hR.len
  have lgp := List.length_pos_iff.mpr g0
  have lap := List.length_pos_iff.mpr hAn
  have q : iquot P g = H := by
    unfold iquot
    rw [quotL_is (hG.last_ne g0) lgp _ H [] P (by omega) (.inl (by omega)) key]
    simp
  rw [q, qA]
  refine ⟨hR, fun x => ?_, by omega⟩
  apply cast_inj
  rw [cast_mul, ← ev_toR, ← ev_toR, ← ev_toR, hP.ev, hG.ev, hR.ev]
  have h1 : evaluate L (x : Rat) = evaluate G (x : Rat) * evaluate A (x : Rat) := by rw [eA, ev_multiply]
  rw [h1]
  have := Rat.div_mul_cancel (a := c) en
  generalize c / e = q at *
  grind
/-! ### the derivative -/
theorem ic_ider (p : List Int) (i : Nat) : ic (ider p) i = ((i + 1 : Nat) : Int) * ic p (i + 1) := by
  unfold ider
  by_cases c : i + 1 < p.length
  · rw [ic_lt _ _ (by simp; omega)]
    simp [Nat.add_comm]
  · rw [ic_ge _ _ (by simp; omega), ic_ge p _ (by omega)]
    simp
theorem ider_len (p : List Int) : (ider p).length = p.length - 1 := by simp [ider]
theorem rl_der {c : Rat} {P : List Int} {L : List Rat} (h : Rl c P L) : Rl c (ider P) (derivative L) := by
  have e : ∀ i, (ic (ider P) i : Rat) = c * coefficient (derivative L) i := fun i => by
    rw [ic_ider, cf_derivative, cast_mul, h.ic, cast_nat]
    grind
  refine Rl.of_ic h.ne (tr_derivative _) ?_ e
  by_cases z : P.length ≤ 1
  · have : ider P = [] := List.length_eq_zero_iff.mp (by rw [ider_len]; omega)
    rw [this]
    exact tr_nil
  · refine tr_of_lead ?_
    rw [toR_len, ider_len, cf_toR, e, ← ider_len]
    have hl := h.len
    have dl := der_len h.tr (by omega)
    intro w
    rcases Rat.mul_eq_zero.mp w with w | w
    · exact h.ne w
    · have := tr_lead (tr_derivative L) (by intro z2; rw [z2] at dl; simp at dl; omega)
      rw [dl] at this
      rw [ider_len, hl] at w
      exact this w
/-! ### layers -/
def ilayers : Nat → List Int → List (List Int)
  | 0, _ => []
  | n + 1, P => if P.length ≤ 1 then [] else iquot P (igcd P (ider P)) :: ilayers n (igcd P (ider P))
/-- layer by layer: the program's is the squarefree part of the specification's, up to a factor -/
def Lay : List (List Int) → List (List Rat) → Prop
  | [], [] => True
  | p :: ps, l :: ls => (Tr l ∧ 2 ≤ l.length ∧ ∃ c, Rl c p (squarefree l)) ∧ Lay ps ls
  | _, _ => False
theorem gcd_der_len {L : List Rat} (hL : Tr L) (h : 2 ≤ L.length) : (Kqg1.gcd L (derivative L)).length < L.length ∧ Tr (Kqg1.gcd L (derivative L)) ∧ Kqg1.gcd L (derivative L) ≠ [] ∧ Dv (Kqg1.gcd L (derivative L)) L := by
  have hn : L ≠ [] := by intro z; subst z; simp at h
  obtain ⟨a1, a2, a3, a4, a5, _⟩ := gcd_is hL (tr_derivative L) (.inl hn)
  have dl := der_len hL h
  have dn : derivative L ≠ [] := by intro z; rw [z] at dl; simp at dl; omega
  obtain ⟨_, y, _, hy, _, l⟩ := a5.len a1 (tr_derivative L) dn
  have := List.length_pos_iff.mpr hy
  exact ⟨by omega, a1, a2, a4⟩
theorem rl_layer {c : Rat} {P : List Int} {L : List Rat} (h : Rl c P L) (h2 : 2 ≤ L.length) :
    (∃ k, Rl k (igcd P (ider P)) (Kqg1.gcd L (derivative L))) ∧ Prim (igcd P (ider P)) ∧ (∃ k, Rl k (iquot P (igcd P (ider P))) (squarefree L)) ∧
    (∀ x : Int, iev P x = iev (igcd P (ider P)) x * iev (iquot P (igcd P (ider P))) x) ∧ (iquot P (igcd P (ider P))).length ≤ P.length := by
  have hn : L ≠ [] := by intro z; subst z; simp at h2
  obtain ⟨p1, k, r⟩ := rl_gcd h (rl_der h) (.inl hn)
  obtain ⟨g1, g2, g3, g4⟩ := gcd_der_len h.tr h2
  obtain ⟨q1, q2, q3⟩ := rl_quot p1 h r hn g4
  refine ⟨⟨k, r⟩, p1, ⟨c / k, ?_⟩, q2, q3⟩
  rw [squarefree, if_neg (by omega)]
  exact q1
theorem lay_is : ∀ (n m : Nat) (P : List Int) (L : List Rat) (c : Rat), Rl c P L → L.length ≤ n → L.length ≤ m → Lay (ilayers n P) (multiplicityLayers m L) := by
  intro n
  induction n with
  | zero =>
    intro m P L c h hn hm
    cases m with
    | zero => exact True.intro
    | succ m =>
      rw [multiplicityLayers, if_pos (by omega)]
      exact True.intro
  | succ n ih =>
    intro m P L c h hn hm
    have hl := h.len
    by_cases z : L.length ≤ 1
    · rw [ilayers, if_pos (by omega)]
      cases m with
      | zero => exact True.intro
      | succ m =>
        rw [multiplicityLayers, if_pos z]
        exact True.intro
    · cases m with
      | zero => omega
      | succ m =>
        rw [ilayers, if_neg (by omega), multiplicityLayers, if_neg z]
        obtain ⟨⟨k, r⟩, _, ⟨k2, r2⟩, _⟩ := rl_layer h (by omega)
        obtain ⟨g1, _⟩ := gcd_der_len h.tr (by omega)
        exact ⟨⟨h.tr, by omega, k2, r2⟩, ih m _ _ k r (by omega) (by omega)⟩
/-! ### chains -/
def ineg (p : List Int) : List Int := p.map fun c => -c
def ichainL : Nat → List Int → List Int → List (List Int)
  | 0, _, _ => []
  | n + 1, p, q => if q = [] then [p] else p :: ichainL n q (ineg (irem p q))
def ichain (p : List Int) : List (List Int) := ichainL (p.length + 1) p (ider p)
/-- element by element: multiples by factors of the sign of s -/
def Ch (s : Rat) : List (List Int) → List (List Rat) → Prop
  | [], [] => True
  | p :: ps, l :: ls => (∃ c, 0 < s * c ∧ Rl c p l) ∧ Ch s ps ls
  | _, _ => False
theorem rl_neg {c : Rat} {P : List Int} {L : List Rat} (h : Rl c P L) : Rl c (ineg P) (scale (-1) L) := by
  refine ⟨h.ne, tr_scale _ _, ?_⟩
  rw [(lead_scale (by decide) h.tr).1]
  have : toR (ineg P) = (toR P).map fun x => -x := by
    unfold toR ineg
    rw [List.map_map, List.map_map]
    refine List.map_congr_left fun x _ => ?_
    exact Rat.intCast_neg x
  rw [this, h.eq, List.map_map, List.map_map]
  refine List.map_congr_left fun x _ => ?_
  simp only [Function.comp]
  grind
theorem ch_is : ∀ (n : Nat) (P Q : List Int) (L M : List Rat) (s c e : Rat), 0 < s * c → 0 < s * e → Rl c P L → Rl e Q M → Ch s (ichainL n P Q) (sturmChainFrom n L M) := by
  intro n
  induction n with
  | zero => intro P Q L M s c e _ _ _ _; exact True.intro
  | succ n ih =>
    intro P Q L M s c e hc he hP hQ
    by_cases z : M = []
    · rw [ichainL, if_pos (hQ.nil.mpr z), sturmChainFrom, if_pos z]
      exact ⟨⟨c, hc, hP⟩, True.intro⟩
    · rw [ichainL, if_neg fun w => z (hQ.nil.mp w), sturmChainFrom, if_neg z]
      obtain ⟨k, k0, r⟩ := rl_rem hP hQ z
      refine ⟨⟨c, hc, hP⟩, ih _ _ _ _ s e (c * k) he ?_ hQ (rl_neg r)⟩
      rw [← Rat.mul_assoc]
      exact Rat.mul_pos hc k0
theorem sq_pos {c : Rat} (h : c ≠ 0) : 0 < c * c := by
  rcases Rat.le_total (a := 0) (b := c) with w | w
  · exact Rat.mul_pos (Rat.lt_of_le_of_ne w (Ne.symm h)) (Rat.lt_of_le_of_ne w (Ne.symm h))
  · have w2 := Rat.lt_of_le_of_ne w h
    have := Rat.mul_pos (a := -c) (b := -c) (by grind) (by grind)
    grind
theorem ch_sturm {c : Rat} {P : List Int} {L : List Rat} (h : Rl c P (squarefree L)) : Ch c (ichain P) (sturmChain L) := by
  have := ch_is (P.length + 1) P (ider P) (squarefree L) (derivative (squarefree L)) c c c (sq_pos h.ne) (sq_pos h.ne) h (rl_der h)
  rw [h.len] at this
  unfold ichain
  rw [h.len]
  exact this
/-! ### values at a point -/
theorem sval_D : ∀ (p : List Int) (n d : Int), (svalS p n d).2 = d ^ p.length
  | [], _, d => (Int.pow_zero d).symm
  | c :: p, n, d => by
    show (svalS p n d).2 * d = d ^ (p.length + 1)
    rw [sval_D p n d, Int.pow_succ]
theorem sval_at {d : Int} (hd : (d : Rat) ≠ 0) : ∀ (p : List Int) (n : Int), (sval p n d : Rat) * (d : Rat) = ((svalS p n d).2 : Rat) * evaluate (toR p) ((n : Rat) / (d : Rat))
  | [], n => by
    show ((0 : Int) : Rat) * (d : Rat) = ((1 : Int) : Rat) * evaluate (toR []) _
    rw [show toR [] = [] from rfl, ev_nil]
    grind
  | c :: p, n => by
    have ih := sval_at hd p n
    have e1 : sval (c :: p) n d = sval p n d * n + c * (svalS p n d).2 := rfl
    have e2 : (svalS (c :: p) n d).2 = (svalS p n d).2 * d := rfl
    have x1 : ((sval p n d * n + c * (svalS p n d).2 : Int) : Rat) = (sval p n d : Rat) * (n : Rat) + (c : Rat) * ((svalS p n d).2 : Rat) := by grind
    have x2 : (((svalS p n d).2 * d : Int) : Rat) = ((svalS p n d).2 : Rat) * (d : Rat) := by grind
    have x3 := Rat.div_mul_cancel (a := (n : Rat)) hd
    rw [e1, e2, x1, x2, toR_cons, ev_cons]
    generalize (n : Rat) / (d : Rat) = q at *
    rw [← x3]
    grind
theorem pow_pos_int {d : Int} (h : 0 < d) (n : Nat) : 0 < d ^ n := by
  induction n with
  | zero => rw [Int.pow_zero]; decide
  | succ n ih => rw [Int.pow_succ]; exact Int.mul_pos ih h
/-- at a rational point: a positive multiple of the value -/
theorem sval_pos {d : Int} (hd : 0 < d) (p : List Int) (n : Int) : ∃ k : Rat, 0 < k ∧ (sval p n d : Rat) = k * evaluate (toR p) ((n : Rat) / (d : Rat)) := by
  have d0 : (0 : Rat) < (d : Rat) := Rat.intCast_pos.mpr hd
  have dn : (d : Rat) ≠ 0 := by grind
  have h := sval_at dn p n
  have D0 : (0 : Rat) < ((svalS p n d).2 : Rat) := by rw [sval_D]; exact Rat.intCast_pos.mpr (pow_pos_int hd _)
  refine ⟨((svalS p n d).2 : Rat) / (d : Rat), (Rat.lt_div_iff d0).mpr (by grind), ?_⟩
  have e := Rat.div_mul_cancel (a := ((svalS p n d).2 : Rat)) dn
  generalize ((svalS p n d).2 : Rat) / (d : Rat) = k at *
  rw [← e] at h
  have : (d : Rat) * ((sval p n d : Rat) - k * evaluate (toR p) ((n : Rat) / (d : Rat))) = 0 := by grind
  rcases Rat.mul_eq_zero.mp this with w | w
  · exact absurd w dn
  · grind
theorem sval_one (c n : Int) : sval [c] n 0 = c := by
  show 0 * n + c * 1 = c
  omega
theorem sval_more (c : Int) {p : List Int} (h : p ≠ []) (n : Int) : sval (c :: p) n 0 = sval p n 0 * n := by
  have : (svalS p n 0).2 = 0 := by
    rw [sval_D]
    have := List.length_pos_iff.mpr h
    obtain ⟨m, hm⟩ : ∃ m, p.length = m + 1 := ⟨p.length - 1, by omega⟩
    rw [hm, Int.pow_succ]
    simp
  show sval p n 0 * n + c * (svalS p n 0).2 = _
  rw [this]
  simp
theorem ilast_cons (c : Int) {p : List Int} (h : p ≠ []) : ilast (c :: p) = ilast p := by
  rcases List.eq_nil_or_concat p with rfl | ⟨q, e, rfl⟩
  · exact absurd rfl h
  · simp only [List.concat_eq_append, ilast]
    have : c :: (q ++ [e]) = (c :: q) ++ [e] := rfl
    rw [this, List.getLast?_append, List.getLast?_append]
    rfl
theorem sval_plus : ∀ (p : List Int), sval p 1 0 = ilast p
  | [] => rfl
  | [c] => sval_one c 1
  | c :: e :: p => by rw [sval_more c (by simp), ilast_cons c (by simp), sval_plus (e :: p)]; omega
theorem sval_minus : ∀ (p : List Int), sval p (-1) 0 = if (p.length - 1) % 2 = 0 then ilast p else -ilast p
  | [] => rfl
  | [c] => by rw [sval_one]; rfl
  | c :: e :: p => by
    rw [sval_more c (by simp), ilast_cons c (by simp), sval_minus (e :: p)]
    have : (c :: e :: p).length - 1 = (e :: p).length - 1 + 1 := by simp
    rw [this]
    by_cases h : ((e :: p).length - 1) % 2 = 0
    · rw [if_pos h, if_neg (by omega)]
      omega
    · rw [if_neg h, if_pos (by omega)]
      omega
/-! ### changes -/
def isc : Int → List Int → Nat
  | _, [] => 0
  | l, x :: r => (if x * l < 0 then 1 else 0) + isc (if x ≠ 0 then x else l) r
def ichanges (chain : List (List Int)) (n d : Int) : Nat := isc 0 (chain.map fun p => sval p n d)
/-- value by value: multiples by factors of the sign of s -/
def Mu (s : Rat) : List Int → List Rat → Prop
  | [], [] => True
  | v :: vs, w :: ws => (∃ m : Rat, 0 < s * m ∧ (v : Rat) = m * w) ∧ Mu s vs ws
  | _, _ => False
theorem isc_sc {s : Rat} : ∀ (vs : List Int) (ws : List Rat) (l : Int) (x : Rat), Mu s vs ws → (∃ m : Rat, 0 < s * m ∧ (l : Rat) = m * x) → isc l vs = sc x ws
  | [], [], _, _, _, _ => rfl
  | v :: vs, w :: ws, l, x, h, hm => by
    obtain ⟨⟨m, m0, hv⟩, h2⟩ := h
    obtain ⟨k, k0, hl⟩ := hm
    have mk : 0 < m * k := by
      have sn : s ≠ 0 := by intro z; rw [z] at m0; grind
      have ss := sq_pos sn
      have := Rat.mul_pos m0 k0
      refine Rat.not_le.mp fun z => ?_
      have := Rat.mul_le_mul_of_nonneg_left z (Rat.le_of_lt ss)
      grind
    rw [isc, sc]
    by_cases c : w = 0
    · have v0 : v = 0 := cast_zero_iff.mp (by rw [hv, c]; grind)
      rw [if_pos c, v0, Int.zero_mul, if_neg (by omega), if_neg (by omega), Nat.zero_add]
      exact isc_sc vs ws l x h2 ⟨k, k0, hl⟩
    · have v0 : v ≠ 0 := by
        intro z
        rw [z] at hv
        rcases Rat.mul_eq_zero.mp hv.symm with u | u
        · rw [u] at m0; grind
        · exact c u
      have e : v * l < 0 ↔ x * w < 0 := by
        have e1 : (v * l < 0) ↔ ((v * l : Int) : Rat) < 0 := Rat.intCast_neg_iff.symm
        have e2 : ((v * l : Int) : Rat) = m * k * (x * w) := by rw [cast_mul, hv, hl]; grind
        rw [e1, e2]
        exact Rat.mul_neg_iff_of_pos_left mk
      rw [if_neg c, if_pos v0, isc_sc vs ws v w h2 ⟨m, m0, hv⟩]
      by_cases z : v * l < 0
      · rw [if_pos z, if_pos (e.mp z)]
      · rw [if_neg z, if_neg fun y => z (e.mpr y)]
  | [], _ :: _, _, _, h, _ => h.elim
  | _ :: _, [], _, _, h, _ => h.elim
theorem mu_of {s : Rat} (hs : s ≠ 0) {n d : Int} {f : List Rat → Rat} (hf : ∀ (p : List Int) (l : List Rat) (c : Rat), Rl c p l → l ≠ [] → ∃ k : Rat, 0 < k ∧ (sval p n d : Rat) = k * c * f l) :
    ∀ (ps : List (List Int)) (ls : List (List Rat)), Ch s ps ls → (∀ l ∈ ls, Good l) → Mu s (ps.map fun p => sval p n d) (ls.map f)
  | [], [], _, _ => True.intro
  | p :: ps, l :: ls, h, hg => by
    obtain ⟨⟨c, c0, r⟩, h2⟩ := h
    obtain ⟨k, k0, e⟩ := hf p l c r (hg l (by simp)).2
    exact ⟨⟨k * c, by have := Rat.mul_pos k0 c0; grind, e⟩, mu_of hs hf ps ls h2 fun x hx => hg x (by simp [hx])⟩
  | [], _ :: _, h, _ => h.elim
  | _ :: _, [], h, _ => h.elim
/-- the program's points -/
def Pt (n d : Int) : Point → Prop
  | .at t => 0 < d ∧ t = (n : Rat) / (d : Rat)
  | .plusInfinity => n = 1 ∧ d = 0
  | .minusInfinity => n = -1 ∧ d = 0
theorem changes_is {s : Rat} (hs : s ≠ 0) {ps : List (List Int)} {ls : List (List Rat)} (h : Ch s ps ls) (hg : ∀ l ∈ ls, Good l) {n d : Int} {t : Point} (ht : Pt n d t) : ichanges ps n d = changesAt ls t := by
  have z0 : ∃ m : Rat, 0 < s * m ∧ ((0 : Int) : Rat) = m * 0 := ⟨s, sq_pos hs, by grind⟩
  unfold ichanges changesAt
  match t, ht with
  | .at t, ⟨hd, e⟩ =>
    have m := mu_of hs (n := n) (d := d) (f := fun l => evaluate l t) (fun p l c r _ => by
      obtain ⟨k, k0, e2⟩ := sval_pos hd p n
      exact ⟨k, k0, by rw [e2, r.ev, ← e, Rat.mul_assoc]⟩) ps ls h hg
    rw [isc_sc _ _ _ _ m z0, ← changes_sc, List.map_map]
    rfl
  | .plusInfinity, ⟨e1, e2⟩ =>
    subst e1
    subst e2
    have m := mu_of hs (n := 1) (d := 0) (f := fun l => leadingCoefficient l) (fun p l c r _ => ⟨1, by decide, by rw [sval_plus, r.last]; grind⟩) ps ls h hg
    rw [isc_sc _ _ _ _ m z0, ← changes_sc, List.map_map]
    rfl
  | .minusInfinity, ⟨e1, e2⟩ =>
    subst e1
    subst e2
    have m := mu_of hs (n := -1) (d := 0) (f := fun l => if degree l % 2 = 0 then leadingCoefficient l else -leadingCoefficient l) (fun p l c r _ => ⟨1, by decide, by
      rw [sval_minus, r.len]
      have := r.last
      show _ = 1 * c * if (l.length - 1) % 2 = 0 then _ else _
      split
      · rw [this]; grind
      · rw [show ((-ilast p : Int) : Rat) = -(ilast p : Rat) from Rat.intCast_neg _, this]; grind⟩) ps ls h hg
    rw [isc_sc _ _ _ _ m z0, ← changes_sc, List.map_map]
    congr 1
    refine List.map_congr_left fun l _ => ?_
    show sign (if degree l % 2 = 0 then _ else _) = if degree l % 2 = 0 then sign (leadingCoefficient l) else -(sign (leadingCoefficient l))
    split
    · rfl
    · exact sign_neg _
/-! ### counts -/
def icount (layer : List Int) (ln ld hn hd : Int) : Int := (ichanges (ichain layer) ln ld : Int) - (ichanges (ichain layer) hn hd : Int)
theorem count_layer {l : List Rat} (hl : Tr l) (h2 : 2 ≤ l.length) {c : Rat} {p : List Int} (r : Rl c p (squarefree l)) {ln ld hn hd : Int} {s t : Point} (hs : Pt ln ld s) (ht : Pt hn hd t) (hb : Before s t) :
    icount p ln ld hn hd = ((countByChain (sturmChain l) s t : Nat) : Int) := by
  obtain ⟨_, _, _, g⟩ := chain_is hl h2
  have ch := ch_sturm r
  unfold icount countByChain
  rw [changes_is r.ne ch g hs, changes_is r.ne ch g ht]
  have := changes_mono hl h2 hb
  omega
def icounts (P : List Int) (ln ld hn hd : Int) : List Int := (ilayers P.length P).map fun layer => icount layer ln ld hn hd
theorem fold_sum (l : List Nat) (a : Nat) : l.foldl (fun x y => x + y) a = a + l.sum := by
  induction l generalizing a with
  | nil => simp
  | cons x l ih => rw [List.foldl_cons, ih, List.sum_cons]; omega
theorem lay_counts {ln ld hn hd : Int} {s t : Point} (hs : Pt ln ld s) (ht : Pt hn hd t) (hb : Before s t) : ∀ (ps : List (List Int)) (ls : List (List Rat)), Lay ps ls →
    (ps.map fun p => icount p ln ld hn hd) = (ls.map fun l => countByChain (sturmChain l) s t).map fun (n : Nat) => (n : Int)
  | [], [], _ => rfl
  | p :: ps, l :: ls, h => by
    obtain ⟨⟨h1, h2, c, r⟩, h3⟩ := h
    rw [List.map_cons, List.map_cons, List.map_cons, count_layer h1 h2 r hs ht hb, lay_counts hs ht hb ps ls h3]
  | [], _ :: _, h => h.elim
  | _ :: _, [], h => h.elim
theorem sum_cast (l : List Nat) : (l.map fun (n : Nat) => (n : Int)).sum = ((l.sum : Nat) : Int) := by
  induction l with
  | nil => rfl
  | cons x l ih => rw [List.map_cons, List.sum_cons, ih, List.sum_cons]; omega
theorem counts_is {c : Rat} {P : List Int} {L : List Rat} (h : Rl c P L) {ln ld hn hd : Int} {s t : Point} (hs : Pt ln ld s) (ht : Pt hn hd t) (hb : Before s t) :
    (icounts P ln ld hn hd).sum = ((countRoots L s t : Nat) : Int) ∧ (icounts P ln ld hn hd).headD 0 = ((countDistinct L s t : Nat) : Int) := by
  have lay := lay_is P.length L.length P L c h (by rw [h.len]; exact Nat.le_refl _) (Nat.le_refl _)
  have e := lay_counts hs ht hb _ _ lay
  have e' : icounts P ln ld hn hd = ((multiplicityLayers L.length L).map fun l => countByChain (sturmChain l) s t).map fun (n : Nat) => (n : Int) := e
  rw [e']
  constructor
  · rw [sum_cast]
    unfold countRoots countByChains layerChains
    rw [fold_sum, List.map_map, Nat.zero_add]
    rfl
  · unfold countDistinct
    by_cases z : L.length ≤ 1
    · rw [if_pos z]
      have : multiplicityLayers L.length L = [] := by
        cases hl : L.length with
        | zero => rfl
        | succ n =>
          rw [multiplicityLayers, if_pos z]
      rw [this]
      rfl
    · rw [if_neg z]
      obtain ⟨n, hn'⟩ : ∃ n, L.length = n + 1 := ⟨L.length - 1, by omega⟩
      rw [hn', multiplicityLayers, if_neg z]
      rfl
/-! ### the multiplicity -/
def imult (P : List Int) (n d : Int) : Nat := ((ilayers P.length P).filter fun layer => sval layer n d == 0).length
theorem lay_mult {n d : Int} (hd : 0 < d) : ∀ (ps : List (List Int)) (ls : List (List Rat)), Lay ps ls →
    (ps.filter fun p => sval p n d == 0).length = ((ls.map sturmChain).filter fun c => evaluate (c.headD []) ((n : Rat) / (d : Rat)) == 0).length
  | [], [], _ => rfl
  | p :: ps, l :: ls, h => by
    obtain ⟨⟨h1, h2, c, r⟩, h3⟩ := h
    have ih := lay_mult (n := n) hd ps ls h3
    obtain ⟨r', e, _⟩ := chain_is h1 h2
    obtain ⟨k, k0, e2⟩ := sval_pos hd p n
    have e3 : (sval p n d == 0) = (evaluate (squarefree l) ((n : Rat) / (d : Rat)) == 0) := by
      rw [r.ev] at e2
      rw [Bool.eq_iff_iff, beq_iff_eq, beq_iff_eq]
      constructor
      · intro z
        rw [z] at e2
        rcases Rat.mul_eq_zero.mp e2.symm with w | w
        · grind
        · rcases Rat.mul_eq_zero.mp w with w | w
          · exact absurd w r.ne
          · exact w
      · intro z
        rw [z] at e2
        exact cast_zero_iff.mp (by rw [e2]; grind)
    rw [List.map_cons, List.filter_cons, List.filter_cons, e, List.headD_cons, e3]
    split
    · rw [List.length_cons, List.length_cons, ih]
    · exact ih
  | [], _ :: _, h => h.elim
  | _ :: _, [], h => h.elim
theorem mult_is {c : Rat} {P : List Int} {L : List Rat} (h : Rl c P L) {n d : Int} (hd : 0 < d) : imult P n d = multiplicity L ((n : Rat) / (d : Rat)) :=
  lay_mult hd _ _ (lay_is P.length L.length P L c h (by rw [h.len]; exact Nat.le_refl _) (Nat.le_refl _))
end RcH

/-! ## RcI -/
/-! How large the numbers of the divisions become. -/
namespace RcI
open Kqg1 RcA RcB RcC RcD RcE RcF RcG RcH

/-- all coefficients below 2 ^ b -/
def Sz (b : Nat) (p : List Int) : Prop := ∀ c ∈ p, c.natAbs < 2 ^ b
theorem Sz.mono {a b : Nat} {p : List Int} (h : Sz a p) (hb : a ≤ b) : Sz b p := fun c hc => Nat.lt_of_lt_of_le (h c hc) (Nat.pow_le_pow_right (by decide) hb)
theorem Sz.ic {b : Nat} {p : List Int} (h : Sz b p) (i : Nat) : (ic p i).natAbs < 2 ^ b := by
  by_cases c : i < p.length
  · rw [ic_lt _ _ c]
    exact h _ (List.getElem_mem c)
  · rw [ic_ge _ _ (by omega)]
    exact Nat.pow_pos (by decide)
theorem sz_of_ic {b : Nat} {p : List Int} (h : ∀ i, (RcF.ic p i).natAbs < 2 ^ b) : Sz b p := fun c hc => by
  obtain ⟨i, hi, rfl⟩ := List.mem_iff_getElem.mp hc
  rw [← ic_lt]
  exact h i
theorem Sz.last {b : Nat} {p : List Int} (h : Sz b p) : (ilast p).natAbs < 2 ^ b := by
  rw [ilast_ic]
  exact h.ic _
theorem sz_nil (b : Nat) : Sz b [] := fun c h => by simp at h
theorem mul_lt {x y : Int} {a b : Nat} (hx : x.natAbs < 2 ^ a) (hy : y.natAbs < 2 ^ b) : (x * y).natAbs < 2 ^ (a + b) := by
  rw [Int.natAbs_mul, Nat.pow_add]
  exact Nat.mul_lt_mul'' hx hy
theorem sub_lt {x y : Int} {a : Nat} (hx : x.natAbs < 2 ^ a) (hy : y.natAbs < 2 ^ a) : (x - y).natAbs < 2 ^ (a + 1) := by
  rw [Nat.pow_succ]
  omega
theorem add_lt {x y : Int} {a : Nat} (hx : x.natAbs < 2 ^ a) (hy : y.natAbs < 2 ^ a) : (x + y).natAbs < 2 ^ (a + 1) := by
  rw [Nat.pow_succ]
  omega
theorem sz_step {a b : Nat} {r g : List Int} (hr : Sz a r) (hg : Sz b g) (h : g.length ≤ r.length) : Sz (a + b + 1) (pstep r g) := by
  refine sz_of_ic fun i => ?_
  unfold pstep
  rw [ic_itrim, ic_isub _ _ _ _ (by rw [List.length_map]; omega), ic_map]
  have h1 : (((ilast g).natAbs : Int) * ic r i).natAbs < 2 ^ (a + b) := by
    rw [Nat.add_comm a b]
    exact mul_lt (by simpa using hg.last) (hr.ic i)
  split
  · refine sub_lt h1 (mul_lt ?_ (hg.ic _))
    split
    · exact hr.last
    · simpa using hr.last
  · have : ((((ilast g).natAbs : Int) * ic r i) - 0) = ((ilast g).natAbs : Int) * ic r i := by omega
    rw [this]
    exact Nat.lt_of_lt_of_le h1 (Nat.pow_le_pow_right (by decide) (by omega))
theorem ilast_nil : ilast [] = 0 := rfl
/-- a step makes the dividend shorter -/
theorem step_len {r g : List Int} (hr : ilast r ≠ 0) (hg : ilast g ≠ 0) (h : g.length ≤ r.length) : (pstep r g).length < r.length := by
  have l1 : 0 < r.length := by
    rcases r with _ | _
    · exact absurd ilast_nil hr
    · simp
  have l2 : 0 < g.length := by
    rcases g with _ | _
    · exact absurd ilast_nil hg
    · simp
  have e : ∀ i, r.length - 1 ≤ i → ic (pstep r g) i = 0 := by
    intro i hi
    unfold pstep
    rw [ic_itrim, ic_isub _ _ _ _ (by rw [List.length_map]; omega), ic_map, if_pos (by omega)]
    by_cases c : i = r.length - 1
    · rw [c, show r.length - 1 - (r.length - g.length) = g.length - 1 by omega, ← ilast_ic, ← ilast_ic]
      by_cases s : ilast g > 0
      · rw [if_pos s, show ((ilast g).natAbs : Int) = ilast g by omega, Int.mul_comm]
        omega
      · rw [if_neg s, show ((ilast g).natAbs : Int) = -ilast g by omega, Int.neg_mul, Int.neg_mul, Int.mul_comm]
        omega
    · rw [ic_ge r i (by omega), ic_ge g _ (by omega)]
      simp
  have t : Tr (toR (pstep r g)) := by
    unfold pstep
    rw [toR_trim]
    exact tr_trim _
  have := len_le t (n := r.length - 1) fun i hi => by rw [cf_toR, e i hi]; rfl
  rw [toR_len] at this
  omega
/-- trimmed -/
def Ok (p : List Int) : Prop := p = [] ∨ ilast p ≠ 0
theorem ok_tr {p : List Int} : Ok p ↔ Tr (toR p) := by
  rw [tr_iff, lead_toR]
  unfold Ok
  constructor
  · rintro (h | h)
    · exact .inl (by rw [h]; rfl)
    · exact .inr fun z => h (cast_zero_iff.mp z)
  · rintro (h | h)
    · exact .inl (List.length_eq_zero_iff.mp (by rw [← toR_len, h]; rfl))
    · exact .inr fun z => h (by rw [z]; rfl)
theorem ok_trim (p : List Int) : Ok (itrim p) := ok_tr.mpr (by rw [toR_trim]; exact tr_trim _)
theorem ok_step (r g : List Int) : Ok (pstep r g) := ok_trim _
theorem sz_prem {b : Nat} {g : List Int} (hg : Sz b g) (hn : ilast g ≠ 0) : ∀ (n a : Nat) (r : List Int), Ok r → Sz a r → Sz (a + (r.length + 1 - g.length) * (b + 1)) (prem n r g) := by
  have l2 : 0 < g.length := by
    rcases g with _ | _
    · exact absurd ilast_nil hn
    · simp
  intro n
  induction n with
  | zero => intro a r _ hr; exact hr.mono (Nat.le_add_right _ _)
  | succ n ih =>
    intro a r ho hr
    rw [prem]
    by_cases c : r.length < g.length
    · rw [if_pos c]
      exact hr.mono (Nat.le_add_right _ _)
    · rw [if_neg c]
      have rn : ilast r ≠ 0 := ho.resolve_left (by intro z; rw [z] at c; exact c l2)
      have hl := step_len rn hn (by omega)
      refine (ih (a + b + 1) (pstep r g) (ok_step r g) (sz_step hr hg (by omega))).mono ?_
      have : ((pstep r g).length + 1 - g.length) * (b + 1) + (b + 1) ≤ (r.length + 1 - g.length) * (b + 1) := by
        rw [← Nat.succ_mul]
        exact Nat.mul_le_mul_right _ (by omega)
      omega
theorem prem_len {g : List Int} (hn : ilast g ≠ 0) : ∀ (n : Nat) (r : List Int), Ok r → r.length < n → (prem n r g).length < g.length ∧ Ok (prem n r g) := by
  have l2 : 0 < g.length := by
    rcases g with _ | _
    · exact absurd ilast_nil hn
    · simp
  intro n
  induction n with
  | zero => intro r _ h; omega
  | succ n ih =>
    intro r ho h
    rw [prem]
    by_cases c : r.length < g.length
    · rw [if_pos c]
      exact ⟨c, ho⟩
    · rw [if_neg c]
      have rn : ilast r ≠ 0 := ho.resolve_left (by intro z; rw [z] at c; exact c l2)
      have hl := step_len rn hn (by omega)
      exact ih _ (ok_step _ _) (by omega)
theorem sz_prim {b : Nat} {p : List Int} (h : Sz b p) : Sz b (prim p) := by
  intro c hc
  unfold prim at hc
  obtain ⟨x, hx, rfl⟩ := List.mem_map.mp hc
  refine Nat.lt_of_le_of_lt ?_ (h x hx)
  obtain ⟨z, hz⟩ := content_dvd p hx
  rcases Nat.eq_zero_or_pos (content p) with w | w
  · rw [w]
    simp
  · have e : x / ((content p : Nat) : Int) = z := by
      rw [hz]
      exact Int.mul_ediv_cancel_left z (by omega)
    rw [e]
    have e2 : x.natAbs = content p * z.natAbs := by rw [hz, Int.natAbs_mul]; simp
    rw [e2]
    exact Nat.le_mul_of_pos_left _ w
theorem prim_len (p : List Int) : (prim p).length = p.length := by simp [prim]
theorem ok_prim {p : List Int} (h : Ok p) : Ok (prim p) := by
  rcases h with h | h
  · subst h; exact .inl rfl
  · have pn : p ≠ [] := by intro z; subst z; exact h ilast_nil
    refine .inr ?_
    rw [ilast_ic, prim_len]
    have l1 : p.length - 1 < p.length := by have := List.length_pos_iff.mpr pn; omega
    rw [ic_lt _ _ (by rw [prim_len]; exact l1)]
    have e2 : (prim p)[p.length - 1]'(by rw [prim_len]; exact l1) = p[p.length - 1] / ((content p : Nat) : Int) := by simp [prim]
    rw [e2]
    have e3 : p[p.length - 1] = ilast p := by rw [ilast_ic, ic_lt _ _ l1]
    rw [e3]
    have hd := content_dvd p (last_mem pn)
    intro z
    have := Int.ediv_mul_cancel hd
    rw [z] at this
    simp at this
    exact h this.symm
theorem rem_facts {a b : Nat} {f g : List Int} (hf : Sz a f) (ho : Ok f) (hg : Sz b g) (hn : ilast g ≠ 0) : Sz (a + (f.length + 1 - g.length) * (b + 1)) (irem f g) ∧ (irem f g).length < g.length ∧ Ok (irem f g) := by
  obtain ⟨h1, h2⟩ := prem_len hn (f.length + 1) f ho (Nat.lt_succ_self _)
  refine ⟨sz_prim (sz_prem hg hn _ _ _ ho hf), ?_, ok_prim h2⟩
  unfold irem
  rw [prim_len]
  exact h1
/-- the factor by which sizes may grow in a euclidean algorithm -/
def gf (m n : Nat) : Nat := if m = n then 2 * 3 ^ m else 3 ^ m
theorem two_le_pow (d : Nat) (h : 1 ≤ d) : d + 2 ≤ 3 ^ d := by
  induction d with
  | zero => omega
  | succ d ih =>
    rcases Nat.eq_zero_or_pos d with z | z
    · subst z; decide
    · have := ih z
      rw [Nat.pow_succ]
      omega
theorem gf_pos (m n : Nat) : 1 ≤ gf m n := by
  unfold gf
  have : 0 < 3 ^ m := Nat.pow_pos (by decide)
  split <;> omega
theorem gf_step {m n k : Nat} (h : n ≤ m) (hk : k < n) : (m - n + 2) * gf n k ≤ gf m n := by
  unfold gf
  rw [if_neg (show ¬ n = k by omega)]
  by_cases c : m = n
  · subst c
    rw [if_pos rfl, Nat.sub_self]
    omega
  · rw [if_neg c]
    have := two_le_pow (m - n) (by omega)
    have e : 3 ^ m = 3 ^ (m - n) * 3 ^ n := by rw [← Nat.pow_add]; congr 1; omega
    rw [e]
    exact Nat.mul_le_mul_right _ this
/-- the remainder's size by the common size -/
theorem rem_size {s : Nat} {f g : List Int} (hf : Sz s f) (ho : Ok f) (hg : Sz s g) (hn : ilast g ≠ 0) (hl : g.length ≤ f.length) : Sz ((f.length - g.length + 2) * (s + 1) - 1) (irem f g) := by
  refine (rem_facts hf ho hg hn).1.mono ?_
  have e : f.length + 1 - g.length = f.length - g.length + 1 := by omega
  rw [e]
  have : (f.length - g.length + 2) * (s + 1) = (f.length - g.length + 1) * (s + 1) + (s + 1) := by rw [← Nat.succ_mul]
  omega
theorem gcdL_facts : ∀ (n s : Nat) (f g : List Int), Sz s f → Ok f → Sz s g → Ok g → g.length ≤ f.length → Sz ((s + 1) * gf f.length g.length - 1) (igcdL n f g) ∧ Ok (igcdL n f g) := by
  intro n
  induction n with
  | zero =>
    intro s f g hf ho _ _ _
    refine ⟨hf.mono ?_, ho⟩
    have := Nat.mul_le_mul_left (s + 1) (gf_pos f.length g.length)
    omega
  | succ n ih =>
    intro s f g hf ho hg hog hl
    rw [igcdL]
    by_cases z : g = []
    · rw [if_pos z]
      refine ⟨hf.mono ?_, ho⟩
      have := Nat.mul_le_mul_left (s + 1) (gf_pos f.length g.length)
      omega
    · rw [if_neg z]
      have hn := hog.resolve_left z
      obtain ⟨_, h2, h3⟩ := rem_facts hf ho hg hn
      have h1 := rem_size hf ho hg hn hl
      have up : s ≤ (f.length - g.length + 2) * (s + 1) - 1 := by
        have : 1 * (s + 1) ≤ (f.length - g.length + 2) * (s + 1) := Nat.mul_le_mul_right _ (by omega)
        omega
      obtain ⟨r1, r2⟩ := ih _ g (irem f g) (hg.mono up) hog h1 h3 (by omega)
      refine ⟨r1.mono ?_, r2⟩
      have p1 : 1 ≤ (f.length - g.length + 2) * (s + 1) := Nat.mul_pos (by omega) (by omega)
      rw [Nat.sub_add_cancel p1]
      have := Nat.mul_le_mul_left (s + 1) (gf_step hl h2)
      have e : (f.length - g.length + 2) * (s + 1) * gf g.length (irem f g).length = (s + 1) * ((f.length - g.length + 2) * gf g.length (irem f g).length) := by
        rw [Nat.mul_comm (f.length - g.length + 2) (s + 1), Nat.mul_assoc]
      omega
end RcI

/-! ## RcJ -/
/-! The layers' and chains' sizes. -/
namespace RcJ
open Kqg1 RcA RcB RcC RcD RcE RcF RcG RcH RcI

theorem le_of_sz {S : Nat} {p : List Int} (h : Sz S p) : Le (2 ^ S) p := fun i => Nat.le_of_lt (h.ic i)
theorem sz_of_le {S : Nat} {p : List Int} (h : Le (2 ^ 90 * 2 ^ S) p) : Sz (S + 91) p := sz_of_ic fun i => by
  refine Nat.lt_of_le_of_lt (h i) ?_
  rw [← Nat.pow_add]
  exact Nat.pow_lt_pow_right (by decide) (by omega)
theorem rl_self {P : List Int} (h : Ok P) : Rl 1 P (toR P) := by
  refine ⟨by decide, ok_tr.mp h, ?_⟩
  conv => lhs; rw [← List.map_id (toR P)]
  refine List.map_congr_left fun x _ => ?_
  simp only [id]
  grind
theorem ok_of_rl {c : Rat} {P : List Int} {L : List Rat} (h : Rl c P L) : Ok P := ok_tr.mpr h.trP
theorem ne_zero_ic {P : List Int} (h : Ok P) (hn : P ≠ []) : ∃ i, ic P i ≠ 0 := ⟨P.length - 1, by rw [← ilast_ic]; exact h.resolve_left hn⟩
/-- one layer -/
theorem layer_facts {S : Nat} {P : List Int} (h : Ok P) (h2 : 2 ≤ P.length) (h9 : P.length ≤ 9) (hs : Sz S P) :
    Ok (igcd P (ider P)) ∧ igcd P (ider P) ≠ [] ∧ (igcd P (ider P)).length < P.length ∧ Sz (S + 91) (igcd P (ider P)) ∧
    Ok (iquot P (igcd P (ider P))) ∧ iquot P (igcd P (ider P)) ≠ [] ∧ (iquot P (igcd P (ider P))).length ≤ P.length ∧ Sz (S + 91) (iquot P (igcd P (ider P))) := by
  have r := rl_self h
  have l2 : 2 ≤ (toR P).length := by rw [toR_len]; exact h2
  obtain ⟨⟨k, rk⟩, pr, ⟨k2, rk2⟩, hev, hlen⟩ := rl_layer r l2
  obtain ⟨g1, g2, g3, g4⟩ := gcd_der_len r.tr l2
  obtain ⟨s1, s2, _⟩ := sqf_is r.tr l2
  have hn : P ≠ [] := by intro z; subst z; simp at h2
  have nz := ne_zero_ic h hn
  have e2 : ∀ x : Int, iev P x = iev (iquot P (igcd P (ider P))) x * iev (igcd P (ider P)) x := fun x => by rw [hev, Int.mul_comm]
  have lg : (igcd P (ider P)).length < P.length := by rw [rk.len, ← toR_len P]; exact g1
  refine ⟨ok_of_rl rk, fun z => g3 (rk.nil.mp z), lg, sz_of_le (factor_le h9 (by omega) (le_of_sz hs) nz e2), ok_of_rl rk2, fun z => ?_, hlen, sz_of_le (factor_le h9 (by omega) (le_of_sz hs) nz hev)⟩
  have := rk2.len
  rw [z] at this
  simp at this
  omega
theorem sz_ider {S : Nat} {p : List Int} (h : Sz S p) (h9 : p.length ≤ 9) : Sz (S + 4) (ider p) := sz_of_ic fun i => by
  rw [ic_ider]
  by_cases c : i + 1 < p.length
  · rw [Int.natAbs_mul, Nat.pow_add, Nat.mul_comm]
    refine Nat.mul_lt_mul_of_lt_of_le (h.ic _) ?_ (by decide)
    simp only [Int.natAbs_natCast]
    omega
  · rw [ic_ge p _ (by omega)]
    simp
    exact Nat.pow_pos (by decide)
theorem ok_ider {p : List Int} (h : Ok p) : Ok (ider p) := ok_of_rl (rl_der (rl_self h))
theorem ok_ineg {p : List Int} (h : Ok p) : Ok (ineg p) := ok_of_rl (rl_neg (rl_self h))
theorem sz_ineg {S : Nat} {p : List Int} (h : Sz S p) : Sz S (ineg p) := fun c hc => by
  unfold ineg at hc
  obtain ⟨x, hx, rfl⟩ := List.mem_map.mp hc
  rw [Int.natAbs_neg]
  exact h x hx
theorem ineg_len (p : List Int) : (ineg p).length = p.length := by simp [ineg]
/-- every element of a chain stays below the bound -/
theorem chain_size : ∀ (n s B : Nat) (p q : List Int), Ok p → Ok q → q.length ≤ p.length → Sz s p → Sz s q → (s + 1) * gf p.length q.length ≤ B → ∀ x ∈ ichainL n p q, Sz B x ∧ x.length ≤ p.length := by
  intro n
  induction n with
  | zero => intro s B p q _ _ _ _ _ _ x hx; simp [ichainL] at hx
  | succ n ih =>
    intro s B p q hp hq hl sp sq hB x hx
    have b1 : s ≤ B := by
      have := Nat.mul_le_mul_left (s + 1) (gf_pos p.length q.length)
      omega
    rw [ichainL] at hx
    by_cases z : q = []
    · rw [if_pos z] at hx
      obtain rfl := List.mem_singleton.mp hx
      exact ⟨sp.mono b1, Nat.le_refl _⟩
    · rw [if_neg z] at hx
      rcases List.mem_cons.mp hx with rfl | hx
      · exact ⟨sp.mono b1, Nat.le_refl _⟩
      · have lq := hq.resolve_left z
        obtain ⟨_, f2, f3⟩ := rem_facts sp hp sq lq
        have f1 := rem_size sp hp sq lq hl
        have up : s ≤ (p.length - q.length + 2) * (s + 1) - 1 := by
          have : 1 * (s + 1) ≤ (p.length - q.length + 2) * (s + 1) := Nat.mul_le_mul_right _ (by omega)
          omega
        have p1 : 1 ≤ (p.length - q.length + 2) * (s + 1) := Nat.mul_pos (by omega) (by omega)
        obtain ⟨r1, r2⟩ := ih ((p.length - q.length + 2) * (s + 1) - 1) B q (ineg (irem p q)) hq (ok_ineg f3) (by rw [ineg_len]; omega) (sq.mono up) (sz_ineg f1) (by
          rw [Nat.sub_add_cancel p1, ineg_len]
          have := Nat.mul_le_mul_left (s + 1) (gf_step hl f2)
          have e : (p.length - q.length + 2) * (s + 1) * gf q.length (irem p q).length = (s + 1) * ((p.length - q.length + 2) * gf q.length (irem p q).length) := by
            rw [Nat.mul_comm (p.length - q.length + 2) (s + 1), Nat.mul_assoc]
          omega) x hx
        exact ⟨r1, by omega⟩
end RcJ

/-! ## RcK -/
/-! Fractions as the program holds them; a polynomial's whole multiple. -/
namespace RcK
open Kqg1 RcA RcB RcC RcD RcE RcF RcG RcH RcI RcJ

theorem cast_ne {d : Int} (h : 0 < d) : (d : Rat) ≠ 0 := by
  have : (0 : Rat) < (d : Rat) := Rat.intCast_pos.mpr h
  grind
/-- numerator and denominator of n / d -/
theorem frac_num (n : Int) {d : Int} (hd : 0 < d) : ((n : Rat) / (d : Rat)).num = n.fdiv (Int.gcd n d) ∧ (((n : Rat) / (d : Rat)).den : Int) = d.fdiv (Int.gcd n d) := by
  obtain ⟨e, rfl⟩ := Int.eq_ofNat_of_zero_le (Int.le_of_lt hd)
  have h0 : e ≠ 0 := by
    intro z
    rw [z] at hd
    exact absurd hd (by decide)
  have g0 : (0 : Int) ≤ (Int.gcd n (e : Int) : Int) := Int.natCast_nonneg _
  have e1 : (n : Rat) / (((e : Nat) : Int) : Rat) = mkRat n e := by rw [Rat.mkRat_eq_div]; rfl
  rw [e1, Rat.num_mkRat, Rat.den_mkRat, if_neg h0, if_neg h0, Int.fdiv_eq_ediv_of_nonneg _ g0, Int.fdiv_eq_ediv_of_nonneg _ g0]
  have eg : Int.gcd n (e : Int) = e.gcd n.natAbs := by
    show Nat.gcd n.natAbs (e : Int).natAbs = _
    rw [Int.natAbs_natCast, Nat.gcd_comm]
  rw [eg]
  exact ⟨rfl, rfl⟩
theorem gcd_ne {n d : Int} (hd : 0 < d) : ((Int.gcd n d : Nat) : Int) ≠ 0 := by
  intro z
  have : Int.gcd n d = 0 := by omega
  have := Int.gcd_eq_zero_iff.mp this
  omega
/-- the common denominator, as the program reckons it -/
def cden (q : List Rat) : Nat := q.foldl (fun c x => c / Nat.gcd c x.den * x.den) 1
theorem cden_fold : ∀ (q : List Rat) (c : Nat), 0 < c → 0 < q.foldl (fun c x => c / Nat.gcd c x.den * x.den) c ∧ c ∣ q.foldl (fun c x => c / Nat.gcd c x.den * x.den) c ∧ (∀ x ∈ q, x.den ∣ q.foldl (fun c x => c / Nat.gcd c x.den * x.den) c)
  | [], c, h => ⟨h, Nat.dvd_refl c, fun x hx => by simp at hx⟩
  | y :: q, c, h => by
    have e : c / Nat.gcd c y.den * y.den = Nat.lcm c y.den := by
      unfold Nat.lcm
      rw [Nat.div_mul_right_comm (Nat.gcd_dvd_left _ _)]
    have l0 : 0 < Nat.lcm c y.den := Nat.lcm_pos h y.den_pos
    obtain ⟨h1, h2, h3⟩ := cden_fold q (Nat.lcm c y.den) l0
    rw [List.foldl_cons, e]
    refine ⟨h1, Nat.dvd_trans (Nat.dvd_lcm_left _ _) h2, fun x hx => ?_⟩
    rcases List.mem_cons.mp hx with rfl | hx
    · exact Nat.dvd_trans (Nat.dvd_lcm_right _ _) h2
    · exact h3 x hx
theorem cden_pos (q : List Rat) : 0 < cden q := (cden_fold q 1 (by decide)).1
theorem cden_dvd (q : List Rat) {x : Rat} (h : x ∈ q) : x.den ∣ cden q := (cden_fold q 1 (by decide)).2.2 x h
/-- the whole multiple -/
def wm (q : List Rat) : List Int := q.map fun x => x.num * ((cden q / x.den : Nat) : Int)
theorem rat_mul_den (x : Rat) : x * (x.den : Rat) = (x.num : Rat) := by
  have h3 : x = (x.num : Rat) / (x.den : Rat) := by rw [← Rat.mkRat_eq_div, Rat.mkRat_self]
  have h4 : (x.den : Rat) ≠ 0 := by
    have : (0 : Rat) < (x.den : Rat) := Rat.natCast_pos.mpr x.den_pos
    grind
  have h5 := Rat.div_mul_cancel (a := (x.num : Rat)) h4
  rw [← h3] at h5
  exact h5
theorem rl_wm {q : List Rat} (h : Tr q) : Rl ((cden q : Nat) : Rat) (wm q) q := by
  have hp : (0 : Rat) < ((cden q : Nat) : Rat) := Rat.natCast_pos.mpr (cden_pos q)
  refine ⟨by grind, h, ?_⟩
  unfold wm toR
  rw [List.map_map]
  refine List.map_congr_left fun x hx => ?_
  simp only [Function.comp]
  obtain ⟨k, hk⟩ := cden_dvd q hx
  have e : cden q / x.den = k := by rw [hk]; exact Nat.mul_div_cancel_left k x.den_pos
  rw [e, cast_mul, cast_nat, ← rat_mul_den x, hk]
  have : ((x.den * k : Nat) : Rat) = (x.den : Rat) * (k : Rat) := by grind
  rw [this]
  grind
theorem wm_len (q : List Rat) : (wm q).length = q.length := by simp [wm]
theorem ok_wm {q : List Rat} (h : Tr q) : Ok (wm q) := ok_of_rl (rl_wm h)
/-- small enough to be stored -/
def Small (q : List Rat) : Prop := Tr q ∧ q.length ≤ 9 ∧ ∀ x ∈ q, x.num.natAbs ≤ 10 ^ 30 ∧ x.den ≤ 10 ^ 30
theorem cden_lt (M : Nat) : ∀ (q : List Rat) (c : Nat), (∀ x ∈ q, x.den ≤ M) → 0 < c → q.foldl (fun c x => c / Nat.gcd c x.den * x.den) c ≤ c * M ^ q.length
  | [], c, _, _ => by simp
  | y :: q, c, h, h0 => by
    rw [List.foldl_cons]
    have e : c / Nat.gcd c y.den * y.den ≤ c * M := Nat.mul_le_mul (Nat.div_le_self _ _) (h y (by simp))
    have e0 : 0 < c / Nat.gcd c y.den * y.den := Nat.mul_pos (Nat.div_pos (Nat.le_of_dvd h0 (Nat.gcd_dvd_left _ _)) (Nat.gcd_pos_of_pos_left _ h0)) y.den_pos
    refine Nat.le_trans (cden_lt M q _ (fun x hx => h x (by simp [hx])) e0) ?_
    rw [List.length_cons, Nat.pow_succ, Nat.mul_comm (M ^ q.length), ← Nat.mul_assoc]
    exact Nat.mul_le_mul_right _ e
theorem pow30 : (10 : Nat) ^ 30 < 2 ^ 100 := by decide
theorem cden_small' {q : List Rat} (hl : q.length ≤ 9) (h : ∀ x ∈ q, x.den ≤ 10 ^ 30) : cden q < 2 ^ 900 := by
  have h1 := cden_lt (10 ^ 30) q 1 h (by decide)
  have h2 : (10 ^ 30) ^ q.length ≤ (10 ^ 30) ^ 9 := Nat.pow_le_pow_right (by decide) hl
  have h3 : (10 ^ 30) ^ 9 < (2 ^ 100) ^ 9 := Nat.pow_lt_pow_left pow30 (by decide)
  rw [← Nat.pow_mul 2 100 9] at h3
  rw [Nat.one_mul] at h1
  exact Nat.lt_of_le_of_lt (Nat.le_trans h1 h2) h3
theorem cden_small {q : List Rat} (h : Small q) : cden q < 2 ^ 900 := cden_small' h.2.1 fun x hx => (h.2.2 x hx).2
theorem cden_snoc (q : List Rat) (x : Rat) : cden (q ++ [x]) = cden q / Nat.gcd (cden q) x.den * x.den := by
  unfold cden
  rw [List.foldl_append]
  rfl
theorem sz_wm {q : List Rat} (h : Small q) : Sz 1000 (wm q) := by
  intro c hc
  unfold wm at hc
  obtain ⟨x, hx, rfl⟩ := List.mem_map.mp hc
  rw [Int.natAbs_mul, show (1000 : Nat) = 100 + 900 from rfl, Nat.pow_add]
  refine Nat.mul_lt_mul'' (Nat.lt_of_le_of_lt (h.2.2 x hx).1 pow30) ?_
  rw [Int.natAbs_natCast]
  exact Nat.lt_of_le_of_lt (Nat.div_le_self _ _) (cden_small h)
/-- the value, as the program reckons it -/
theorem value_is {q : List Rat} (h : Tr q) (n : Int) {d : Int} (hd : 0 < d) : ((sval (wm q) n d : Int) : Rat) / ((((cden q : Nat) : Int) * d ^ (q.length - 1) : Int) : Rat) = evaluate q ((n : Rat) / (d : Rat)) := by
  have d0 := cast_ne hd
  have r := rl_wm h
  have c0 := r.ne
  by_cases z : q = []
  · subst z
    show ((0 : Int) : Rat) / _ = 0
    rw [Rat.div_def, show ((0 : Int) : Rat) = 0 from rfl, Rat.zero_mul]
  · have hs := sval_at d0 (wm q) n
    rw [sval_D, wm_len, r.ev] at hs
    have lp := List.length_pos_iff.mpr z
    obtain ⟨m, hm⟩ : ∃ m, q.length = m + 1 := ⟨q.length - 1, by omega⟩
    rw [hm] at hs ⊢
    rw [Nat.add_sub_cancel]
    have e1 : ((d ^ (m + 1) : Int) : Rat) = ((d ^ m : Int) : Rat) * (d : Rat) := by rw [Int.pow_succ, cast_mul]
    have e2 : ((((cden q : Nat) : Int) * d ^ m : Int) : Rat) = ((cden q : Nat) : Rat) * ((d ^ m : Int) : Rat) := by rw [cast_mul, cast_nat]
    have dm : ((d ^ m : Int) : Rat) ≠ 0 := cast_ne (pow_pos_int hd m)
    rw [e1] at hs
    rw [e2]
    have hne : ((cden q : Nat) : Rat) * ((d ^ m : Int) : Rat) ≠ 0 := by
      intro w
      rcases Rat.mul_eq_zero.mp w with w | w
      · exact c0 w
      · exact dm w
    have h2 : ((sval (wm q) n d : Int) : Rat) = evaluate q ((n : Rat) / (d : Rat)) * (((cden q : Nat) : Rat) * ((d ^ m : Int) : Rat)) := by
      have : (d : Rat) * (((sval (wm q) n d : Int) : Rat) - evaluate q ((n : Rat) / (d : Rat)) * (((cden q : Nat) : Rat) * ((d ^ m : Int) : Rat))) = 0 := by grind
      rcases Rat.mul_eq_zero.mp this with w | w
      · exact absurd w d0
      · grind
    rw [h2]
    exact Rat.mul_div_cancel hne
/-- the specification's polynomial from numerators and a common denominator -/
theorem set_is (cs : List Int) {d : Int} (hd : 0 < d) : (itrim cs).map (fun (c : Int) => (c : Rat) / (d : Rat)) = trim (cs.map fun (x : Int) => (x : Rat) / (d : Rat)) := by
  have d0 := cast_ne hd
  unfold itrim trim
  rw [← List.map_reverse, List.dropWhile_map, List.map_reverse]
  congr 2
  congr 1
  funext z
  simp only [Function.comp]
  by_cases h : z = 0
  · subst h
    have : ((0 : Int) : Rat) / (d : Rat) = 0 := by rw [Rat.div_def, show ((0 : Int) : Rat) = 0 from rfl, Rat.zero_mul]
    rw [this]
    rfl
  · have h2 : (z : Rat) / (d : Rat) ≠ 0 := by
      intro e
      have := Rat.div_mul_cancel (a := (z : Rat)) d0
      rw [e] at this
      exact h (cast_zero_iff.mp (by grind))
    rw [beq_eq_false_iff_ne.mpr h, beq_eq_false_iff_ne.mpr h2]
end RcK

/-! ## RcL -/
open Kqg1 RcA RcB RcC RcD RcE RcF RcG RcH
namespace RcL
/-! ### no root, no change -/
theorem nest_of {W : Rat → Nat} {x y : Rat} (hlt : x < y) (hbad : W x < W y) : ∃ a b : Nat → Rat, Nest a b ∧ (∀ n, W (a n) < W (b n)) ∧ ∀ n, x ≤ a n ∧ b n ≤ y := by
  have step : ∀ n, halve W x y (n + 1) = if W (halve W x y n).1 < W (((halve W x y n).1 + (halve W x y n).2) / 2) then ((halve W x y n).1, ((halve W x y n).1 + (halve W x y n).2) / 2) else (((halve W x y n).1 + (halve W x y n).2) / 2, (halve W x y n).2) := fun n => rfl
  have inv : ∀ n, (halve W x y n).1 < (halve W x y n).2 ∧ W (halve W x y n).1 < W (halve W x y n).2 ∧ x ≤ (halve W x y n).1 ∧ (halve W x y n).2 ≤ y := by
    intro n
    induction n with
    | zero => exact ⟨hlt, hbad, Rat.le_refl, Rat.le_refl⟩
    | succ n ih =>
      obtain ⟨i1, i2, i3, i4⟩ := ih
      rw [step]
      by_cases c : W (halve W x y n).1 < W (((halve W x y n).1 + (halve W x y n).2) / 2)
      · rw [if_pos c]
        exact ⟨by show (halve W x y n).1 < ((halve W x y n).1 + (halve W x y n).2) / 2; grind, c, i3, by show ((halve W x y n).1 + (halve W x y n).2) / 2 ≤ y; grind⟩
      · rw [if_neg c]
        exact ⟨by show ((halve W x y n).1 + (halve W x y n).2) / 2 < (halve W x y n).2; grind, by show W (((halve W x y n).1 + (halve W x y n).2) / 2) < W (halve W x y n).2; omega, by show x ≤ ((halve W x y n).1 + (halve W x y n).2) / 2; grind, i4⟩
  have wid : ∀ n, (halve W x y (n + 1)).2 - (halve W x y (n + 1)).1 = ((halve W x y n).2 - (halve W x y n).1) / 2 := by
    intro n
    rw [step]
    split <;> (dsimp only; grind)
  refine ⟨fun n => (halve W x y n).1, fun n => (halve W x y n).2, ⟨fun n => (inv n).1, fun n => ?_, fun n => ?_, fun e he => ?_⟩, fun n => (inv n).2.1, fun n => (inv n).2.2⟩
  · have := (inv n).1
    show (halve W x y n).1 ≤ (halve W x y (n + 1)).1
    rw [step]
    split <;> (dsimp only; grind)
  · have := (inv n).1
    show (halve W x y (n + 1)).2 ≤ (halve W x y n).2
    rw [step]
    split <;> (dsimp only; grind)
  · exact halves_small (w := fun n => (halve W x y n).2 - (halve W x y n).1) (fun n => by have := (inv n).1; grind) wid he
/-- far from 0 all the way -/
def Far (d : Rat) (f : List Rat) (t : Rat) : Prop := evaluate f t ≤ -d ∨ d ≤ evaluate f t
theorem sturm_same {f g : List Rat} {r : List (List Rat)} (h : Chain f g r) {x y d : Rat} (hxy : x ≤ y) (hd : 0 < d) (hf : ∀ t, x ≤ t → t ≤ y → Far d f t) : V (f :: g :: r) x = V (f :: g :: r) y := by
  have z0 : ∀ x : Rat, ¬ (0 : Rat) * x < 0 := fun x => by rw [Rat.zero_mul]; exact Rat.lt_irrefl
  have hm := sturm_mono h hxy
  refine Nat.le_antisymm (Nat.le_of_not_lt fun hbad => ?_) hm
  have hlt : x < y := Rat.lt_of_le_of_ne hxy fun z => by subst z; omega
  obtain ⟨a, b, I, hW, hin⟩ := nest_of (W := fun t => V (f :: g :: r) x - V (f :: g :: r) t) hlt (by show V (f :: g :: r) x - V (f :: g :: r) x < V (f :: g :: r) x - V (f :: g :: r) y; omega)
  rcases small_or I f with hs | ⟨s, hs, ha⟩
  · obtain ⟨N, hN⟩ := hs (d / 2) (half_pos hd)
    have h1 := hN N (Nat.le_refl _) (a N) (I.inL N)
    have h2 := hf (a N) (hin N).1 (by have := (hin N).2; have := I.lt N; grind)
    unfold Bd at h1
    unfold Far at h2
    grind
  · obtain ⟨c, K, hc⟩ := tail_const I (r.length + 1) (g :: r) f s (Nat.le_refl _) h.link hs ha
    obtain ⟨e, e0, N, hN⟩ := ha
    have val : ∀ x, In a b (K + N) x → V (f :: g :: r) x = c := by
      intro x hx
      have h1 := hc (K + N) (by omega) x hx
      have h2 := hN (K + N) (by omega) x hx
      have hg0 : evaluate f x ≠ 0 := by
        intro z
        rw [z] at h2
        grind
      show sc 0 (evaluate f x :: vals (g :: r) x) = _
      rw [sc, if_neg hg0, if_neg (z0 _), h1, Nat.zero_add]
    have := hW (K + N)
    rw [val _ (I.inL _), val _ (I.inR _)] at this
    exact absurd this (Nat.lt_irrefl _)
/-! ### Cauchy's bound -/
theorem cauchy {l A t : Rat} (hl : 0 < l) (hA : 0 ≤ A) (ht : A + 1 ≤ t ∨ t ≤ -(A + 1)) : ∀ p : List Rat, p ≠ [] → (∀ c ∈ p, Bd (A * l) c) → (leadingCoefficient p ≤ -l ∨ l ≤ leadingCoefficient p) → Far l p t
  | [], h, _, _ => absurd rfl h
  | [c], _, _, h => by
    have e : evaluate [c] t = c := by rw [ev_cons, ev_nil]; grind
    unfold Far
    rw [e]
    exact h
  | c :: b :: p, _, hc, h => by
    have h0 := cauchy hl hA ht (b :: p) (by simp) (fun x hx => hc x (by simp [List.mem_cons.mp hx])) (by rw [lead_cons c (by simp)] at h; exact h)
    have hb := hc c (by simp)
    unfold Bd at hb
    unfold Far at h0 ⊢
    rw [ev_cons]
    generalize evaluate (b :: p) t = e at h0
    have key : ∀ u v : Rat, A + 1 ≤ u → l ≤ v → A * l + l ≤ u * v := by
      intro u v hu hv
      have h1 := Rat.mul_le_mul_of_nonneg_right hu (show (0 : Rat) ≤ v by grind)
      have h2 := Rat.mul_le_mul_of_nonneg_left hv (show (0 : Rat) ≤ A + 1 by grind)
      grind
    rcases ht with ht | ht <;> rcases h0 with h0 | h0
    · left; have := key t (-e) ht (by grind); grind
    · right; have := key t e ht h0; grind
    · right; have := key (-t) (-e) (by grind) (by grind); grind
    · left; have := key (-t) e (by grind) h0; grind
/-- the greatest of some numbers, 0 if there is none above -/
theorem fold_max (m : List Rat) : ∀ a : Rat, a ≤ m.foldl (fun x y => if x < y then y else x) a ∧ (∀ x ∈ m, x ≤ m.foldl (fun x y => if x < y then y else x) a) ∧ (m.foldl (fun x y => if x < y then y else x) a = a ∨ m.foldl (fun x y => if x < y then y else x) a ∈ m) := by
  induction m with
  | nil => intro a; exact ⟨Rat.le_refl, fun x h => by simp at h, .inl rfl⟩
  | cons b m ih =>
    intro a
    rw [List.foldl_cons]
    obtain ⟨h1, h2, h3⟩ := ih (if a < b then b else a)
    refine ⟨?_, fun x hx => ?_, ?_⟩
    · refine Rat.le_trans ?_ h1
      split
      · rename_i h; exact Rat.le_of_lt h
      · exact Rat.le_refl
    · rcases List.mem_cons.mp hx with rfl | hx
      · refine Rat.le_trans ?_ h1
        split
        · exact Rat.le_refl
        · rename_i h; exact Rat.not_lt.mp h
      · exact h2 x hx
    · rcases h3 with h3 | h3
      · by_cases c : a < b
        · rw [if_pos c] at h3 ⊢; exact .inr (by rw [h3]; simp)
        · rw [if_neg c] at h3 ⊢; exact .inl h3
      · exact .inr (by simp [h3])
theorem abs_nn (x : Rat) : 0 ≤ absolute x := by unfold absolute; split <;> grind
theorem bd_abs {x M : Rat} : Bd M x ↔ absolute x ≤ M := by unfold absolute Bd; split <;> constructor <;> intro h <;> grind
def big (p : List Rat) : Rat := (p.map fun c => absolute (c / leadingCoefficient p)).foldl (fun x y => if x < y then y else x) 0
theorem big_nn (p : List Rat) : 0 ≤ big p := (fold_max _ 0).1
theorem ceil_spec (x : Rat) (h : 0 ≤ x) : x ≤ ((ceiling x : Nat) : Rat) ∧ ∀ m : Int, x ≤ (m : Rat) → ((ceiling x : Nat) : Int) ≤ m := by
  have dp : (0 : Int) < (x.den : Int) := by have := x.den_pos; omega
  have dr : (0 : Rat) < (x.den : Rat) := Rat.natCast_pos.mpr x.den_pos
  have xe : x * (x.den : Rat) = (x.num : Rat) := RcK.rat_mul_den x
  have nn : 0 ≤ x.num := Rat.num_nonneg.mpr h
  have hle : ∀ m : Int, x ≤ (m : Rat) ↔ x.num ≤ m * (x.den : Int) := by
    intro m
    have e : ((m * (x.den : Int) : Int) : Rat) = (m : Rat) * (x.den : Rat) := by rw [cast_mul]; rfl
    constructor
    · intro hm
      have := Rat.mul_le_mul_of_nonneg_right hm (Rat.le_of_lt dr)
      rw [xe, ← e] at this
      exact Rat.intCast_le_intCast.mp this
    · intro hm
      have := Rat.intCast_le_intCast (a := x.num) (b := m * (x.den : Int)) |>.mpr hm
      rw [e, ← xe] at this
      exact Rat.le_of_mul_le_mul_right this dr
  have q0 : 0 ≤ (x.num + (x.den : Int) - 1) / (x.den : Int) := Int.ediv_nonneg (by omega) (by omega)
  have ce : ((ceiling x : Nat) : Int) = (x.num + (x.den : Int) - 1) / (x.den : Int) := by
    unfold ceiling
    rw [Int.toNat_of_nonneg q0]
  have e1 := Int.mul_ediv_add_emod (x.num + (x.den : Int) - 1) (x.den : Int)
  have e2 := Int.emod_lt_of_pos (x.num + (x.den : Int) - 1) dp
  have e3 := Int.emod_nonneg (x.num + (x.den : Int) - 1) (b := (x.den : Int)) (by omega)
  refine ⟨?_, fun m hm => ?_⟩
  · refine (hle ((ceiling x : Nat) : Int)).mpr ?_
    rw [ce, Int.mul_comm]
    omega
  · rw [ce]
    have := (hle m).mp hm
    refine Int.le_of_lt_add_one (Int.ediv_lt_of_lt_mul dp ?_)
    rw [Int.add_mul]
    omega
theorem bound_is (p : List Rat) : ((rootBound p : Nat) : Rat) = ((ceiling (big p) : Nat) : Rat) + 1 := by
  unfold rootBound big
  rw [Rat.natCast_add]
  rfl
theorem abs_div (c l : Rat) (hl : l ≠ 0) : absolute (c / l) * absolute l = absolute c := by
  have e : c / l * l = c := Rat.div_mul_cancel hl
  have m : ∀ x y : Rat, absolute x * absolute y = absolute (x * y) := by
    intro x y
    unfold absolute
    by_cases hx : x < 0 <;> by_cases hy : y < 0
    · have := Rat.mul_pos (a := -x) (b := -y) (by grind) (by grind)
      rw [if_pos hx, if_pos hy, if_neg (by grind)]; grind
    · have := Rat.mul_nonneg (a := -x) (b := y) (by grind) (by grind)
      rw [if_pos hx, if_neg hy]
      split <;> grind
    · have := Rat.mul_nonneg (a := x) (b := -y) (by grind) (by grind)
      rw [if_neg hx, if_pos hy]
      split <;> grind
    · have := Rat.mul_nonneg (a := x) (b := y) (by grind) (by grind)
      rw [if_neg hx, if_neg hy, if_neg (by grind)]
  rw [m, e]
/-- beyond the bound a polynomial is not smaller than its last coefficient -/
theorem far_out {p : List Rat} (hp : Good p) {t : Rat} (ht : ((rootBound p : Nat) : Rat) ≤ t ∨ t ≤ -((rootBound p : Nat) : Rat)) : Far (absolute (leadingCoefficient p)) p t := by
  obtain ⟨hp, hn⟩ := hp
  have ln : leadingCoefficient p ≠ 0 := ((tr_iff p).mp hp).resolve_left hn
  have lp : 0 < absolute (leadingCoefficient p) := by unfold absolute; split <;> grind
  have hb := (ceil_spec (big p) (big_nn p)).1
  rw [bound_is] at ht
  refine cauchy (A := big p) lp (big_nn p) (by rcases ht with h | h; left; grind; right; grind) p hn (fun c hc => ?_) (by unfold absolute; split <;> grind)
  rw [bd_abs, ← abs_div c _ ln]
  refine Rat.mul_le_mul_of_nonneg_right ?_ (Rat.le_of_lt lp)
  exact (fold_max _ 0).2.1 _ (List.mem_map.mpr ⟨c, hc, rfl⟩)
theorem div_pos {a b : Rat} (ha : 0 < a) (hb : 0 < b) : 0 < a / b := by
  have e : a / b * b = a := Rat.div_mul_cancel (by grind)
  refine Rat.not_le.mp fun h => ?_
  have := Rat.mul_nonneg (a := -(a / b)) (b := b) (by grind) (by grind)
  grind
/-- .. and so a factor of it stays away from 0 on every stretch beyond the bound -/
theorem factor_far {p d : List Rat} (hp : Good p) (hd : Dv d p) {x y : Rat} (hxy : ((rootBound p : Nat) : Rat) ≤ x ∨ y ≤ -((rootBound p : Nat) : Rat)) : ∃ e, 0 < e ∧ ∀ t, x ≤ t → t ≤ y → Far e d t := by
  obtain ⟨a, ha⟩ := hd
  have ln : leadingCoefficient p ≠ 0 := ((tr_iff p).mp hp.1).resolve_left hp.2
  have lp : 0 < absolute (leadingCoefficient p) := by unfold absolute; split <;> grind
  obtain ⟨R1, r1, b1⟩ := bd_self x
  obtain ⟨R2, r2, b2⟩ := bd_self y
  obtain ⟨M, m0, hM⟩ := bounds (R1 + R2) (by grind) a
  have mp : 0 < M + 1 := by grind
  refine ⟨absolute (leadingCoefficient p) / (M + 1), div_pos lp mp, fun t h1 h2 => ?_⟩
  have tb : Bd (R1 + R2) t := by unfold Bd at *; grind
  have ab := (hM t t tb tb).1
  have f := far_out hp (t := t) (by rcases hxy with h | h; left; exact Rat.le_trans h h1; right; exact Rat.le_trans h2 h)
  generalize absolute (leadingCoefficient p) = l at lp f
  have el : l / (M + 1) * (M + 1) = l := Rat.div_mul_cancel (by grind)
  unfold Far at f ⊢
  rw [ha] at f
  refine Classical.byContradiction fun hc => ?_
  have hc : -(l / (M + 1)) < evaluate d t ∧ evaluate d t < l / (M + 1) := ⟨Rat.not_le.mp fun h => hc (.inl h), Rat.not_le.mp fun h => hc (.inr h)⟩
  have e0 : 0 < l / (M + 1) := div_pos lp mp
  have pb : Bd (l / (M + 1) * M) (evaluate d t * evaluate a t) := Bd.mul ⟨Rat.le_of_lt hc.1, Rat.le_of_lt hc.2⟩ ab
  have s1 : l / (M + 1) * M < l := by grind
  unfold Bd at pb
  grind
end RcL

/-! ## RcM -/
open RcA
namespace RcM
/-! ### determinants, by the first column -/
theorem sum_add (f g : Nat → Rat) (a b : Rat) (n : Nat) : sumUp (fun i => a * f i + b * g i) n = a * sumUp f n + b * sumUp g n := by
  induction n with
  | zero => show (0 : Rat) = a * 0 + b * 0; grind
  | succ n ih => rw [sumUp, sumUp, sumUp, ih]; grind
abbrev Mat := Nat → Nat → Rat
def up (i r : Nat) : Nat := if r < i then r else r + 1
theorem up_ne (i r : Nat) : up i r ≠ i := by unfold up; split <;> omega
theorem up_lt {i r n : Nat} (h : r < n) : up i r < n + 1 := by unfold up; split <;> omega
def minor (i : Nat) (f : Mat) : Mat := fun r c => f (up i r) (c + 1)
def sg (i : Nat) : Rat := if i % 2 = 0 then 1 else -1
theorem sg_succ (i : Nat) : sg (i + 1) = -sg i := by
  unfold sg
  by_cases h : i % 2 = 0
  · rw [if_pos h, if_neg (by omega)]
  · rw [if_neg h, if_pos (by omega)]; rfl
def det : Nat → Mat → Rat
  | 0, _ => 1
  | n + 1, f => sumUp (fun i => sg i * f i 0 * det n (minor i f)) (n + 1)
theorem det_zero (f : Mat) : det 0 f = 1 := rfl
theorem det_succ (n : Nat) (f : Mat) : det (n + 1) f = sumUp (fun i => sg i * f i 0 * det n (minor i f)) (n + 1) := rfl
theorem det_congr : ∀ (n : Nat) (f g : Mat), (∀ r c, r < n → c < n → f r c = g r c) → det n f = det n g := by
  intro n
  induction n with
  | zero => intro f g _; rfl
  | succ n ih =>
    intro f g h
    rw [det_succ, det_succ]
    refine sum_congr fun i hi => ?_
    rw [h i 0 hi (by omega), ih (minor i f) (minor i g) fun r c hr hc => h _ _ (up_lt hr) (by omega)]
theorem det_int : ∀ (n : Nat) (f : Mat), (∀ r c, ∃ z : Int, f r c = (z : Rat)) → ∃ z : Int, det n f = (z : Rat) := by
  intro n
  induction n with
  | zero => intro f _; exact ⟨1, rfl⟩
  | succ n ih =>
    intro f h
    rw [det_succ]
    generalize n + 1 = m
    induction m with
    | zero => exact ⟨0, rfl⟩
    | succ m im =>
      obtain ⟨a, ha⟩ := im
      obtain ⟨b, hb⟩ := h m 0
      obtain ⟨c, hc⟩ := ih (minor m f) fun r c => h _ _
      rw [sumUp, ha, hb, hc]
      unfold sg
      split
      · exact ⟨a + b * c, by grind⟩
      · exact ⟨a - b * c, by grind⟩
/-- one row put in -/
def put (f : Mat) (k : Nat) (v : Nat → Rat) : Mat := fun r c => if r = k then v c else f r c
theorem put_same (f : Mat) (k : Nat) (v : Nat → Rat) (c : Nat) : put f k v k c = v c := if_pos rfl
theorem put_ne {f : Mat} {k r : Nat} {v : Nat → Rat} (h : r ≠ k) (c : Nat) : put f k v r c = f r c := if_neg h
theorem minor_self (f : Mat) (k : Nat) (v : Nat → Rat) : minor k (put f k v) = minor k f := by
  funext r c
  exact put_ne (up_ne k r) _
def dn (i k : Nat) : Nat := if k < i then k else k - 1
theorem up_dn {i k : Nat} (h : k ≠ i) (r : Nat) : up i r = k ↔ r = dn i k := by unfold up dn; split <;> split <;> omega
theorem minor_ne {f : Mat} {i k : Nat} {v : Nat → Rat} (h : i ≠ k) : minor i (put f k v) = put (minor i f) (dn i k) fun c => v (c + 1) := by
  funext r c
  unfold minor put
  by_cases e : up i r = k
  · rw [if_pos e, if_pos ((up_dn h.symm r).mp e)]
  · rw [if_neg e, if_neg fun z => e ((up_dn h.symm r).mpr z)]
theorem dn_lt {i k n : Nat} (h : k ≠ i) (hi : i < n + 1) (hk : k < n + 1) : dn i k < n := by unfold dn; split <;> omega
theorem det_lin : ∀ (n : Nat) (f : Mat) (k : Nat) (u v : Nat → Rat) (a b : Rat), k < n → det n (put f k fun c => a * u c + b * v c) = a * det n (put f k u) + b * det n (put f k v) := by
  intro n
  induction n with
  | zero => intro f k u v a b h; omega
  | succ n ih =>
    intro f k u v a b hk
    rw [det_succ, det_succ, det_succ, ← sum_add]
    refine sum_congr fun i hi => ?_
    by_cases e : i = k
    · subst e
      rw [minor_self, minor_self, minor_self, put_same, put_same, put_same]
      grind
    · rw [minor_ne e, minor_ne e, minor_ne e, put_ne e, put_ne e, put_ne e, ih _ _ (fun c => u (c + 1)) (fun c => v (c + 1)) a b (dn_lt (Ne.symm e) hi hk)]
      grind
theorem sum_two (f : Nat → Rat) (k : Nat) : ∀ n, k + 1 < n → (∀ i, i < n → i ≠ k → i ≠ k + 1 → f i = 0) → sumUp f n = f k + f (k + 1) := by
  intro n
  induction n with
  | zero => intro h; omega
  | succ n ih =>
    intro h hz
    rw [sumUp]
    by_cases e : k + 1 = n
    · subst e
      have : sumUp f (k + 1) = f k := by
        rw [sumUp, sum_zero f k fun i hi => hz i (by omega) (by omega) (by omega)]
        grind
      rw [this]
    · rw [ih (by omega) fun i hi h1 h2 => hz i (by omega) h1 h2, hz n (by omega) (by omega) (by omega)]
      grind
theorem det_adj : ∀ (n : Nat) (f : Mat) (k : Nat), k + 1 < n → (∀ c, f k c = f (k + 1) c) → det n f = 0 := by
  intro n
  induction n with
  | zero => intro f k h; omega
  | succ n ih =>
    intro f k hk h
    rw [det_succ, sum_two _ k (n + 1) hk]
    · have e : minor k f = minor (k + 1) f := by
        funext r c
        unfold minor up
        by_cases h1 : r < k
        · rw [if_pos h1, if_pos (by omega)]
        · by_cases h2 : r = k
          · subst h2
            rw [if_neg h1, if_pos (by omega), h]
          · rw [if_neg h1, if_neg (by omega)]
      rw [e, sg_succ, h]
      grind
    · intro i hi h1 h2
      have : det n (minor i f) = 0 := by
        by_cases c : i < k
        · refine ih _ (k - 1) (by omega) fun c => ?_
          unfold minor up
          rw [if_neg (by omega), if_neg (by omega), show k - 1 + 1 = k by omega]
          exact h _
        · refine ih _ k (by omega) fun c => ?_
          unfold minor up
          rw [if_pos (by omega), if_pos (by omega)]
          exact h _
      rw [this]
      grind
theorem put_put (f : Mat) (k : Nat) (u v : Nat → Rat) : put (put f k u) k v = put f k v := by
  funext r c
  unfold put
  split <;> rfl
theorem put_comm {f : Mat} {k j : Nat} (h : k ≠ j) (u v : Nat → Rat) : put (put f k u) j v = put (put f j v) k u := by
  funext r c
  unfold put
  by_cases a : r = j
  · rw [if_pos a, if_neg (by omega), if_pos a]
  · rw [if_neg a, if_neg a]
theorem put_self (f : Mat) (k : Nat) : put f k (f k) = f := by
  funext r c
  unfold put
  split
  · rename_i h; rw [h]
  · rfl
/-- two neighbours swapped -/
theorem det_swap {n k : Nat} (f : Mat) (hk : k + 1 < n) : det n (put (put f k (f (k + 1))) (k + 1) (f k)) = -det n f := by
  have hA : ∀ u v : Nat → Rat, det n (put (put f k u) (k + 1) v) + det n (put (put f k v) (k + 1) u) = 0 := by
    intro u v
    have z : ∀ w : Nat → Rat, det n (put (put f k w) (k + 1) w) = 0 := fun w => det_adj n _ k hk fun c => by
      rw [put_same, put_ne (by omega), put_same]
    have h := z fun c => 1 * u c + 1 * v c
    have l1 : ∀ w, det n (put (put f k fun c => 1 * u c + 1 * v c) (k + 1) w) = 1 * det n (put (put f k u) (k + 1) w) + 1 * det n (put (put f k v) (k + 1) w) := fun w => by
      rw [put_comm (by omega), det_lin n _ _ _ _ _ _ (by omega), put_comm (k := k + 1) (by omega), put_comm (k := k + 1) (by omega)]
    rw [det_lin n _ _ _ _ _ _ hk, l1, l1, z u, z v] at h
    grind
  have h := hA (f (k + 1)) (f k)
  have e : put (put f k (f k)) (k + 1) (f (k + 1)) = f := by rw [put_self, put_self]
  rw [e] at h
  grind
theorem det_first : ∀ (j n : Nat) (f : Mat), j + 1 < n → (∀ c, f (j + 1) c = f 0 c) → det n f = 0 := by
  intro j
  induction j with
  | zero => intro n f h e; exact det_adj n f 0 h fun c => (e c).symm
  | succ j ih =>
    intro n f h e
    have h1 := det_swap f (k := j + 1) h
    have h2 := ih n (put (put f (j + 1) (f (j + 1 + 1))) (j + 1 + 1) (f (j + 1))) (by omega) fun c => by
      rw [put_ne (by omega), put_same, put_ne (by omega), put_ne (by omega), e]
    grind
theorem det_row {n j : Nat} (f : Mat) (t : Rat) (hj : j + 1 < n) : det n (put f (j + 1) fun c => f (j + 1) c - t * f 0 c) = det n f := by
  have e : (fun c => f (j + 1) c - t * f 0 c) = fun c => 1 * f (j + 1) c + (-t) * f 0 c := by funext c; grind
  rw [e, det_lin n _ _ _ _ _ _ hj, put_self, det_first j n (put f (j + 1) (f 0)) hj fun c => by rw [put_same, put_ne (by omega)]]
  grind
/-- one step of the elimination -/
def elim (f : Mat) : Mat := fun r c => f (r + 1) (c + 1) - f (r + 1) 0 * (f 0 (c + 1) / f 0 0)
theorem det_elim (n : Nat) (f : Mat) (h : f 0 0 ≠ 0) : det (n + 1) f = f 0 0 * det n (elim f) := by
  let F : Nat → Mat := fun j r c => if 1 ≤ r ∧ r ≤ j then f r c - f r 0 / f 0 0 * f 0 c else f r c
  have F0 : F 0 = f := by funext r c; exact if_neg (by omega)
  have step : ∀ j, j + 1 < n + 1 → det (n + 1) (F (j + 1)) = det (n + 1) (F j) := by
    intro j hj
    rw [← det_row (F j) (f (j + 1) 0 / f 0 0) hj]
    congr 1
    funext r c
    show (if 1 ≤ r ∧ r ≤ j + 1 then _ else _) = if r = j + 1 then (if 1 ≤ j + 1 ∧ j + 1 ≤ j then _ else _) - _ * (if 1 ≤ 0 ∧ 0 ≤ j then _ else _) else (if 1 ≤ r ∧ r ≤ j then _ else _)
    by_cases e : r = j + 1
    · subst e
      rw [if_pos (by omega), if_pos rfl, if_neg (by omega), if_neg (by omega)]
    · rw [if_neg e]
      by_cases e2 : 1 ≤ r ∧ r ≤ j
      · rw [if_pos (by omega), if_pos e2]
      · rw [if_neg (by omega), if_neg e2]
  have all : ∀ j, j ≤ n → det (n + 1) (F j) = det (n + 1) f := by
    intro j
    induction j with
    | zero => intro _; rw [F0]
    | succ j ih => intro hj; rw [step j (by omega), ih (by omega)]
  rw [← all n (Nat.le_refl _), det_succ, sum_front, sum_zero]
  · have e0 : F n 0 0 = f 0 0 := if_neg (by omega)
    rw [e0, det_congr n (minor 0 (F n)) (elim f)]
    · show (1 : Rat) * f 0 0 * det n (elim f) + 0 = _
      grind
    · intro r c hr hc
      show (if 1 ≤ up 0 r ∧ up 0 r ≤ n then _ else _) = _
      have : up 0 r = r + 1 := if_neg (by omega)
      rw [this, if_pos (by omega)]
      show _ = f (r + 1) (c + 1) - f (r + 1) 0 * (f 0 (c + 1) / f 0 0)
      rw [Rat.div_def, Rat.div_def]
      grind
  · intro i hi
    have : F n (i + 1) 0 = 0 := by
      show (if 1 ≤ i + 1 ∧ i + 1 ≤ n then _ else _) = _
      rw [if_pos (by omega), Rat.div_mul_cancel h]
      grind
    rw [this]
    grind
/-- so many steps -/
def el : Nat → Mat → Mat
  | 0, f => f
  | k + 1, f => el k (elim f)
theorem el_last : ∀ (k : Nat) (f : Mat), el (k + 1) f = elim (el k f)
  | 0, _ => rfl
  | k + 1, f => el_last k (elim f)
def pp : Nat → Mat → Rat
  | 0, _ => 1
  | k + 1, f => f 0 0 * pp k (elim f)
theorem pp_last : ∀ (k : Nat) (f : Mat), pp (k + 1) f = pp k f * el k f 0 0
  | 0, f => by show f 0 0 * 1 = 1 * f 0 0; grind
  | k + 1, f => by
    show f 0 0 * pp (k + 1) (elim f) = f 0 0 * pp k (elim f) * el k (elim f) 0 0
    rw [pp_last k (elim f)]
    grind
def sub (k r c : Nat) (f : Mat) : Mat := fun a b => f (if a < k then a else k + r) (if b < k then b else k + c)
theorem minor_is : ∀ (k r c : Nat) (f : Mat), pp k f ≠ 0 → det (k + 1) (sub k r c f) = pp k f * el k f r c := by
  intro k
  induction k with
  | zero =>
    intro r c f _
    rw [det_succ]
    show (0 : Rat) + 1 * f (0 + r) (0 + c) * 1 = 1 * f r c
    rw [Nat.zero_add, Nat.zero_add]
    grind
  | succ k ih =>
    intro r c f h
    have h0 : f 0 0 ≠ 0 := fun z => h (by show f 0 0 * _ = 0; rw [z]; grind)
    have h1 : pp k (elim f) ≠ 0 := fun z => h (by show f 0 0 * pp k (elim f) = 0; rw [z]; grind)
    have z : ∀ x, (if 0 < k + 1 then 0 else x) = 0 := fun x => if_pos (by omega)
    have s00 : sub (k + 1) r c f 0 0 = f 0 0 := by
      unfold sub
      rw [z, z]
    have e : elim (sub (k + 1) r c f) = sub k r c (elim f) := by
      have key : ∀ a x, (if a + 1 < k + 1 then a + 1 else k + 1 + x) = (if a < k then a else k + x) + 1 := by
        intro a x
        by_cases ha : a < k
        · rw [if_pos ha, if_pos (by omega)]
        · rw [if_neg ha, if_neg (by omega)]; omega
      funext a b
      show f (if a + 1 < k + 1 then a + 1 else k + 1 + r) (if b + 1 < k + 1 then b + 1 else k + 1 + c) - f (if a + 1 < k + 1 then a + 1 else k + 1 + r) (if 0 < k + 1 then 0 else k + 1 + c) * (f (if 0 < k + 1 then 0 else k + 1 + r) (if b + 1 < k + 1 then b + 1 else k + 1 + c) / f (if 0 < k + 1 then 0 else k + 1 + r) (if 0 < k + 1 then 0 else k + 1 + c)) = _
      rw [key, key, z, z]
      rfl
    rw [det_elim (k + 1) _ (by rw [s00]; exact h0), s00, e, ih r c (elim f) h1]
    show f 0 0 * (pp k (elim f) * el k (elim f) r c) = f 0 0 * pp k (elim f) * el k (elim f) r c
    grind
/-- the whole numbers of Bareiss -/
theorem bareiss {k : Nat} {f : Mat} (hi : ∀ r c, ∃ z : Int, f r c = (z : Rat)) (hp : pp k f ≠ 0) (r c : Nat) : ∃ z : Int, pp k f * el k f r c = (z : Rat) := by
  rw [← minor_is k r c f hp]
  exact det_int _ _ fun a b => hi _ _
/-! ### rows and columns put together -/
def tr (f : Mat) : Mat := fun r c => f c r
theorem tr_elim (f : Mat) : elim (tr f) = tr (elim f) := by
  funext r c
  show f (c + 1) (r + 1) - f 0 (r + 1) * (f (c + 1) 0 / f 0 0) = f (c + 1) (r + 1) - f (c + 1) 0 * (f 0 (r + 1) / f 0 0)
  rw [Rat.div_def, Rat.div_def]
  grind
theorem tr_el : ∀ (k : Nat) (f : Mat), el k (tr f) = tr (el k f)
  | 0, _ => rfl
  | k + 1, f => by
    show el k (elim (tr f)) = tr (el k (elim f))
    rw [tr_elim, tr_el k]
theorem tr_pp : ∀ (k : Nat) (f : Mat), pp k (tr f) = pp k f
  | 0, _ => rfl
  | k + 1, f => by
    show f 0 0 * pp k (elim (tr f)) = f 0 0 * pp k (elim f)
    rw [tr_elim, tr_pp k]
/-- rows from k on, each made of two -/
def rows (k : Nat) (al be : Nat → Rat) (s t : Nat → Nat) (f : Mat) : Mat := fun a b => if a < k then f a b else al (a - k) * f (k + s (a - k)) b + be (a - k) * f (k + t (a - k)) b
theorem rows_elim (k : Nat) (al be : Nat → Rat) (s t : Nat → Nat) (f : Mat) : elim (rows (k + 1) al be s t f) = rows k al be s t (elim f) := by
  funext a b
  have h0 : ∀ b, rows (k + 1) al be s t f 0 b = f 0 b := fun b => if_pos (by omega)
  unfold elim
  rw [h0, h0]
  by_cases h : a < k
  · have e : ∀ b, rows (k + 1) al be s t f (a + 1) b = f (a + 1) b := fun b => if_pos (by omega)
    rw [e, e]
    show _ = if a < k then _ else _
    rw [if_pos h]
  · have e : ∀ b, rows (k + 1) al be s t f (a + 1) b = al (a - k) * f (k + s (a - k) + 1) b + be (a - k) * f (k + t (a - k) + 1) b := by
      intro b
      show (if a + 1 < k + 1 then _ else _) = _
      rw [if_neg (by omega), show a + 1 - (k + 1) = a - k by omega, show k + 1 + s (a - k) = k + s (a - k) + 1 by omega, show k + 1 + t (a - k) = k + t (a - k) + 1 by omega]
    rw [e, e]
    show _ = if a < k then _ else _
    rw [if_neg h]
    show _ = al (a - k) * (f (k + s (a - k) + 1) (b + 1) - f (k + s (a - k) + 1) 0 * (f 0 (b + 1) / f 0 0)) + be (a - k) * (f (k + t (a - k) + 1) (b + 1) - f (k + t (a - k) + 1) 0 * (f 0 (b + 1) / f 0 0))
    generalize f 0 (b + 1) / f 0 0 = q
    grind
theorem rows_el : ∀ (k : Nat) (al be : Nat → Rat) (s t : Nat → Nat) (f : Mat), pp k (rows k al be s t f) = pp k f ∧ ∀ r c, el k (rows k al be s t f) r c = al r * el k f (s r) c + be r * el k f (t r) c
  | 0, al, be, s, t, f => ⟨rfl, fun r c => by
      show rows 0 al be s t f r c = al r * f (s r) c + be r * f (t r) c
      unfold rows
      rw [if_neg (by omega), Nat.sub_zero, Nat.zero_add, Nat.zero_add]⟩
  | k + 1, al, be, s, t, f => by
    obtain ⟨h1, h2⟩ := rows_el k al be s t (elim f)
    have h0 : rows (k + 1) al be s t f 0 0 = f 0 0 := if_pos (by omega)
    refine ⟨?_, fun r c => ?_⟩
    · show rows (k + 1) al be s t f 0 0 * pp k (elim (rows (k + 1) al be s t f)) = f 0 0 * pp k (elim f)
      rw [h0, rows_elim, h1]
    · show el k (elim (rows (k + 1) al be s t f)) r c = _
      rw [rows_elim, h2]
      rfl
/-- rows and columns at once -/
def both (k : Nat) (al be : Nat → Rat) (s t : Nat → Nat) (f : Mat) : Mat := tr (rows k al be s t (tr (rows k al be s t f)))
theorem both_el (k : Nat) (al be : Nat → Rat) (s t : Nat → Nat) (f : Mat) : pp k (both k al be s t f) = pp k f ∧ ∀ r c, el k (both k al be s t f) r c = al c * (al r * el k f (s r) (s c) + be r * el k f (t r) (s c)) + be c * (al r * el k f (s r) (t c) + be r * el k f (t r) (t c)) := by
  obtain ⟨h1, h2⟩ := rows_el k al be s t f
  obtain ⟨h3, h4⟩ := rows_el k al be s t (tr (rows k al be s t f))
  refine ⟨?_, fun r c => ?_⟩
  · unfold both
    rw [tr_pp, h3, tr_pp, h1]
  · unfold both
    rw [tr_el]
    show el k (rows k al be s t (tr (rows k al be s t f))) c r = _
    rw [h4, tr_el]
    show al c * el k (rows k al be s t f) r (s c) + be c * el k (rows k al be s t f) r (t c) = _
    rw [h2, h2]
theorem both_int {k : Nat} {al be : Nat → Int} {s t : Nat → Nat} {f : Mat} (hi : ∀ r c, ∃ z : Int, f r c = (z : Rat)) (r c : Nat) : ∃ z : Int, both k (fun i => (al i : Rat)) (fun i => (be i : Rat)) s t f r c = (z : Rat) := by
  have key : ∀ g : Mat, (∀ r c, ∃ z : Int, g r c = (z : Rat)) → ∀ r c, ∃ z : Int, rows k (fun i => (al i : Rat)) (fun i => (be i : Rat)) s t g r c = (z : Rat) := by
    intro g hg r c
    unfold rows
    split
    · exact hg _ _
    · obtain ⟨x, hx⟩ := hg (k + s (r - k)) c
      obtain ⟨y, hy⟩ := hg (k + t (r - k)) c
      exact ⟨al (r - k) * x + be (r - k) * y, by rw [hx, hy]; grind⟩
  exact key _ (fun a b => key f hi b a) c r
end RcM

/-! ## RcN -/
open RcA RcM
namespace RcN
/-! ### linear forms -/
abbrev Vec := Nat → Rat
def LinF (f : Vec → Rat) : Prop := (∀ x y : Vec, f (fun i => x i + y i) = f x + f y) ∧ ∀ (a : Rat) (x : Vec), f (fun i => a * x i) = a * f x
def LinM (φ : Vec → Vec) : Prop := ∀ k, LinF fun x => φ x k
theorem LinF.comp {f : Vec → Rat} {φ : Vec → Vec} (hf : LinF f) (h : LinM φ) : LinF fun x => f (φ x) := by
  refine ⟨fun x y => ?_, fun a x => ?_⟩
  · show f (φ fun i => x i + y i) = _
    rw [show φ (fun i => x i + y i) = fun k => φ x k + φ y k from funext fun k => (h k).1 x y, hf.1]
  · show f (φ fun i => a * x i) = _
    rw [show φ (fun i => a * x i) = fun k => a * φ x k from funext fun k => (h k).2 a x, hf.2]
theorem LinM.comp {φ ψ : Vec → Vec} (h : LinM φ) (g : LinM ψ) : LinM fun x => φ (ψ x) := fun k => (h k).comp g
theorem LinF.lin {f g : Vec → Rat} (hf : LinF f) (hg : LinF g) (a b : Rat) : LinF fun x => a * f x + b * g x := by
  refine ⟨fun x y => ?_, fun c x => ?_⟩
  · show a * f _ + b * g _ = _
    rw [hf.1, hg.1]; grind
  · show a * f _ + b * g _ = _
    rw [hf.2, hg.2]; grind
theorem LinF.zero {f : Vec → Rat} (hf : LinF f) : f (fun _ => 0) = 0 := by
  have h := hf.2 0 fun _ => 0
  rw [show (fun (_ : Nat) => (0 : Rat) * 0) = fun _ => 0 from funext fun _ => by grind] at h
  grind
def Sup (n : Nat) (t : Vec) : Prop := ∀ i, n ≤ i → t i = 0
def unit (i : Nat) : Vec := fun k => if k = i then 1 else 0
theorem lin_basis {f : Vec → Rat} (hf : LinF f) : ∀ (n : Nat) (t : Vec), Sup n t → (∀ i, i < n → f (unit i) = 0) → f t = 0 := by
  intro n
  induction n with
  | zero =>
    intro t h _
    rw [show t = fun _ => 0 from funext fun i => h i (Nat.zero_le _)]
    exact hf.zero
  | succ n ih =>
    intro t h hb
    have e : t = fun k => (fun k => if k = n then 0 else t k) k + (fun k => t n * unit n k) k := by
      funext k
      show t k = (if k = n then 0 else t k) + t n * (if k = n then 1 else 0)
      by_cases c : k = n
      · rw [if_pos c, if_pos c, c]; grind
      · rw [if_neg c, if_neg c]; grind
    rw [e, hf.1, hf.2, hb n (by omega), ih _ (fun i hi => ?_) fun i hi => hb i (by omega)]
    · grind
    · show (if i = n then 0 else t i) = 0
      by_cases c : i = n
      · rw [if_pos c]
      · rw [if_neg c]; exact h i (by omega)
def skip (i : Nat) (s : Vec) : Vec := fun k => if k = i then 0 else s (dn i k)
theorem lin_skip (i : Nat) : LinM (skip i) := fun k => by
  refine ⟨fun x y => ?_, fun a x => ?_⟩
  · show (if k = i then 0 else x (dn i k) + y (dn i k)) = (if k = i then 0 else x (dn i k)) + (if k = i then 0 else y (dn i k))
    split <;> grind
  · show (if k = i then 0 else a * x (dn i k)) = a * (if k = i then 0 else x (dn i k))
    split <;> grind
theorem dn_up (i r : Nat) : dn i (up i r) = r := ((up_dn (up_ne i r) r).mp rfl).symm
theorem skip_up (i : Nat) (s : Vec) (r : Nat) : skip i s (up i r) = s r := by
  show (if up i r = i then 0 else s (dn i (up i r))) = _
  rw [if_neg (up_ne i r), dn_up]
/-- fewer equations than unknowns -/
theorem kernel : ∀ (n : Nat) (fs : List (Vec → Rat)) (p : Nat), fs.length = n → (∀ f ∈ fs, LinF f) → n < p → ∃ t : Vec, (∃ i, i < p ∧ t i ≠ 0) ∧ Sup p t ∧ ∀ f ∈ fs, f t = 0 := by
  intro n
  induction n with
  | zero =>
    intro fs p h0 _ hp
    refine ⟨unit 0, ⟨0, hp, by show (if 0 = 0 then (1 : Rat) else 0) ≠ 0; rw [if_pos rfl]; decide⟩, fun i hi => if_neg (by omega), fun f hf => ?_⟩
    rw [List.length_eq_zero_iff.mp h0] at hf
    simp at hf
  | succ n ih =>
    intro fs p hl hlin hp
    match fs, hl with
    | f :: fs, hl =>
      have hl : fs.length = n := by simpa using hl
      have lf := hlin f (by simp)
      have lfs : ∀ g ∈ fs, LinF g := fun g hg => hlin g (by simp [hg])
      by_cases c : ∃ i, i < p ∧ f (unit i) ≠ 0
      · obtain ⟨i, hi, hc⟩ := c
        obtain ⟨s, ⟨j, hj, sj⟩, hs, hz⟩ := ih (fs.map fun g x => 1 * g (skip i x) + (-(g (unit i) / f (unit i))) * f (skip i x)) (p - 1) (by rw [List.length_map, hl]) (fun g hg => by
          obtain ⟨g', hg', rfl⟩ := List.mem_map.mp hg
          exact ((lfs g' hg').comp (lin_skip i)).lin (lf.comp (lin_skip i)) _ _) (by omega)
        refine ⟨fun k => skip i s k + (-(f (skip i s) / f (unit i))) * unit i k, ⟨up i j, by have := up_lt (i := i) hj; omega, ?_⟩, fun k hk => ?_, fun g hg => ?_⟩
        · show skip i s (up i j) + _ * (if up i j = i then 1 else 0) ≠ 0
          rw [skip_up, if_neg (up_ne i j)]
          grind
        · show (if k = i then 0 else s (dn i k)) + _ * (if k = i then 1 else 0) = 0
          rw [if_neg (by omega), if_neg (by omega), hs _ (by unfold dn; rw [if_neg (by omega)]; omega)]
          grind
        · rcases List.mem_cons.mp hg with rfl | hg
          · rw [lf.1 (skip i s) (fun k => (-(g (skip i s) / g (unit i))) * unit i k), lf.2]
            have : g (skip i s) / g (unit i) * g (unit i) = g (skip i s) := Rat.div_mul_cancel hc
            grind
          · have lg := lfs g hg
            rw [lg.1 (skip i s) (fun k => (-(f (skip i s) / f (unit i))) * unit i k), lg.2]
            have := hz _ (List.mem_map.mpr ⟨g, hg, rfl⟩)
            rw [Rat.div_def] at this ⊢
            grind
      · have c : ∀ i, i < p → f (unit i) = 0 := fun i hi => Classical.byContradiction fun z => c ⟨i, hi, z⟩
        obtain ⟨t, h1, h2, h3⟩ := ih fs p hl lfs (by omega)
        refine ⟨t, h1, h2, fun g hg => ?_⟩
        rcases List.mem_cons.mp hg with rfl | hg
        · exact lin_basis lf p t h2 c
        · exact h3 g hg
/-! ### Sylvester's law -/
def Low (Q : Vec → Rat) (p : Nat) : Prop := ∃ φ : Vec → Vec, LinM φ ∧ ∀ t, (∃ i, i < p ∧ t i ≠ 0) → Sup p t → 0 < Q (φ t)
def Up (Q : Vec → Rat) (p : Nat) : Prop := ∃ fs : List (Vec → Rat), fs.length = p ∧ (∀ f ∈ fs, LinF f) ∧ ∀ x, (∀ f ∈ fs, f x = 0) → Q x ≤ 0
theorem low_up {Q : Vec → Rat} {p q : Nat} (h : Low Q p) (g : Up Q q) : p ≤ q := by
  obtain ⟨φ, lφ, h⟩ := h
  obtain ⟨fs, hl, lf, g⟩ := g
  refine Nat.le_of_not_lt fun hlt => ?_
  obtain ⟨t, h1, h2, h3⟩ := kernel q (fs.map fun f x => f (φ x)) p (by rw [List.length_map, hl]) (fun f hf => by
    obtain ⟨f', hf', rfl⟩ := List.mem_map.mp hf
    exact (lf f' hf').comp lφ) hlt
  have a := h t h1 h2
  have b := g (φ t) fun f hf => h3 _ (List.mem_map.mpr ⟨f, hf, rfl⟩)
  grind
def Sig (Q : Vec → Rat) (p q : Nat) : Prop := (Low Q p ∧ Up Q p) ∧ Low (fun x => -Q x) q ∧ Up (fun x => -Q x) q
theorem sig_one {Q : Vec → Rat} {p q p' q' : Nat} (h : Sig Q p q) (g : Sig Q p' q') : p = p' ∧ q = q' :=
  ⟨Nat.le_antisymm (low_up h.1.1 g.1.2) (low_up g.1.1 h.1.2), Nat.le_antisymm (low_up h.2.1 g.2.2) (low_up g.2.1 h.2.2)⟩
theorem lin_id : LinM fun x => x := fun _ => ⟨fun _ _ => rfl, fun _ _ => rfl⟩
theorem half_zero {Q : Vec → Rat} (h : ∀ x, Q x = 0) : Low Q 0 ∧ Up Q 0 :=
  ⟨⟨fun x => x, lin_id, fun t ⟨i, hi, _⟩ => absurd hi (Nat.not_lt_zero i)⟩, ⟨[], rfl, fun f hf => by simp at hf, fun x _ => by rw [h]; exact Rat.le_refl⟩⟩
theorem sig_zero {Q : Vec → Rat} (h : ∀ x, Q x = 0) : Sig Q 0 0 := ⟨half_zero h, half_zero fun x => by show -Q x = 0; rw [h]; rfl⟩
/-- another choice of coordinates -/
theorem half_turn {Q Q' : Vec → Rat} {E E' : Vec → Vec} (hE : LinM E) (hE' : LinM E') (inv : ∀ x, E (E' x) = x) (e : ∀ x, Q' x = Q (E x)) {p : Nat} (h : Low Q' p ∧ Up Q' p) : Low Q p ∧ Up Q p := by
  obtain ⟨⟨φ, lφ, h⟩, fs, hl, lf, g⟩ := h
  refine ⟨⟨fun t => E (φ t), hE.comp lφ, fun t h1 h2 => by rw [← e]; exact h t h1 h2⟩, fs.map fun f x => f (E' x), by rw [List.length_map, hl], fun f hf => ?_, fun x hx => ?_⟩
  · obtain ⟨f', hf', rfl⟩ := List.mem_map.mp hf
    exact (lf f' hf').comp hE'
  · have := g (E' x) fun f hf => hx _ (List.mem_map.mpr ⟨f, hf, rfl⟩)
    rw [e, inv] at this
    exact this
theorem sig_turn {Q Q' : Vec → Rat} {E E' : Vec → Vec} (hE : LinM E) (hE' : LinM E') (inv : ∀ x, E (E' x) = x) (e : ∀ x, Q' x = Q (E x)) {p q : Nat} (h : Sig Q' p q) : Sig Q p q :=
  ⟨half_turn hE hE' inv e h.1, half_turn hE hE' inv (fun x => by show -Q' x = -Q (E x); rw [e]) h.2⟩
/-- a square split off -/
structure Split (Q Q' : Vec → Rat) (c : Rat) : Prop where
  ex : ∃ (l : Vec → Rat) (σ ε : Vec → Vec) (e : Vec), LinF l ∧ LinM σ ∧ LinM ε ∧ (∀ x, Q x = c * (l x * l x) + Q' (σ x)) ∧ (∀ y, σ (ε y) = y) ∧ (∀ y, l (ε y) = 0) ∧ l e = 1 ∧ (σ e = fun _ => 0) ∧ Q' (fun _ => 0) = 0
theorem Split.neg {Q Q' : Vec → Rat} {c : Rat} (h : Split Q Q' c) : Split (fun x => -Q x) (fun x => -Q' x) (-c) := by
  obtain ⟨l, σ, ε, e, h1, h2, h3, h4, h5, h6, h7, h8, h9⟩ := h.ex
  exact ⟨l, σ, ε, e, h1, h2, h3, fun x => by show -Q x = _; rw [h4]; grind, h5, h6, h7, h8, by show -Q' _ = 0; rw [h9]; rfl⟩
theorem sq_nn (x : Rat) : 0 ≤ x * x := by
  by_cases h : 0 ≤ x
  · exact Rat.mul_nonneg h h
  · have := Rat.mul_nonneg (a := -x) (b := -x) (by grind) (by grind)
    grind
theorem sq_ps {x : Rat} (h : x ≠ 0) : 0 < x * x := by
  have := sq_nn x
  refine Rat.lt_of_le_of_ne this fun z => h ?_
  rcases Rat.mul_eq_zero.mp z.symm with z | z <;> exact z
theorem half_pos {Q Q' : Vec → Rat} {c : Rat} (s : Split Q Q' c) (hc : 0 < c) {p : Nat} (h : Low Q' p ∧ Up Q' p) : Low Q (p + 1) ∧ Up Q (p + 1) := by
  obtain ⟨l, σ, ε, e, h1, h2, h3, h4, h5, h6, h7, h8, h9⟩ := s.ex
  obtain ⟨⟨φ, lφ, h⟩, fs, hl, lf, g⟩ := h
  have cut : LinM fun (t : Vec) k => if k < p then t k else 0 := fun k => by
    refine ⟨fun x y => ?_, fun a x => ?_⟩
    · show (if k < p then x k + y k else 0) = (if k < p then x k else 0) + (if k < p then y k else 0)
      split <;> grind
    · show (if k < p then a * x k else 0) = a * (if k < p then x k else 0)
      split <;> grind
  refine ⟨⟨fun t k => 1 * ε (φ fun k => if k < p then t k else 0) k + e k * t p, fun k => ?_, fun t ⟨i, hi, ti⟩ hs => ?_⟩, ⟨l :: fs.map fun f x => f (σ x), by rw [List.length_cons, List.length_map, hl], fun f hf => ?_, fun x hx => ?_⟩⟩
  · exact ((h3 k).comp (lφ.comp cut)).lin (g := fun t => t p) ⟨fun _ _ => rfl, fun _ _ => rfl⟩ 1 (e k)
  · show 0 < Q fun k => 1 * ε (φ fun k => if k < p then t k else 0) k + e k * t p
    generalize ht : (fun k => if k < p then t k else 0) = t'
    have e1 : (fun k => 1 * ε (φ t') k + e k * t p) = fun k => ε (φ t') k + (fun k => t p * e k) k := by funext k; grind
    have e2 : l (fun k => 1 * ε (φ t') k + e k * t p) = t p := by
      rw [e1, h1.1, h1.2, h6, h7]; grind
    have e3 : σ (fun k => 1 * ε (φ t') k + e k * t p) = φ t' := by
      rw [e1]
      funext k
      have := (h2 k).1 (ε (φ t')) fun k => t p * e k
      dsimp only at this
      rw [this]
      have := (h2 k).2 (t p) e
      dsimp only at this
      rw [this, h5, h8]
      grind
    rw [h4, e2, e3]
    by_cases z : ∃ i, i < p ∧ t' i ≠ 0
    · have := h t' z fun i hi => by rw [← ht]; exact if_neg (by omega)
      have := Rat.mul_nonneg (Rat.le_of_lt hc) (sq_nn (t p))
      grind
    · have t0 : t' = fun _ => 0 := by
        funext k
        by_cases ck : k < p
        · exact Classical.byContradiction fun y => z ⟨k, ck, y⟩
        · rw [← ht]; exact if_neg ck
      have f0 : φ t' = fun _ => 0 := by
        rw [t0]
        funext k
        exact (lφ k).zero
      rw [f0, h9]
      have tp : t p ≠ 0 := by
        by_cases ip : i = p
        · rw [← ip]; exact ti
        · exfalso
          refine z ⟨i, by omega, ?_⟩
          rw [← ht]
          show (if i < p then t i else 0) ≠ 0
          rw [if_pos (by omega)]
          exact ti
      have := Rat.mul_pos hc (sq_ps tp)
      grind
  · rcases List.mem_cons.mp hf with rfl | hf
    · exact h1
    · obtain ⟨f', hf', rfl⟩ := List.mem_map.mp hf
      exact (lf f' hf').comp h2
  · have := g (σ x) fun f hf => hx _ (by simp only [List.mem_cons, List.mem_map]; exact .inr ⟨f, hf, rfl⟩)
    rw [h4, hx l (by simp)]
    grind
theorem half_neg {Q Q' : Vec → Rat} {c : Rat} (s : Split Q Q' c) (hc : c < 0) {p : Nat} (h : Low Q' p ∧ Up Q' p) : Low Q p ∧ Up Q p := by
  obtain ⟨l, σ, ε, e, h1, h2, h3, h4, h5, h6, h7, h8, h9⟩ := s.ex
  obtain ⟨⟨φ, lφ, h⟩, fs, hl, lf, g⟩ := h
  refine ⟨⟨fun t => ε (φ t), h3.comp lφ, fun t a b => ?_⟩, ⟨fs.map fun f x => f (σ x), by rw [List.length_map, hl], fun f hf => ?_, fun x hx => ?_⟩⟩
  · have := h t a b
    rw [h4, h6, h5]
    grind
  · obtain ⟨f', hf', rfl⟩ := List.mem_map.mp hf
    exact (lf f' hf').comp h2
  · have := g (σ x) fun f hf => hx _ (List.mem_map.mpr ⟨f, hf, rfl⟩)
    have := Rat.mul_nonneg (a := -c) (by grind) (sq_nn (l x))
    rw [h4]
    grind
theorem sig_pos {Q Q' : Vec → Rat} {c : Rat} (s : Split Q Q' c) (hc : 0 < c) {p q : Nat} (h : Sig Q' p q) : Sig Q (p + 1) q := ⟨half_pos s hc h.1, half_neg s.neg (by grind) h.2⟩
theorem sig_neg {Q Q' : Vec → Rat} {c : Rat} (s : Split Q Q' c) (hc : c < 0) {p q : Nat} (h : Sig Q' p q) : Sig Q p (q + 1) := ⟨half_neg s hc h.1, half_pos s.neg (by grind) h.2⟩
/-! ### forms of matrices -/
theorem sum_mul (f : Nat → Rat) (a : Rat) (n : Nat) : sumUp (fun i => a * f i) n = a * sumUp f n := by
  have := sum_add f f a 0 n
  rw [show (fun i => a * f i + 0 * f i) = fun i => a * f i from funext fun i => by grind] at this
  rw [this]; grind
theorem sum_plus (f g : Nat → Rat) (n : Nat) : sumUp (fun i => f i + g i) n = sumUp f n + sumUp g n := by
  have := sum_add f g 1 1 n
  rw [show (fun i => 1 * f i + 1 * g i) = fun i => f i + g i from funext fun i => by grind] at this
  rw [this]; grind
theorem sum_one (g : Nat → Rat) (i : Nat) : ∀ n, i < n → sumUp (fun k => if k = i then g k else 0) n = g i := by
  intro n
  induction n with
  | zero => intro h; omega
  | succ n ih =>
    intro h
    rw [sumUp]
    by_cases c : n = i
    · rw [if_pos c, sum_zero _ n fun k hk => if_neg (by omega), c]; grind
    · rw [if_neg c, ih (by omega)]; grind
theorem sum_up (f : Nat → Rat) (i : Nat) : ∀ n, i < n + 1 → sumUp f (n + 1) = f i + sumUp (fun k => f (up i k)) n := by
  intro n
  induction n with
  | zero =>
    intro h
    obtain rfl : i = 0 := by omega
    show (0 : Rat) + f 0 = f 0 + 0
    grind
  | succ n ih =>
    intro h
    rw [sumUp]
    by_cases c : i = n + 1
    · subst c
      have : sumUp (fun k => f (up (n + 1) k)) (n + 1) = sumUp f (n + 1) := sum_congr fun k hk => by unfold up; rw [if_pos hk]
      rw [this]; grind
    · rw [ih (by omega), sumUp]
      have : up i n = n + 1 := if_neg (by omega)
      rw [this]; grind
def bil (n : Nat) (m : Mat) (x y : Vec) : Rat := sumUp (fun r => sumUp (fun c => m r c * (x r * y c)) n) n
def qf (n : Nat) (m : Mat) (x : Vec) : Rat := bil n m x x
def Sym (n : Nat) (m : Mat) : Prop := ∀ r c, r < n → c < n → m r c = m c r
def piv (i : Nat) (m : Mat) : Mat := fun r c => m (up i r) (up i c) - m (up i r) i * m i (up i c) / m i i
theorem lin_sum {F : Nat → Vec → Rat} : ∀ n, (∀ k, k < n → LinF (F k)) → LinF fun x => sumUp (fun k => F k x) n := by
  intro n
  induction n with
  | zero => intro _; exact ⟨fun _ _ => by show (0 : Rat) = 0 + 0; grind, fun a _ => by show (0 : Rat) = a * 0; grind⟩
  | succ n ih =>
    intro h
    have := (ih fun k hk => h k (by omega)).lin (h n (by omega)) 1 1
    rw [show (fun x => sumUp (fun k => F k x) (n + 1)) = fun x => 1 * sumUp (fun k => F k x) n + 1 * F n x from funext fun x => by rw [sumUp]; grind]
    exact this
theorem lin_at (c : Rat) (k : Nat) : LinF fun x : Vec => c * x k := ⟨fun x y => by show c * (x k + y k) = _; grind, fun a x => by show c * (a * x k) = _; grind⟩
theorem split_piv {n i : Nat} {m : Mat} (hi : i < n + 1) (hs : Sym (n + 1) m) (hm : m i i ≠ 0) : Split (qf (n + 1) m) (qf n (piv i m)) (m i i) := by
  let w : Nat → Rat := fun c => m i (up i c) / m i i
  have we : ∀ c, m i (up i c) = m i i * w c := fun c => by
    show _ = m i i * (m i (up i c) / m i i)
    rw [Rat.mul_comm, Rat.div_mul_cancel hm]
  have wl : LinF fun y : Vec => sumUp (fun c => w c * y c) n := lin_sum n fun k _ => lin_at (w k) k
  refine ⟨fun x => x i + sumUp (fun c => w c * x (up i c)) n, fun x k => x (up i k), fun y k => if k = i then -sumUp (fun c => w c * y c) n else y (dn i k), unit i, ?_, fun k => ⟨fun _ _ => rfl, fun _ _ => rfl⟩, fun k => ?_, fun x => ?_, fun y => ?_, fun y => ?_, ?_, ?_, ?_⟩
  · have := LinF.lin (f := fun x : Vec => x i) ⟨fun _ _ => rfl, fun _ _ => rfl⟩ (lin_sum (F := fun c x => w c * x (up i c)) n fun k _ => lin_at (w k) (up i k)) 1 1
    rw [show (fun x : Vec => x i + sumUp (fun c => w c * x (up i c)) n) = fun x => 1 * x i + 1 * sumUp (fun c => w c * x (up i c)) n from funext fun x => by grind]
    exact this
  · by_cases c : k = i
    · rw [show (fun y : Vec => if k = i then -sumUp (fun c => w c * y c) n else y (dn i k)) = fun y => -sumUp (fun c => w c * y c) n from funext fun y => if_pos c]
      have := wl.lin wl (-1) 0
      rw [show (fun y : Vec => -sumUp (fun c => w c * y c) n) = fun y => (-1) * sumUp (fun c => w c * y c) n + 0 * sumUp (fun c => w c * y c) n from funext fun y => by grind]
      exact this
    · rw [show (fun y : Vec => if k = i then -sumUp (fun c => w c * y c) n else y (dn i k)) = fun y => y (dn i k) from funext fun y => if_neg c]
      exact ⟨fun _ _ => rfl, fun _ _ => rfl⟩
  · show sumUp _ (n + 1) = m i i * ((x i + sumUp (fun c => w c * x (up i c)) n) * (x i + sumUp (fun c => w c * x (up i c)) n)) + sumUp (fun r => sumUp (fun c => piv i m r c * (x (up i r) * x (up i c))) n) n
    rw [sum_up _ i n hi, sum_up _ i n hi]
    generalize hS : sumUp (fun c => w c * x (up i c)) n = S
    have a1 : sumUp (fun k => m i (up i k) * (x i * x (up i k))) n = m i i * x i * S := by
      rw [← hS, ← sum_mul]
      exact sum_congr fun k _ => by rw [we]; grind
    have a2 : sumUp (fun k => sumUp (fun c => m (up i k) c * (x (up i k) * x c)) (n + 1)) n = m i i * x i * S + sumUp (fun r => sumUp (fun c => m (up i r) (up i c) * (x (up i r) * x (up i c))) n) n := by
      rw [← hS, ← sum_mul, ← sum_plus]
      refine sum_congr fun k hk => ?_
      rw [sum_up _ i n hi, hs (up i k) i (up_lt hk) hi, we]
      grind
    have a3 : sumUp (fun r => sumUp (fun c => piv i m r c * (x (up i r) * x (up i c))) n) n = sumUp (fun r => sumUp (fun c => m (up i r) (up i c) * (x (up i r) * x (up i c))) n) n - m i i * (S * S) := by
      have e : sumUp (fun r => sumUp (fun c => piv i m r c * (x (up i r) * x (up i c))) n) n = sumUp (fun r => sumUp (fun c => m (up i r) (up i c) * (x (up i r) * x (up i c))) n + (-(m i i * S)) * (w r * x (up i r))) n := by
        refine sum_congr fun r hr => ?_
        have : (-(m i i * S)) * (w r * x (up i r)) = sumUp (fun c => (-(m i i * (w r * x (up i r)))) * (w c * x (up i c))) n := by
          rw [sum_mul, hS]; grind
        rw [this, ← sum_plus]
        refine sum_congr fun c hc => ?_
        unfold piv
        rw [hs (up i r) i (up_lt hr) hi, we, we, Rat.div_def]
        have : m i i * (m i i)⁻¹ = 1 := Rat.mul_inv_cancel _ hm
        grind
      rw [e, sum_plus, sum_mul, hS]
      grind
    rw [a1, a2, a3]
    grind
  · funext k
    show (if up i k = i then _ else y (dn i (up i k))) = y k
    rw [if_neg (up_ne i k), dn_up]
  · show (if i = i then -sumUp (fun c => w c * y c) n else y (dn i i)) + sumUp (fun c => w c * (if up i c = i then -sumUp (fun c => w c * y c) n else y (dn i (up i c)))) n = 0
    have e : sumUp (fun c => w c * (if up i c = i then -sumUp (fun c => w c * y c) n else y (dn i (up i c)))) n = sumUp (fun c => w c * y c) n := sum_congr fun c _ => by rw [if_neg (up_ne i c), dn_up]
    rw [if_pos rfl, e]
    generalize sumUp (fun c => w c * y c) n = S
    grind
  · show (if i = i then (1 : Rat) else 0) + sumUp (fun c => w c * (if up i c = i then 1 else 0)) n = 1
    rw [if_pos rfl, sum_zero _ n fun c _ => by rw [if_neg (up_ne i c)]; grind]
    grind
  · funext k
    exact if_neg (up_ne i k)
  · exact sum_zero _ n fun r _ => sum_zero _ n fun c _ => by grind
/-- row and column i with j's added -/
def addm (i j : Nat) (m : Mat) : Mat := fun r c => (m r c + if r = i then m j c else 0) + if c = i then m r j + (if r = i then m j j else 0) else 0
def shear (a : Rat) (i j : Nat) (x : Vec) : Vec := fun k => x k + if k = j then a * x i else 0
theorem lin_shear (a : Rat) (i j : Nat) : LinM (shear a i j) := fun k => by
  refine ⟨fun x y => ?_, fun b x => ?_⟩
  · show (x k + y k) + (if k = j then a * (x i + y i) else 0) = (x k + if k = j then a * x i else 0) + (y k + if k = j then a * y i else 0)
    split <;> grind
  · show b * x k + (if k = j then a * (b * x i) else 0) = b * (x k + if k = j then a * x i else 0)
    split <;> grind
theorem shear_inv {i j : Nat} (h : i ≠ j) (x : Vec) : shear 1 i j (shear (-1) i j x) = x := by
  funext k
  show (x k + if k = j then -1 * x i else 0) + (if k = j then 1 * (x i + if i = j then -1 * x i else 0) else 0) = x k
  rw [if_neg h]
  split <;> grind
theorem qf_add {n i j : Nat} (m : Mat) (hi : i < n) (hj : j < n) (x : Vec) : qf n (addm i j m) x = qf n m (shear 1 i j x) := by
  have h1 : ∀ (m1 : Mat) (x y : Vec), bil n (fun r c => m1 r c + if c = i then m1 r j else 0) x y = bil n m1 x (shear 1 i j y) := by
    intro m1 x y
    refine sum_congr fun r _ => ?_
    have a : sumUp (fun c => (m1 r c + if c = i then m1 r j else 0) * (x r * y c)) n = sumUp (fun c => m1 r c * (x r * y c)) n + m1 r j * (x r * y i) := by
      rw [← sum_one (fun c => m1 r j * (x r * y c)) i n hi, ← sum_plus]
      exact sum_congr fun c _ => by split <;> grind
    have b : sumUp (fun c => m1 r c * (x r * shear 1 i j y c)) n = sumUp (fun c => m1 r c * (x r * y c)) n + m1 r j * (x r * y i) := by
      rw [← sum_one (fun c => m1 r c * (x r * y i)) j n hj, ← sum_plus]
      exact sum_congr fun c _ => by unfold shear; split <;> grind
    rw [a, b]
  have h2 : ∀ (x y : Vec), bil n (fun r c => m r c + if r = i then m j c else 0) x y = bil n m (shear 1 i j x) y := by
    intro x y
    have a : bil n (fun r c => m r c + if r = i then m j c else 0) x y = bil n m x y + sumUp (fun c => m j c * (x i * y c)) n := by
      rw [← sum_one (fun r => sumUp (fun c => m j c * (x i * y c)) n) i n hi]
      unfold bil
      rw [← sum_plus]
      refine sum_congr fun r _ => ?_
      by_cases c : r = i
      · rw [if_pos c, ← sum_plus]
        refine sum_congr fun k _ => ?_
        show (m r k + if r = i then m j k else 0) * (x r * y k) = _
        rw [if_pos c, c]; grind
      · rw [if_neg c, Rat.add_zero]
        refine sum_congr fun k _ => ?_
        show (m r k + if r = i then m j k else 0) * (x r * y k) = _
        rw [if_neg c]; grind
    have b : bil n m (shear 1 i j x) y = bil n m x y + sumUp (fun c => m j c * (x i * y c)) n := by
      rw [← sum_one (fun r => sumUp (fun c => m j c * (x i * y c)) n) j n hj]
      unfold bil
      rw [← sum_plus]
      refine sum_congr fun r _ => ?_
      by_cases c : r = j
      · rw [if_pos c, ← sum_plus]
        exact sum_congr fun k _ => by unfold shear; rw [if_pos c, c]; grind
      · rw [if_neg c, Rat.add_zero]
        refine sum_congr fun k _ => ?_
        unfold shear
        rw [if_neg c]; grind
    rw [a, b]
  unfold qf
  rw [← h2, ← h1]
  refine sum_congr fun r _ => sum_congr fun c _ => ?_
  unfold addm
  rfl
/-- a way to the inertia -/
inductive El : Nat → Mat → Nat → Nat → Prop
  | zero {n : Nat} {m : Mat} (h : ∀ r c, r < n → c < n → m r c = 0) : El n m 0 0
  | pos {n : Nat} {m : Mat} (i : Nat) {p q : Nat} (hi : i < n + 1) (h : 0 < m i i) (k : El n (piv i m) p q) : El (n + 1) m (p + 1) q
  | neg {n : Nat} {m : Mat} (i : Nat) {p q : Nat} (hi : i < n + 1) (h : m i i < 0) (k : El n (piv i m) p q) : El (n + 1) m p (q + 1)
  | add {n : Nat} {m : Mat} (i j : Nat) {p q : Nat} (hi : i < n) (hj : j < n) (h : i ≠ j) (k : El n (addm i j m) p q) : El n m p q
  | same {n : Nat} {m m' : Mat} {p q : Nat} (h : ∀ r c, r < n → c < n → m r c = m' r c) (k : El n m p q) : El n m' p q
theorem qf_same {n : Nat} {m m' : Mat} (h : ∀ r c, r < n → c < n → m r c = m' r c) : qf n m = qf n m' := by
  funext x
  exact sum_congr fun r hr => sum_congr fun c hc => by rw [h r c hr hc]
theorem sym_piv {n i : Nat} {m : Mat} (hi : i < n + 1) (h : Sym (n + 1) m) : Sym n (piv i m) := fun r c hr hc => by
  unfold piv
  rw [h (up i r) (up i c) (up_lt hr) (up_lt hc), h (up i r) i (up_lt hr) hi, h i (up i c) hi (up_lt hc), Rat.mul_comm]
theorem sym_add {n i j : Nat} {m : Mat} (hi : i < n) (hj : j < n) (h : Sym n m) : Sym n (addm i j m) := fun r c hr hc => by
  unfold addm
  rw [h r c hr hc, h j c hj hc, h r j hr hj]
  by_cases a : r = i <;> by_cases b : c = i
  · rw [if_pos a, if_pos b, if_pos b, if_pos a, if_pos a, if_pos b]; grind
  · rw [if_pos a, if_neg b, if_neg b, if_pos a, if_neg b]; grind
  · rw [if_neg a, if_pos b, if_pos b, if_neg a, if_neg a]; grind
  · rw [if_neg a, if_neg b, if_neg b, if_neg a]
theorem el_sig {n : Nat} {m : Mat} {p q : Nat} (h : El n m p q) (hs : Sym n m) : Sig (qf n m) p q := by
  induction h with
  | zero h => exact sig_zero fun x => sum_zero _ _ fun r hr => sum_zero _ _ fun c hc => by rw [h r c hr hc]; grind
  | pos i hi h k ih => exact sig_pos (split_piv hi hs (by grind)) h (ih (sym_piv hi hs))
  | neg i hi h k ih => exact sig_neg (split_piv hi hs (by grind)) h (ih (sym_piv hi hs))
  | add i j hi hj h k ih => exact sig_turn (lin_shear 1 i j) (lin_shear (-1) i j) (shear_inv h) (fun x => qf_add _ hi hj x) (ih (sym_add hi hj hs))
  | same h k ih => rw [← qf_same h]; exact ih fun r c hr hc => by rw [h r c hr hc, h c r hc hr]; exact hs r c hr hc
/-- rows and columns taken times numbers -/
theorem sig_scale {n : Nat} {m : Mat} {d : Nat → Rat} (hd : ∀ i, d i ≠ 0) {p q : Nat} (h : Sig (qf n fun r c => d r * d c * m r c) p q) : Sig (qf n m) p q := by
  refine sig_turn (E := fun x k => d k * x k) (E' := fun x k => (d k)⁻¹ * x k) (fun k => lin_at (d k) k) (fun k => lin_at (d k)⁻¹ k) (fun x => ?_) (fun x => ?_) h
  · funext k
    show d k * ((d k)⁻¹ * x k) = x k
    have := Rat.mul_inv_cancel _ (hd k)
    grind
  · exact sum_congr fun r _ => sum_congr fun c _ => by grind
end RcN

/-! ## RcO -/
open RcA RcM RcN Kqg1
namespace RcO
/-! ### the specification's inertia -/
theorem filter_range (i : Nat) : ∀ n, i < n + 1 → (List.range (n + 1)).filter (fun r => r != i) = (List.range n).map (up i) := by
  intro n
  induction n with
  | zero =>
    intro h
    obtain rfl : i = 0 := by omega
    rfl
  | succ n ih =>
    intro h
    rw [List.range_succ, List.filter_append]
    by_cases c : i = n + 1
    · subst c
      rw [List.filter_eq_self.mpr (fun a ha => by have := List.mem_range.mp ha; rw [bne_iff_ne]; omega)]
      have : (List.range (n + 1)).map (up (n + 1)) = List.range (n + 1) := by
        conv => rhs; rw [← List.map_id (List.range (n + 1))]
        refine List.map_congr_left fun a ha => ?_
        have := List.mem_range.mp ha
        exact if_pos this
      rw [this]
      simp
    · rw [ih (by omega), List.range_succ, List.map_append]
      congr 1
      have h2 : up i n = n + 1 := if_neg (by omega)
      rw [List.map_cons, List.map_nil, h2, List.filter_cons_of_pos (by rw [bne_iff_ne]; omega)]
      rfl
theorem matrix_len (n : Nat) (f : Mat) : (matrix n f).length = n := by simp [matrix]
theorem entry_is {n : Nat} {f : Mat} {r c : Nat} (hr : r < n) (hc : c < n) : entry (matrix n f) r c = f r c := by
  have e : (matrix n f).getD r [] = (List.range n).map fun c => f r c := by
    unfold matrix
    rw [List.getD_eq_getElem?_getD, List.getElem?_map, List.getElem?_range hr]
    rfl
  unfold entry
  rw [e, List.getD_eq_getElem?_getD, List.getElem?_map, List.getElem?_range hc]
  rfl
theorem matrix_same {n : Nat} {f g : Mat} (h : ∀ r c, r < n → c < n → f r c = g r c) : matrix n f = matrix n g := by
  unfold matrix
  refine List.map_congr_left fun r hr => List.map_congr_left fun c hc => h r c (List.mem_range.mp hr) (List.mem_range.mp hc)
theorem without_is {n i : Nat} (f : Mat) (hi : i < n + 1) : withoutRowAndColumn (matrix (n + 1) f) i = matrix n fun r c => f (up i r) (up i c) := by
  unfold withoutRowAndColumn
  rw [matrix_len, filter_range i n hi, List.map_map]
  unfold matrix
  refine List.map_congr_left fun r hr => ?_
  show ((List.range n).map (up i)).map _ = _
  rw [List.map_map]
  refine List.map_congr_left fun c hc => ?_
  exact entry_is (f := f) (up_lt (List.mem_range.mp hr)) (up_lt (List.mem_range.mp hc))
theorem spec_el : ∀ (fuel n : Nat) (f : Mat), Sym n f → (2 * n + 1 ≤ fuel ∨ (2 * n ≤ fuel ∧ ∃ i, i < n ∧ f i i ≠ 0)) → El n f (inertia fuel (matrix n f)).1 (inertia fuel (matrix n f)).2 := by
  intro fuel
  induction fuel with
  | zero =>
    intro n f hs h
    rcases h with h | ⟨h, i, hi, _⟩ <;> omega
  | succ fuel ih =>
    intro n f hs h
    unfold inertia
    dsimp only
    rw [matrix_len]
    cases e : (List.range n).find? fun i => entry (matrix n f) i i != 0 with
    | some i =>
      have hi : i < n := List.mem_range.mp (List.mem_of_find?_eq_some e)
      have hp : f i i ≠ 0 := by
        have := List.find?_some e
        rw [bne_iff_ne, entry_is hi hi] at this
        exact this
      obtain ⟨k, rfl⟩ : ∃ k, n = k + 1 := ⟨n - 1, by omega⟩
      dsimp only
      rw [entry_is hi hi, without_is _ hi, matrix_same (g := piv i f) fun r c hr hc => by
        unfold piv
        rw [entry_is (up_lt hr) (up_lt hc), entry_is (up_lt hr) hi, entry_is hi (up_lt hc)]]
      have k1 := ih k (piv i f) (sym_piv hi hs) (.inl (by rcases h with h | ⟨h, _⟩ <;> omega))
      by_cases c : 0 < f i i
      · rw [if_pos c]
        exact .pos i hi c k1
      · rw [if_neg c]
        exact .neg i hi (by grind) k1
    | none =>
      have hd : ∀ i, i < n → f i i = 0 := fun i hi => by
        have := List.find?_eq_none.mp e i (List.mem_range.mpr hi)
        rw [entry_is hi hi] at this
        simpa using this
      dsimp only
      cases e2 : ((List.range n).flatMap fun i => (List.range n).map fun j => (i, j)).find? fun p => decide (p.1 < p.2) && entry (matrix n f) p.1 p.2 != 0 with
      | none =>
        refine .zero fun r c hr hc => ?_
        have key : ∀ a b, a < n → b < n → a < b → f a b = 0 := fun a b ha hb hab => by
          have := List.find?_eq_none.mp e2 (a, b) (List.mem_flatMap.mpr ⟨a, List.mem_range.mpr ha, List.mem_map.mpr ⟨b, List.mem_range.mpr hb, rfl⟩⟩)
          rw [entry_is ha hb] at this
          simpa [hab] using this
        rcases Nat.lt_trichotomy r c with h1 | h1 | h1
        · exact key r c hr hc h1
        · rw [h1]; exact hd c hc
        · rw [hs r c hr hc]; exact key c r hc hr h1
      | some p =>
        obtain ⟨i, j⟩ := p
        have hm := List.mem_of_find?_eq_some e2
        have hq := List.find?_some e2
        obtain ⟨i', hi', hm⟩ := List.mem_flatMap.mp hm
        obtain ⟨j', hj', hm⟩ := List.mem_map.mp hm
        obtain ⟨rfl, rfl⟩ := Prod.mk.inj hm
        have hi := List.mem_range.mp hi'
        have hj := List.mem_range.mp hj'
        rw [Bool.and_eq_true, bne_iff_ne, decide_eq_true_iff, entry_is hi hj] at hq
        dsimp only at hq ⊢
        have same : ∀ r c, r < n → c < n → (if r = i' ∧ c = i' then 2 * entry (matrix n f) i' j' else if r = i' then entry (matrix n f) i' c + entry (matrix n f) j' c else if c = i' then entry (matrix n f) r i' + entry (matrix n f) r j' else entry (matrix n f) r c) = addm i' j' f r c := by
          intro r c hr hc
          unfold addm
          rw [entry_is hi hj, entry_is hi hc, entry_is hj hc, entry_is hr hi, entry_is hr hj, entry_is hr hc]
          by_cases a : r = i' <;> by_cases b : c = i'
          · rw [if_pos ⟨a, b⟩, if_pos a, if_pos b, if_pos a, a, b, hd i' hi, hd j' hj, hs j' i' hj hi]; grind
          · rw [if_neg (fun z => b z.2), if_pos a, if_pos a, if_neg b, a]; grind
          · rw [if_neg (fun z => a z.1), if_neg a, if_pos b, if_neg a, if_pos b, if_neg a, b]; grind
          · rw [if_neg (fun z => a z.1), if_neg a, if_neg b, if_neg a, if_neg b]; grind
        rw [matrix_same same]
        have d2 : addm i' j' f i' i' ≠ 0 := by
          unfold addm
          rw [if_pos rfl, if_pos rfl, if_pos rfl, hd i' hi, hd j' hj, hs j' i' hj hi]
          have := hq.2
          grind
        exact .add i' j' hi hj (by omega) (ih n _ (sym_add hi hj hs) (.inr ⟨by rcases h with h | ⟨_, k, hk, hz⟩; omega; exact absurd (hd k hk) hz, i', hi, d2⟩))
end RcO

/-! ## RcP -/
open Kqg1 RcA RcB RcC RcE RcF RcG RcH RcI RcJ RcL
namespace RcP
/-! ### power sums -/
def isumTo (f : Nat → Int) : Nat → Int
  | 0 => 0
  | n + 1 => isumTo f n + f n
theorem isum_cast (f : Nat → Int) : ∀ n, ((isumTo f n : Int) : Rat) = sumUp (fun i => (f i : Rat)) n
  | 0 => rfl
  | n + 1 => by rw [isumTo, sumUp, ← isum_cast f n]; grind
def dco (P : List Int) (i : Nat) : Int := if i = 0 then 1 else ic P (P.length - 1 - i) * ilast P ^ (i - 1)
def isums (P : List Int) : Nat → List Int
  | 0 => [((P.length - 1 : Nat) : Int)]
  | k + 1 => isums P k ++ [-((if k + 1 ≤ P.length - 1 then ((k + 1 : Nat) : Int) * dco P (k + 1) else 0) + isumTo (fun j => dco P (j + 1) * (isums P k).getD (k - j) 0) (min k (P.length - 1)))]
theorem isums_len (P : List Int) : ∀ k, (isums P k).length = k + 1
  | 0 => rfl
  | k + 1 => by rw [isums, List.length_append, isums_len P k]; rfl
theorem psums_len (L : List Rat) : ∀ k, (powerSums L k).length = k + 1
  | 0 => rfl
  | k + 1 => by rw [powerSums]; dsimp only; rw [List.length_append, psums_len L k]; rfl
theorem getD_snoc {α : Type} (l : List α) (x d : α) (i : Nat) : (l ++ [x]).getD i d = if i < l.length then l.getD i d else if i = l.length then x else d := by
  rw [List.getD_eq_getElem?_getD, List.getD_eq_getElem?_getD]
  by_cases h : i < l.length
  · rw [if_pos h, List.getElem?_append_left h]
  · rw [if_neg h, List.getElem?_append_right (by omega)]
    by_cases e : i = l.length
    · rw [if_pos e, e, Nat.sub_self]; rfl
    · rw [if_neg e, List.getElem?_eq_none (by simp; omega)]; rfl
theorem sum_cut {f : Nat → Rat} {n k : Nat} (h : ∀ i, n ≤ i → i < k → f i = 0) (hn : n ≤ k) : sumUp f k = sumUp f n := by
  induction k with
  | zero => rw [Nat.le_zero.mp hn]
  | succ k ih =>
    by_cases e : n = k + 1
    · rw [e]
    · rw [sumUp, ih (fun i h1 h2 => h i h1 (by omega)) (by omega), h k (by omega) (by omega)]; grind
theorem rpow_add (x : Rat) (a : Nat) : ∀ b, x ^ (a + b) = x ^ a * x ^ b
  | 0 => by rw [Nat.add_zero, Rat.pow_zero]; grind
  | b + 1 => by rw [← Nat.add_assoc, Rat.pow_succ, rpow_add x a b, Rat.pow_succ]; grind
theorem rpow_ne {x : Rat} (h : x ≠ 0) : ∀ n : Nat, x ^ n ≠ 0
  | 0 => by rw [Rat.pow_zero]; decide
  | n + 1 => by
    rw [Rat.pow_succ]
    intro z
    rcases Rat.mul_eq_zero.mp z with z | z
    · exact rpow_ne h n z
    · exact h z
section
variable {c : Rat} {P : List Int} {L : List Rat}
theorem lead_ne (h : Rl c P L) (hn : P ≠ []) : (ilast P : Rat) ≠ 0 := fun z => h.last_ne hn (cast_zero_iff.mp z)
theorem cf_monic (h : Rl c P L) (hn : P ≠ []) (j : Nat) : (ilast P : Rat) * coefficient (monic L) j = (ic P j : Rat) := by
  have hL : L ≠ [] := fun z => hn (h.nil.mpr z)
  have l0 := lead_ne h hn
  rw [monic, if_neg hL, cf_scale, h.ic, h.last]
  rw [h.last] at l0
  have : leadingCoefficient L ≠ 0 := fun z => l0 (by rw [z]; grind)
  have : leadingCoefficient L * (leadingCoefficient L)⁻¹ = 1 := Rat.mul_inv_cancel _ this
  rw [Rat.div_def]
  grind
theorem dco_is (h : Rl c P L) (hn : P ≠ []) {i : Nat} (hi : 1 ≤ i) : (dco P i : Rat) = (ilast P : Rat) ^ i * coefficient (monic L) (P.length - 1 - i) := by
  obtain ⟨k, rfl⟩ : ∃ k, i = k + 1 := ⟨i - 1, by omega⟩
  unfold dco
  rw [if_neg (by omega), cast_mul, ← cf_monic h hn, Nat.add_sub_cancel, Rat.intCast_pow, Rat.pow_succ]
  grind
theorem sums_is (h : Rl c P L) (hn : P ≠ []) : ∀ k i, i ≤ k → ((isums P k).getD i 0 : Rat) = (ilast P : Rat) ^ i * (powerSums L k).getD i 0 := by
  have hlen := h.len
  intro k
  induction k with
  | zero =>
    intro i hi
    obtain rfl : i = 0 := by omega
    show (((P.length - 1 : Nat) : Int) : Rat) = (ilast P : Rat) ^ 0 * ((degree L : Nat) : Rat)
    unfold degree
    rw [hlen, Rat.pow_zero]
    show ((L.length - 1 : Nat) : Rat) = _
    grind
  | succ k ih =>
    intro i hi
    rw [isums, powerSums]
    dsimp only
    rw [getD_snoc, getD_snoc, isums_len, psums_len]
    by_cases e : i < k + 1
    · rw [if_pos e, if_pos e]
      exact ih i (by omega)
    · obtain rfl : i = k + 1 := by omega
      rw [if_neg e, if_pos rfl, if_neg e, if_pos rfl, sum_range]
      have hd : degree L = P.length - 1 := by unfold degree; rw [hlen]
      rw [hd]
      have a1 : (ilast P : Rat) ^ (k + 1) * sumUp (fun j => (if j + 1 ≤ P.length - 1 then coefficient (monic L) (P.length - 1 - (j + 1)) else 0) * (powerSums L k).getD (k - j) 0) k = ((isumTo (fun j => dco P (j + 1) * (isums P k).getD (k - j) 0) (min k (P.length - 1)) : Int) : Rat) := by
        rw [isum_cast, ← RcN.sum_mul, sum_cut (n := min k (P.length - 1)) (fun i h1 h2 => by rw [if_neg (by omega)]; grind) (Nat.min_le_left _ _)]
        refine sum_congr fun j hj => ?_
        rw [if_pos (by omega), cast_mul, ih (k - j) (by omega), dco_is h hn (by omega)]
        have : k + 1 = (j + 1) + (k - j) := by omega
        rw [this, rpow_add]
        grind
      have a2 : (((if k + 1 ≤ P.length - 1 then ((k + 1 : Nat) : Int) * dco P (k + 1) else 0) : Int) : Rat) = (ilast P : Rat) ^ (k + 1) * (((k + 1 : Nat) : Rat) * (if k + 1 ≤ P.length - 1 then coefficient (monic L) (P.length - 1 - (k + 1)) else 0)) := by
        by_cases g : k + 1 ≤ P.length - 1
        · rw [if_pos g, if_pos g, cast_mul, dco_is h hn (by omega)]
          show ((k + 1 : Nat) : Rat) * _ = _
          grind
        · rw [if_neg g, if_neg g]
          show (0 : Rat) = _
          grind
      rw [Rat.intCast_neg, Rat.intCast_add, a2, ← a1]
      generalize sumUp _ k = S
      grind
/-- the list of the sums, as fractions -/
theorem fracs_is (h : Rl c P L) (hn : P ≠ []) (k : Nat) : (List.range (k + 1)).map (fun i => (((isums P k).getD i 0 : Int) : Rat) / (((ilast P ^ i : Int)) : Rat)) = powerSums L k := by
  refine List.ext_getElem? fun i => ?_
  by_cases hi : i < k + 1
  · rw [List.getElem?_map, List.getElem?_range hi]
    show some _ = _
    have l0 := lead_ne h hn
    have l1 : (ilast P : Rat) ^ i ≠ 0 := rpow_ne l0 i
    have hi' : i < (powerSums L k).length := by rw [psums_len]; exact hi
    show some ((((isums P k).getD i 0 : Int) : Rat) / ((ilast P ^ i : Int) : Rat)) = _
    rw [sums_is h hn k i (by omega), Rat.intCast_pow, List.getElem?_eq_getElem (by rw [psums_len]; exact hi), List.getD_eq_getElem?_getD, List.getElem?_eq_getElem (by rw [psums_len]; exact hi)]
    congr 1
    show (ilast P : Rat) ^ i * (powerSums L k)[i] / (ilast P : Rat) ^ i = _
    have := Rat.mul_inv_cancel _ l1
    rw [Rat.div_def]
    grind
  · rw [List.getElem?_eq_none (by simp; omega), List.getElem?_eq_none (by rw [psums_len]; omega)]
theorem psums_take (L : List Rat) : ∀ k i j, i ≤ k → k ≤ j → (powerSums L j).getD i 0 = (powerSums L k).getD i 0 := by
  intro k i j hi hj
  induction hj with
  | refl => rfl
  | step hj ih =>
    rename_i m
    rw [powerSums]
    dsimp only
    rw [getD_snoc, psums_len, if_pos (by have : k ≤ m := hj; omega)]
    exact ih
/-! ### Newton's inequalities -/
def newt (P : List Int) (k : Nat) : Bool := decide (ic P (k - 1) * ic P (k + 1) * ((k + 1 : Nat) : Int) * ((P.length - 1 - k + 1 : Nat) : Int) ≤ ic P k * ic P k * ((k : Nat) : Int) * ((P.length - 1 - k : Nat) : Int))
theorem newt_is (h : Rl c P L) (k : Nat) : newt P k = satisfiesNewton L k := by
  unfold newt satisfiesNewton
  dsimp only
  have hd : degree L = P.length - 1 := by unfold degree; rw [h.len]
  rw [hd, decide_eq_decide, ← Rat.intCast_le_intCast]
  have cc := RcN.sq_ps h.ne
  have e1 : ((ic P (k - 1) * ic P (k + 1) * ((k + 1 : Nat) : Int) * ((P.length - 1 - k + 1 : Nat) : Int) : Int) : Rat) = c * c * (coefficient L (k - 1) * coefficient L (k + 1) * (((k + 1) * (P.length - 1 - k + 1) : Nat) : Rat)) := by
    rw [cast_mul, cast_mul, cast_mul, h.ic, h.ic, RcF.cast_nat, RcF.cast_nat, Rat.natCast_mul]
    grind
  have e2 : ((ic P k * ic P k * ((k : Nat) : Int) * ((P.length - 1 - k : Nat) : Int) : Int) : Rat) = c * c * (coefficient L k * coefficient L k * ((k * (P.length - 1 - k) : Nat) : Rat)) := by
    rw [cast_mul, cast_mul, cast_mul, h.ic, RcF.cast_nat, RcF.cast_nat, Rat.natCast_mul]
    grind
  rw [e1, e2]
  exact ⟨fun g => Rat.le_of_mul_le_mul_left g cc, fun g => Rat.mul_le_mul_of_nonneg_left g (Rat.le_of_lt cc)⟩
/-! ### Cauchy's bound in whole numbers -/
theorem abs_nat (z : Int) : absolute (z : Rat) = ((z.natAbs : Nat) : Rat) := by
  unfold absolute
  by_cases h : z < 0
  · rw [if_pos (by rw [← Rat.intCast_zero]; exact Rat.intCast_lt_intCast.mpr h), ← Rat.intCast_neg, ← RcF.cast_nat]
    congr 1
    omega
  · rw [if_neg (by rw [← Rat.intCast_zero]; exact fun z => h (Rat.intCast_lt_intCast.mp z)), ← RcF.cast_nat]
    congr 1
    omega
theorem abs_mul (x y : Rat) : absolute (x * y) = absolute x * absolute y := by
  unfold absolute
  by_cases hx : x < 0 <;> by_cases hy : y < 0
  · have := Rat.mul_pos (a := -x) (b := -y) (by grind) (by grind)
    rw [if_pos hx, if_pos hy, if_neg (by grind)]; grind
  · have := Rat.mul_nonneg (a := -x) (b := y) (by grind) (by grind)
    rw [if_pos hx, if_neg hy]
    split <;> grind
  · have := Rat.mul_nonneg (a := x) (b := -y) (by grind) (by grind)
    rw [if_neg hx, if_pos hy]
    split <;> grind
  · have := Rat.mul_nonneg (a := x) (b := y) (by grind) (by grind)
    rw [if_neg hx, if_neg hy, if_neg (by grind)]
theorem big_le (h : Rl c P L) (hn : P ≠ []) {G : Nat} (hm : ∃ z ∈ P, z.natAbs = G) (hg : ∀ z ∈ P, z.natAbs ≤ G) (m : Int) : big L ≤ (m : Rat) ↔ (G : Int) ≤ m * ((ilast P).natAbs : Int) := by
  have hL : L ≠ [] := fun z => hn (h.nil.mpr z)
  have l0 := h.last_ne hn
  have lp : (0 : Rat) < ((ilast P).natAbs : Rat) := Rat.natCast_pos.mpr (by omega)
  have lL : leadingCoefficient L ≠ 0 := fun z => lead_ne h hn (by rw [h.last, z]; grind)
  -- each ratio
  have ratio : ∀ i, absolute (coefficient L i / leadingCoefficient L) * ((ilast P).natAbs : Rat) = ((ic P i).natAbs : Rat) := by
    intro i
    rw [← abs_nat, ← abs_nat, ← abs_mul, h.ic, h.last]
    congr 1
    have := Rat.mul_inv_cancel _ lL
    rw [Rat.div_def]
    grind
  have mi : ∀ i, absolute (coefficient L i / leadingCoefficient L) ≤ (m : Rat) ↔ ((ic P i).natAbs : Int) ≤ m * ((ilast P).natAbs : Int) := by
    intro i
    rw [← Rat.intCast_le_intCast, cast_mul, RcF.cast_nat, RcF.cast_nat, ← ratio i]
    exact ⟨fun g => Rat.mul_le_mul_of_nonneg_right g (Rat.le_of_lt lp), fun g => Rat.le_of_mul_le_mul_right g lp⟩
  obtain ⟨z, hz, hG⟩ := hm
  obtain ⟨i, hi, hzi⟩ := List.getElem_of_mem hz
  have icz : ic P i = z := by rw [ic_lt _ _ hi, hzi]
  constructor
  · intro hb
    have := (mi i).mp (Rat.le_trans ((fold_max _ 0).2.1 _ (List.mem_map.mpr ⟨coefficient L i, by rw [cf_lt _ _ (by rw [← h.len]; exact hi)]; exact List.getElem_mem _, rfl⟩)) hb)
    rw [icz, hG] at this
    exact this
  · intro hb
    rcases (fold_max (L.map fun c => absolute (c / leadingCoefficient L)) 0).2.2 with e | e
    · unfold big
      rw [e, ← Rat.intCast_zero]
      refine Rat.intCast_le_intCast.mpr (Classical.byContradiction fun hneg => ?_)
      have := Int.mul_le_mul_of_nonneg_right (show m ≤ -1 by omega) (show (0 : Int) ≤ ((ilast P).natAbs : Int) by omega)
      omega
    · unfold big
      obtain ⟨x, hx, e⟩ := List.mem_map.mp e
      rw [← e]
      obtain ⟨j, hj, hxj⟩ := List.getElem_of_mem hx
      have : coefficient L j = x := by rw [cf_lt _ _ hj, hxj]
      rw [← this]
      refine (mi j).mpr (Int.le_trans ?_ hb)
      have hj' : j < P.length := by rw [h.len]; exact hj
      have := hg (ic P j) (by rw [ic_lt _ _ hj']; exact List.getElem_mem _)
      omega
theorem cauchy_is (h : Rl c P L) (hn : P ≠ []) {G : Nat} (hm : ∃ z ∈ P, z.natAbs = G) (hg : ∀ z ∈ P, z.natAbs ≤ G) : 1 - (-(G : Int)).fdiv ((ilast P).natAbs : Int) = ((rootBound L : Nat) : Int) := by
  have l0 := h.last_ne hn
  have lp : (0 : Int) < ((ilast P).natAbs : Int) := by omega
  have hc := ceil_spec (big L) (big_nn L)
  have e : ((rootBound L : Nat) : Int) = ((ceiling (big L) : Nat) : Int) + 1 := rfl
  rw [e, Int.fdiv_eq_ediv_of_nonneg _ (by omega)]
  have k1 : -(G : Int) / ((ilast P).natAbs : Int) ≤ -((ceiling (big L) : Nat) : Int) := by
    have : ((ceiling (big L) : Nat) : Int) ≤ -(-(G : Int) / ((ilast P).natAbs : Int)) := by
      refine hc.2 _ ((big_le h hn hm hg _).mpr ?_)
      have := Int.ediv_mul_le (-(G : Int)) (b := ((ilast P).natAbs : Int)) (by omega)
      rw [Int.neg_mul]
      omega
    omega
  have k2 : -((ceiling (big L) : Nat) : Int) ≤ -(G : Int) / ((ilast P).natAbs : Int) := by
    refine (Int.le_ediv_iff_mul_le lp).mpr ?_
    have := (big_le h hn hm hg ((ceiling (big L) : Nat) : Int)).mp hc.1
    rw [Int.neg_mul]
    omega
  omega
end
/-! ### bisection -/
theorem bisect_is {f : Int → Bool} {B : Int} (hB : ∀ m, f m = true ↔ m ≤ B) : ∀ (fuel : Nat) (low high : Int), low ≤ B → B < high → high - low ≤ ((2 ^ fuel : Nat) : Int) → bisect f fuel low high = B := by
  intro fuel
  induction fuel with
  | zero => intro low high h1 h2 h3; rw [bisect]; simp at h3; omega
  | succ fuel ih =>
    intro low high h1 h2 h3
    rw [Nat.pow_succ] at h3
    rw [bisect]
    by_cases c : high ≤ low + 1
    · rw [if_pos c]; omega
    · rw [if_neg c]
      dsimp only
      by_cases d : f ((low + high) / 2) = true
      · rw [if_pos d]
        exact ih _ _ ((hB _).mp d) h2 (by omega)
      · rw [if_neg d]
        have : ¬ (low + high) / 2 ≤ B := fun z => d ((hB _).mpr z)
        exact ih _ _ h1 (by omega) (by omega)
end RcP

/-! ## RcQ -/
open Kqg1 RcA RcB RcC RcD RcE RcF RcG RcH RcI RcJ RcL RcP
namespace RcQ
/-- the roots of a layer below a number -/
def rho (l : List Rat) (x : Rat) : Nat := if evaluate (squarefree l) x = 0 then 1 else 0
def cnt (l : List Rat) (x : Rat) : Nat := changesAt (sturmChain l) .minusInfinity - changesAt (sturmChain l) (.at x) - rho l x
def Lr (l : List Rat) : Prop := Tr l ∧ 2 ≤ l.length
theorem rho_le {l : List Rat} (h : Lr l) (x : Rat) : changesAt (sturmChain l) (.at x) + rho l x ≤ changesAt (sturmChain l) .minusInfinity := by
  unfold rho
  split
  · rename_i z
    have h1 := changes_root h.1 h.2 (x := x - 1) (y := x) (by grind) z
    have h2 := changes_mono h.1 h.2 (s := .minusInfinity) (t := .at (x - 1)) True.intro
    omega
  · exact changes_mono h.1 h.2 (s := .minusInfinity) (t := .at x) True.intro
theorem cnt_mono {l : List Rat} (h : Lr l) {x y : Rat} (hxy : x < y) : cnt l x ≤ cnt l y := by
  have h1 : changesAt (sturmChain l) (.at y) + rho l y ≤ changesAt (sturmChain l) (.at x) := by
    unfold rho
    split
    · rename_i z
      exact changes_root h.1 h.2 hxy z
    · exact changes_mono h.1 h.2 (s := .at x) (t := .at y) (Rat.le_of_lt hxy)
  unfold cnt
  omega
theorem chain_head {l : List Rat} (h : Lr l) : (sturmChain l).headD [] = squarefree l := by
  obtain ⟨r, e, _⟩ := chain_is h.1 h.2
  rw [e]
  rfl
theorem below_is (x : Rat) : ∀ ls : List (List Rat), (∀ l ∈ ls, Lr l) → countByChains (ls.map sturmChain) .minusInfinity (.at x) = (ls.map fun l => cnt l x).sum + (ls.map fun l => rho l x).sum ∧ multiplicityByChains (ls.map sturmChain) x = (ls.map fun l => rho l x).sum
  | [], _ => ⟨rfl, rfl⟩
  | l :: ls, h => by
    obtain ⟨h1, h2⟩ := below_is x ls fun l hl => h l (by simp [hl])
    have hl := h l (by simp)
    have e := rho_le hl x
    constructor
    · unfold countByChains at h1 ⊢
      rw [fold_sum] at h1 ⊢
      rw [List.map_cons, List.map_cons, List.sum_cons, List.map_cons, List.map_cons, List.sum_cons, List.sum_cons]
      have : countByChain (sturmChain l) .minusInfinity (.at x) = cnt l x + rho l x := by unfold countByChain cnt; omega
      rw [this]
      omega
    · unfold multiplicityByChains at h2 ⊢
      rw [List.map_cons, List.map_cons, List.sum_cons, ← h2, List.filter_cons, chain_head hl]
      unfold rho
      by_cases z : evaluate (squarefree l) x = 0
      · rw [if_pos (by simpa using z), if_pos z, List.length_cons]; omega
      · rw [if_neg (by simpa using z), if_neg z]; omega
theorem cb_is {x : Rat} {ls : List (List Rat)} (h : ∀ l ∈ ls, Lr l) : countBelowByChains (ls.map sturmChain) x = (ls.map fun l => cnt l x).sum := by
  obtain ⟨h1, h2⟩ := below_is x ls h
  unfold countBelowByChains
  rw [h1, h2]
  omega
theorem sum_le {f g : List Rat → Nat} : ∀ ls : List (List Rat), (∀ l ∈ ls, f l ≤ g l) → (ls.map f).sum ≤ (ls.map g).sum
  | [], _ => Nat.le_refl _
  | l :: ls, h => by
    rw [List.map_cons, List.map_cons, List.sum_cons, List.sum_cons]
    exact Nat.add_le_add (h l (by simp)) (sum_le ls fun l hl => h l (by simp [hl]))
theorem cb_mono {x y : Rat} {ls : List (List Rat)} (h : ∀ l ∈ ls, Lr l) (hxy : x < y) : countBelowByChains (ls.map sturmChain) x ≤ countBelowByChains (ls.map sturmChain) y := by
  rw [cb_is h, cb_is h]
  exact sum_le ls fun l hl => cnt_mono (h l hl) hxy
/-- layers divide -/
theorem layers_dv : ∀ (n : Nat) (p : List Rat), Tr p → ∀ l ∈ multiplicityLayers n p, Lr l ∧ Dv (squarefree l) p := by
  intro n
  induction n with
  | zero => intro p _ l hl; simp [multiplicityLayers] at hl
  | succ n ih =>
    intro p hp l hl
    rw [multiplicityLayers] at hl
    by_cases c : p.length ≤ 1
    · rw [if_pos c] at hl; simp at hl
    · rw [if_neg c] at hl
      obtain ⟨g1, g2, g3, g4⟩ := gcd_der_len hp (by omega)
      rcases List.mem_cons.mp hl with rfl | hl
      · refine ⟨⟨hp, by omega⟩, ?_⟩
        unfold squarefree
        rw [if_neg c]
        refine ⟨Kqg1.gcd l (derivative l), fun t => ?_⟩
        rw [quot_mul hp g2 g3 g4, Rat.mul_comm]
      · obtain ⟨h1, h2⟩ := ih _ g2 l hl
        exact ⟨h1, h2.trans g4⟩
/-! ### far out -/
theorem left_all {l p : List Rat} (h : Lr l) (hp : Good p) (hd : Dv (squarefree l) p) {x : Rat} (hx : x ≤ -((rootBound p : Nat) : Rat)) : cnt l x = 0 := by
  obtain ⟨r, e, c, g⟩ := chain_is h.1 h.2
  obtain ⟨B, hB⟩ := changes_left _ g
  obtain ⟨t, t1, t2⟩ : ∃ t : Rat, t ≤ -B ∧ t ≤ x := by
    by_cases z : -B ≤ x
    · exact ⟨-B, Rat.le_refl, z⟩
    · exact ⟨x, by grind, Rat.le_refl⟩
  obtain ⟨d, d0, hf⟩ := factor_far hp hd (x := t) (y := x) (.inr hx)
  have s := sturm_same c t2 d0 hf
  have := hB t t1
  unfold cnt
  rw [this, changes_at, e, s]
  omega
theorem right_all {l p : List Rat} (h : Lr l) (hp : Good p) (hd : Dv (squarefree l) p) {x : Rat} (hx : ((rootBound p : Nat) : Rat) ≤ x) : cnt l x = countByChain (sturmChain l) .minusInfinity .plusInfinity := by
  obtain ⟨r, e, c, g⟩ := chain_is h.1 h.2
  obtain ⟨B, hB⟩ := changes_right _ g
  obtain ⟨t, t1, t2⟩ : ∃ t : Rat, B ≤ t ∧ x ≤ t := by
    by_cases z : x ≤ B
    · exact ⟨B, Rat.le_refl, z⟩
    · exact ⟨x, by grind, Rat.le_refl⟩
  obtain ⟨d, d0, hf⟩ := factor_far hp hd (x := x) (y := t) (.inl hx)
  have s := sturm_same c t2 d0 hf
  have h1 := hB t t1
  have h0 : rho l x = 0 := by
    unfold rho
    rw [if_neg fun z => ?_]
    have := hf x Rat.le_refl t2
    unfold Far at this
    rw [z] at this
    grind
  unfold cnt countByChain
  rw [h0, h1, changes_at, e, s]
  omega
theorem map_eq {f g : List Rat → Nat} {ls : List (List Rat)} (h : ∀ l ∈ ls, f l = g l) : ls.map f = ls.map g := List.map_congr_left h
/-! ### the program's count -/
def icb (P : List Int) (n d : Int) : Int := (((ilayers P.length P).map ichain).map fun c => ((ichanges c (-1) 0 : Nat) : Int) - ((ichanges c n d : Nat) : Int) - (if sval (c.headD []) n d = 0 then 1 else 0)).sum
theorem ichain_head (p : List Int) : (ichain p).headD [] = p := by
  unfold ichain
  rw [ichainL]
  split <;> rfl
theorem lay_cb {n d : Int} (hd : 0 < d) : ∀ (ps : List (List Int)) (ls : List (List Rat)), Lay ps ls → ((ps.map ichain).map fun c => ((ichanges c (-1) 0 : Nat) : Int) - ((ichanges c n d : Nat) : Int) - (if sval (c.headD []) n d = 0 then 1 else 0)).sum = (((ls.map fun l => cnt l ((n : Rat) / (d : Rat))).sum : Nat) : Int)
  | [], [], _ => rfl
  | p :: ps, l :: ls, h => by
    obtain ⟨⟨h1, h2, c, r⟩, h3⟩ := h
    have ih := lay_cb (n := n) hd ps ls h3
    rw [List.map_cons, List.map_cons, List.sum_cons, ih, List.map_cons, List.sum_cons]
    obtain ⟨_, _, _, g⟩ := chain_is h1 h2
    have ch := ch_sturm r
    have e1 := changes_is r.ne ch g (n := -1) (d := 0) (t := .minusInfinity) ⟨rfl, rfl⟩
    have e2 := changes_is r.ne ch g (n := n) (d := d) (t := .at ((n : Rat) / (d : Rat))) ⟨hd, rfl⟩
    rw [e1, e2, ichain_head]
    have e3 : (if sval p n d = 0 then (1 : Int) else 0) = ((rho l ((n : Rat) / (d : Rat)) : Nat) : Int) := by
      obtain ⟨k, k0, e2⟩ := sval_pos hd p n
      rw [r.ev] at e2
      unfold rho
      have iff : sval p n d = 0 ↔ evaluate (squarefree l) ((n : Rat) / (d : Rat)) = 0 := by
        rw [← cast_zero_iff, e2]
        constructor
        · intro z
          rcases Rat.mul_eq_zero.mp z with z | z
          · grind
          · rcases Rat.mul_eq_zero.mp z with z | z
            · exact absurd z r.ne
            · exact z
        · intro z; rw [z]; grind
      by_cases z : sval p n d = 0
      · rw [if_pos z, if_pos (iff.mp z)]; rfl
      · rw [if_neg z, if_neg fun y => z (iff.mpr y)]; rfl
    rw [e3]
    have := rho_le ⟨h1, h2⟩ ((n : Rat) / (d : Rat))
    unfold cnt
    omega
  | [], _ :: _, h => h.elim
  | _ :: _, [], h => h.elim
section
variable {c : Rat} {P : List Int} {L : List Rat}
theorem chains_are (L : List Rat) : layerChains L = (multiplicityLayers L.length L).map sturmChain := rfl
theorem icb_is (h : Rl c P L) {n d : Int} (hd : 0 < d) : icb P n d = ((countBelowByChains (layerChains L) ((n : Rat) / (d : Rat)) : Nat) : Int) := by
  have lay := lay_is P.length L.length P L c h (by rw [h.len]; exact Nat.le_refl _) (Nat.le_refl _)
  unfold icb
  rw [lay_cb hd _ _ lay, chains_are, cb_is fun l hl => (layers_dv _ _ h.tr l hl).1]
/-! ### the floor -/
theorem threshold {f : Int → Prop} (mono : ∀ a b : Int, a < b → f b → f a) : ∀ (n : Nat) (lo hi : Int), hi - lo ≤ n → f lo → ¬ f hi → ∃ B, lo ≤ B ∧ B < hi ∧ ∀ m, f m ↔ m ≤ B := by
  intro n
  induction n with
  | zero =>
    intro lo hi h1 h2 h3
    exfalso
    by_cases e : hi = lo
    · exact h3 (by rw [e]; exact h2)
    · exact h3 (mono hi lo (by omega) h2)
  | succ n ih =>
    intro lo hi h1 h2 h3
    by_cases d : f (lo + 1)
    · obtain ⟨B, b1, b2, b3⟩ := ih (lo + 1) hi (by omega) d h3
      exact ⟨B, by omega, b2, b3⟩
    · refine ⟨lo, Int.le_refl _, ?_, fun m => ⟨fun hm => ?_, fun hm => ?_⟩⟩
      · refine Classical.byContradiction fun z => h3 ?_
        by_cases e : hi = lo
        · rw [e]; exact h2
        · exact mono hi lo (by omega) h2
      · refine Classical.byContradiction fun z => d ?_
        by_cases e : m = lo + 1
        · rw [← e]; exact hm
        · exact mono (lo + 1) m (by omega) hm
      · by_cases e : m = lo
        · rw [e]; exact h2
        · exact mono m lo (by omega) h2
theorem div_lt_cast {a b D : Int} (hD : 0 < D) (h : a < b) : (a : Rat) / (D : Rat) < (b : Rat) / (D : Rat) := by
  have d0 : (0 : Rat) < (D : Rat) := Rat.intCast_pos.mpr hD
  have h1 : (a : Rat) / (D : Rat) * (D : Rat) = (a : Rat) := Rat.div_mul_cancel (by grind)
  have h2 : (b : Rat) / (D : Rat) * (D : Rat) = (b : Rat) := Rat.div_mul_cancel (by grind)
  refine Rat.not_le.mp fun z => ?_
  have := Rat.mul_le_mul_of_nonneg_right z (Rat.le_of_lt d0)
  rw [h1, h2] at this
  have := Rat.intCast_le_intCast.mp this
  omega
theorem floor_is (h : Rl c P L) (hn : P ≠ []) {k bits : Nat} (hk : k < countRoots L .minusInfinity .plusInfinity) :
    -(((rootBound L * 2 ^ bits : Nat)) : Int) ≤ rootFloor L k bits ∧ rootFloor L k bits < ((rootBound L * 2 ^ bits : Nat) : Int) ∧ ∀ m : Int, icb P m ((2 ^ bits : Nat) : Int) ≤ (k : Int) ↔ m ≤ rootFloor L k bits := by
  have hL : Good L := ⟨h.tr, fun z => hn (h.nil.mpr z)⟩
  have lay := fun l hl => layers_dv L.length L h.tr l hl
  have D0 : (0 : Int) < ((2 ^ bits : Nat) : Int) := by have := Nat.pow_pos (n := bits) (show 0 < 2 by decide); omega
  have dr : ((((2 ^ bits : Nat) : Int)) : Rat) ≠ 0 := by have := Rat.intCast_pos.mpr D0; grind
  have mul_div : ∀ b : Int, ((b * ((2 ^ bits : Nat) : Int) : Int) : Rat) / ((((2 ^ bits : Nat) : Int)) : Rat) = (b : Rat) := fun b => by
    rw [cast_mul]
    have := Rat.mul_inv_cancel _ dr
    rw [Rat.div_def]
    grind
  have mono : ∀ a b : Int, a < b → icb P b ((2 ^ bits : Nat) : Int) ≤ (k : Int) → icb P a ((2 ^ bits : Nat) : Int) ≤ (k : Int) := by
    intro a b hab hb
    rw [icb_is h D0] at hb ⊢
    have := cb_mono (fun l hl => (lay l hl).1) (div_lt_cast D0 hab)
    rw [← chains_are] at this
    omega
  have lo : icb P (-(((rootBound L * 2 ^ bits : Nat)) : Int)) ((2 ^ bits : Nat) : Int) ≤ (k : Int) := by
    rw [icb_is h D0, chains_are, cb_is fun l hl => (lay l hl).1]
    have e : ((-(((rootBound L * 2 ^ bits : Nat)) : Int) : Int) : Rat) / ((((2 ^ bits : Nat) : Int)) : Rat) = -((rootBound L : Nat) : Rat) := by
      have := mul_div (-((rootBound L : Nat) : Int))
      rw [show -(((rootBound L * 2 ^ bits : Nat)) : Int) = -((rootBound L : Nat) : Int) * ((2 ^ bits : Nat) : Int) by rw [Int.natCast_mul, Int.neg_mul], this, Rat.intCast_neg]
      rfl
    rw [e, map_eq (g := fun _ => 0) fun l hl => left_all (lay l hl).1 hL (lay l hl).2 Rat.le_refl]
    have z : ∀ ls : List (List Rat), (ls.map fun _ => 0).sum = 0 := fun ls => by induction ls with
      | nil => rfl
      | cons l ls ih => rw [List.map_cons, List.sum_cons, ih]
    rw [z]
    omega
  have hi : ¬ icb P (((rootBound L * 2 ^ bits : Nat)) : Int) ((2 ^ bits : Nat) : Int) ≤ (k : Int) := by
    rw [icb_is h D0, chains_are, cb_is fun l hl => (lay l hl).1]
    have e : ((((rootBound L * 2 ^ bits : Nat)) : Int) : Rat) / ((((2 ^ bits : Nat) : Int)) : Rat) = ((rootBound L : Nat) : Rat) := by
      have := mul_div ((rootBound L : Nat) : Int)
      rw [Int.natCast_mul, this]
      rfl
    rw [e, map_eq (g := fun l => countByChain (sturmChain l) .minusInfinity .plusInfinity) fun l hl => right_all (lay l hl).1 hL (lay l hl).2 Rat.le_refl]
    have : countRoots L .minusInfinity .plusInfinity = ((multiplicityLayers L.length L).map fun l => countByChain (sturmChain l) .minusInfinity .plusInfinity).sum := by
      unfold countRoots countByChains layerChains
      rw [fold_sum, List.map_map, Nat.zero_add]
      rfl
    intro hle
    rw [this] at hk
    exact absurd (Int.ofNat_le.mp hle) (Nat.not_le.mpr hk)
  obtain ⟨B, b1, b2, b3⟩ := threshold (f := fun m => icb P m ((2 ^ bits : Nat) : Int) ≤ (k : Int)) mono (2 * (rootBound L * 2 ^ bits)) _ _ (by omega) lo hi
  have e : rootFloor L k bits = B := by
    unfold rootFloor rootFloorByChains
    refine bisect_is (fun m => ?_) _ _ _ ?_ ?_ ?_
    · rw [decide_eq_true_iff, ← b3 m, icb_is h D0]
      unfold dyadic
      rw [show ((2 ^ bits : Nat) : Rat) = (((2 ^ bits : Nat) : Int) : Rat) from rfl]
      omega
    · omega
    · omega
    · have h2 := Nat.lt_log2_self (n := 2 * (rootBound L * 2 ^ bits + 1))
      have h3 : 2 ^ ((2 * (rootBound L * 2 ^ bits + 1)).log2 + 1) ≤ 2 ^ ((2 * (rootBound L * 2 ^ bits + 1)).log2 + 2) := Nat.pow_le_pow_right (by decide) (by omega)
      omega
  rw [e]
  exact ⟨b1, b2, b3⟩
end
end RcQ

/-! ## RcR -/
open Kqg1 RcA RcB RcC RcE RcF RcG RcH RcI RcJ RcK
namespace RcR
/-! ### with a positive last coefficient -/
def ipos (P : List Int) : List Int := if ilast P > 0 then P else P.map fun c => -c
theorem ilast_neg (P : List Int) : ilast (P.map fun c => -c) = -ilast P := by
  rcases List.eq_nil_or_concat P with rfl | ⟨q, c, rfl⟩
  · rfl
  · rw [List.concat_eq_append, List.map_append]
    simp [ilast]
section
variable {c : Rat} {P : List Int} {L : List Rat}
theorem rl_pos (h : Rl c P L) (hn : P ≠ []) : (∃ e, Rl e (ipos P) L) ∧ 0 < ilast (ipos P) ∧ ipos P ≠ [] ∧ (ipos P).length = P.length := by
  have l0 := h.last_ne hn
  unfold ipos
  by_cases g : ilast P > 0
  · rw [if_pos g]
    exact ⟨⟨c, h⟩, g, hn, rfl⟩
  · rw [if_neg g]
    refine ⟨⟨-c, by have := h.ne; grind, h.tr, ?_⟩, by rw [ilast_neg]; omega, by simpa using hn, List.length_map _⟩
    have : toR (P.map fun c => -c) = (toR P).map fun x => -x := by
      unfold toR
      rw [List.map_map, List.map_map]
      exact List.map_congr_left fun x _ => Rat.intCast_neg x
    rw [this, h.eq, List.map_map]
    refine List.map_congr_left fun x _ => ?_
    show -(c * x) = -c * x
    grind
/-- the monic list, as fractions over the last coefficient -/
theorem monic_list (h : Rl c P L) (hn : P ≠ []) : (itrim (ipos P)).map (fun (z : Int) => (z : Rat) / ((ilast (ipos P) : Int) : Rat)) = monic L := by
  obtain ⟨⟨e, r⟩, lp, pn, pl⟩ := rl_pos h hn
  have hL : L ≠ [] := fun z => hn (h.nil.mpr z)
  have mt := (monic_is h.tr hL).1
  rw [set_is _ lp]
  refine cf_ext (tr_trim _) mt fun i => ?_
  rw [cf_trim]
  have l0 := RcP.lead_ne r pn
  have cm := RcP.cf_monic r pn i
  have : coefficient ((ipos P).map fun (x : Int) => (x : Rat) / ((ilast (ipos P) : Int) : Rat)) i = (ic (ipos P) i : Rat) / ((ilast (ipos P) : Int) : Rat) := by
    by_cases hi : i < (ipos P).length
    · rw [cf_lt _ _ (by rw [List.length_map]; exact hi), List.getElem_map, ic_lt _ _ hi]
    · rw [cf_ge _ _ (by rw [List.length_map]; omega), ic_ge _ _ (by omega), Rat.div_def]
      show (0 : Rat) = 0 * _
      grind
  rw [this, ← cm]
  have := Rat.mul_inv_cancel _ l0
  rw [Rat.div_def]
  grind
theorem monic_one {L : List Rat} (h : Tr L) (hn : L ≠ []) (h1 : leadingCoefficient L = 1) : monic L = L := by
  refine cf_ext (monic_is h hn).1 h fun i => ?_
  rw [monic, if_neg hn, cf_scale, h1, Rat.div_def]
  have : (1 : Rat) * (1 : Rat)⁻¹ = 1 := Rat.mul_inv_cancel _ (by decide)
  grind
theorem gcd_list {e : Rat} {Q : List Int} {M : List Rat} (h : Rl c P L) (g : Rl e Q M) (hn : P ≠ []) : igcd P Q ≠ [] ∧ (itrim (ipos (igcd P Q))).map (fun (z : Int) => (z : Rat) / ((ilast (ipos (igcd P Q)) : Int) : Rat)) = Kqg1.gcd L M := by
  have hL : L ≠ [] := fun z => hn (h.nil.mpr z)
  obtain ⟨_, k, r⟩ := rl_gcd h g (.inl hL)
  obtain ⟨a1, a2, a3, _⟩ := gcd_is h.tr g.tr (.inl hL)
  have pn : igcd P Q ≠ [] := fun z => a2 (r.nil.mp z)
  exact ⟨pn, by rw [monic_list r pn, monic_one a1 a2 a3]⟩
/-! ### the squarefree part -/
def isqf (P : List Int) : List Int := iquot P (igcd P (ider P))
theorem sqf_rl (h : Rl c P L) (hn : P ≠ []) : ∃ k, Rl k (isqf P) (squarefree L) := by
  have hL : L ≠ [] := fun z => hn (h.nil.mpr z)
  by_cases h2 : 2 ≤ L.length
  · exact (rl_layer h h2).2.2.1
  · have l1 : L.length = 1 := by have := List.length_pos_iff.mpr hL; omega
    have p1 : P.length = 1 := by rw [h.len, l1]
    obtain ⟨z, rfl⟩ : ∃ z, P = [z] := by
      match P, p1 with
      | [z], _ => exact ⟨z, rfl⟩
    have z0 : z ≠ 0 := h.last_ne hn
    have e1 : ider [z] = [] := rfl
    have hsq : squarefree L = L := by unfold squarefree; rw [if_pos (by omega)]
    obtain ⟨pr, k, r⟩ := rl_gcd h (rl_der h) (.inl hL)
    have gd := gcd_is h.tr (tr_derivative L) (.inl hL)
    have q := (rl_quot pr h r hL gd.2.2.2.1).1
    rw [hsq]
    have : ∃ d, Rl d (isqf [z]) L := by
      have g1 : (Kqg1.gcd L (derivative L)).length = 1 := by
        obtain ⟨_, a, _, ha, _, l⟩ := gd.2.2.2.1.len gd.1 h.tr hL
        have := List.length_pos_iff.mpr ha
        have := List.length_pos_iff.mpr gd.2.1
        omega
      have g2 : Kqg1.gcd L (derivative L) = [1] := by
        match e : Kqg1.gcd L (derivative L), g1 with
        | [x], _ =>
          have := gd.2.2.1
          rw [e] at this
          exact congrArg (fun y => [y]) this
      have qe : quotient L (Kqg1.gcd L (derivative L)) = L := by
        have hm := quot_mul h.tr gd.1 gd.2.1 gd.2.2.2.1
        rw [g2] at hm
        rw [g2]
        have tq : Tr (quotient L [1]) := by have := q.tr; rw [g2] at this; exact this
        refine (eq_of_ev h.tr tq fun t => ?_).symm
        rw [hm, ev_cons, ev_nil]
        grind
      rw [qe] at q
      exact ⟨_, q⟩
    exact this
/-! ### derivative and product of fractions -/
theorem der_list {q : List Rat} (h : Tr q) : (itrim (ider (wm q))).map (fun (z : Int) => (z : Rat) / (((cden q : Nat) : Int) : Rat)) = derivative q := by
  have d0 : (0 : Int) < ((cden q : Nat) : Int) := by have := cden_pos q; omega
  have r := rl_der (rl_wm h)
  rw [set_is _ d0]
  refine cf_ext (tr_trim _) (tr_derivative q) fun i => ?_
  have n0 := r.ne
  have e := r.ic i
  rw [cf_trim]
  have : coefficient ((ider (wm q)).map fun (x : Int) => (x : Rat) / (((cden q : Nat) : Int) : Rat)) i = (ic (ider (wm q)) i : Rat) / (((cden q : Nat) : Int) : Rat) := by
    by_cases hi : i < (ider (wm q)).length
    · rw [cf_lt _ _ (by rw [List.length_map]; exact hi), List.getElem_map, ic_lt _ _ hi]
    · rw [cf_ge _ _ (by rw [List.length_map]; omega), ic_ge _ _ (by omega), Rat.div_def]
      show (0 : Rat) = 0 * _
      grind
  rw [this, e]
  show ((cden q : Nat) : Rat) * coefficient (derivative q) i / ((cden q : Nat) : Rat) = _
  have := Rat.mul_inv_cancel _ n0
  rw [Rat.div_def]
  grind
/-- the product's coefficients -/
def iprod (P Q : List Int) : List Int := (List.range (P.length + Q.length - 1)).map fun i => RcP.isumTo (fun j => ic P j * ic Q (i - j)) (i + 1)
theorem ic_iprod {P Q : List Int} (hp : P ≠ []) (hq : Q ≠ []) (i : Nat) : (ic (iprod P Q) i : Rat) = conv (toR P) (toR Q) i := by
  have pl := List.length_pos_iff.mpr hp
  have ql := List.length_pos_iff.mpr hq
  have e : ((RcP.isumTo (fun j => ic P j * ic Q (i - j)) (i + 1) : Int) : Rat) = conv (toR P) (toR Q) i := by
    rw [RcP.isum_cast]
    refine sum_congr fun j _ => ?_
    rw [cast_mul, cf_toR, cf_toR]
  by_cases hi : i < P.length + Q.length - 1
  · rw [ic_lt _ _ (by simp [iprod]; exact hi)]
    unfold iprod
    rw [List.getElem_map, List.getElem_range, e]
  · rw [ic_ge _ _ (by simp [iprod]; omega)]
    show (0 : Rat) = _
    unfold conv
    refine (sum_zero _ _ fun j hj => ?_).symm
    by_cases hjp : j < P.length
    · rw [cf_ge (toR Q) _ (by rw [toR_len]; omega)]; grind
    · rw [cf_ge (toR P) _ (by rw [toR_len]; omega)]; grind
theorem conv_scale (a b : Rat) (p q : List Rat) (i : Nat) : conv (p.map fun x => a * x) (q.map fun x => b * x) i = a * b * conv p q i := by
  unfold conv
  rw [← RcN.sum_mul]
  refine sum_congr fun j _ => ?_
  rw [cf_map, cf_map]
  grind
theorem prod_list {p q : List Rat} (hp : Tr p) (hq : Tr q) (h1 : p ≠ []) (h2 : q ≠ []) : (itrim (iprod (wm p) (wm q))).map (fun (z : Int) => (z : Rat) / ((((cden p : Nat) : Int) * ((cden q : Nat) : Int) : Int) : Rat)) = multiply p q := by
  have c1 := cden_pos p
  have c2 := cden_pos q
  have r1 := rl_wm hp
  have r2 := rl_wm hq
  have w1 : wm p ≠ [] := fun z => h1 (r1.nil.mp z)
  have w2 : wm q ≠ [] := fun z => h2 (r2.nil.mp z)
  have d0 : (0 : Int) < ((cden p : Nat) : Int) * ((cden q : Nat) : Int) := Int.mul_pos (by omega) (by omega)
  rw [set_is _ d0]
  refine cf_ext (tr_trim _) (tr_multiply p q) fun i => ?_
  rw [cf_trim, cf_multiply]
  have : coefficient ((iprod (wm p) (wm q)).map fun (x : Int) => (x : Rat) / ((((cden p : Nat) : Int) * ((cden q : Nat) : Int) : Int) : Rat)) i = (ic (iprod (wm p) (wm q)) i : Rat) / ((((cden p : Nat) : Int) * ((cden q : Nat) : Int) : Int) : Rat) := by
    by_cases hi : i < (iprod (wm p) (wm q)).length
    · rw [cf_lt _ _ (by rw [List.length_map]; exact hi), List.getElem_map, ic_lt _ _ hi]
    · rw [cf_ge _ _ (by rw [List.length_map]; omega), ic_ge _ _ (by omega), Rat.div_def]
      show (0 : Rat) = 0 * _
      grind
  rw [this, ic_iprod w1 w2, r1.eq, r2.eq, conv_scale, cast_mul]
  have n1 := r1.ne
  have n2 := r2.ne
  show ((cden p : Nat) : Rat) * ((cden q : Nat) : Rat) * conv p q i / (((cden p : Nat) : Rat) * ((cden q : Nat) : Rat)) = _
  have n12 : ((cden p : Nat) : Rat) * ((cden q : Nat) : Rat) ≠ 0 := by
    intro z
    rcases Rat.mul_eq_zero.mp z with z | z
    · exact n1 z
    · exact n2 z
  have := Rat.mul_inv_cancel _ n12
  rw [Rat.div_def]
  grind
end
end RcR

/-! ## RcS -/
open Kqg1 RcA RcM RcN RcO RcF RcG
namespace RcS
/-! ### the program's inertia -/
abbrev IMat := Nat → Nat → Int
structure IS (n0 : Nat) (M0 : Mat) (n : Nat) (N : IMat) (l : Int) (ps ng : Nat) : Prop where
  ex : ∃ (k : Nat) (f : Mat), (∀ r c, ∃ z : Int, f r c = (z : Rat)) ∧ pp k f = (l : Rat) ∧ l ≠ 0 ∧ (∀ r c, r < n → c < n → (N r c : Rat) = (l : Rat) * el k f r c) ∧ Sym n (el k f) ∧ ∀ p q, El n (el k f) p q → El n0 M0 (ps + p) (ng + q)
theorem is_start {n : Nat} {N : IMat} (hs : ∀ r c, r < n → c < n → N r c = N c r) : IS n (fun r c => (N r c : Rat)) n N 1 0 0 := by
  refine ⟨0, fun r c => (N r c : Rat), fun r c => ⟨_, rfl⟩, rfl, by decide, fun r c _ _ => ?_, fun r c hr hc => ?_, fun p q h => ?_⟩
  · show (N r c : Rat) = ((1 : Int) : Rat) * (N r c : Rat)
    grind
  · show (N r c : Rat) = (N c r : Rat)
    rw [hs r c hr hc]
  · rw [Nat.zero_add, Nat.zero_add]; exact h
def iadd (i j : Nat) (N : IMat) : IMat := fun r c => (N r c + if r = i then N j c else 0) + if c = i then N r j + (if r = i then N j j else 0) else 0
theorem is_add {n0 : Nat} {M0 : Mat} {n : Nat} {N : IMat} {l : Int} {ps ng i j : Nat} (h : IS n0 M0 n N l ps ng) (hi : i < n) (hj : j < n) (hij : i ≠ j) : IS n0 M0 n (iadd i j N) l ps ng := by
  obtain ⟨k, f, h1, h2, h3, h4, h5, h6⟩ := h.ex
  obtain ⟨b1, b2⟩ := both_el k (fun _ => ((1 : Int) : Rat)) (fun r => ((if r = i then (1 : Int) else 0 : Int) : Rat)) (fun r => r) (fun _ => j) f
  have e : ∀ r c, el k (both k (fun _ => ((1 : Int) : Rat)) (fun r => ((if r = i then (1 : Int) else 0 : Int) : Rat)) (fun r => r) (fun _ => j) f) r c = addm i j (el k f) r c := by
    intro r c
    rw [b2]
    unfold addm
    by_cases a : r = i <;> by_cases b : c = i
    · simp only [if_pos a, if_pos b]; grind
    · simp only [if_pos a, if_neg b]; grind
    · simp only [if_neg a, if_pos b]; grind
    · simp only [if_neg a, if_neg b]; grind
  have e' : el k (both k (fun _ => ((1 : Int) : Rat)) (fun r => ((if r = i then (1 : Int) else 0 : Int) : Rat)) (fun r => r) (fun _ => j) f) = addm i j (el k f) := funext fun r => funext fun c => e r c
  refine ⟨k, _, both_int (al := fun _ => 1) (be := fun r => if r = i then 1 else 0) h1, by rw [b1]; exact h2, h3, fun r c hr hc => ?_, by rw [e']; exact sym_add hi hj h5, fun p q hp => h6 p q (.add i j hi hj hij (by rw [← e']; exact hp))⟩
  rw [e]
  unfold iadd addm
  have x1 := h4 r c hr hc
  have x2 := h4 j c hj hc
  have x3 := h4 r j hr hj
  have x4 := h4 j j hj hj
  by_cases a : r = i <;> by_cases b : c = i
  · simp only [if_pos a, if_pos b]; grind
  · simp only [if_pos a, if_neg b]; grind
  · simp only [if_neg a, if_pos b]; grind
  · simp only [if_neg a, if_neg b]; grind
def ired (i : Nat) (N : IMat) (l : Int) : IMat := fun r c => (N i i * N (up i r) (up i c) - N (up i r) i * N i (up i c)).fdiv l
def front (i : Nat) (r : Nat) : Nat := if r = 0 then i else up i (r - 1)
theorem is_step {n0 : Nat} {M0 : Mat} {n : Nat} {N : IMat} {l : Int} {ps ng i : Nat} (h : IS n0 M0 (n + 1) N l ps ng) (hi : i < n + 1) (hp : N i i ≠ 0) :
    (0 < N i i * l → IS n0 M0 n (ired i N l) (N i i) (ps + 1) ng) ∧ (¬ 0 < N i i * l → IS n0 M0 n (ired i N l) (N i i) ps (ng + 1)) := by
  obtain ⟨k, f, h1, h2, h3, h4, h5, h6⟩ := h.ex
  have l0 : (l : Rat) ≠ 0 := fun z => h3 (cast_zero_iff.mp z)
  obtain ⟨b1, b2⟩ := both_el k (fun _ => ((1 : Int) : Rat)) (fun _ => ((0 : Int) : Rat)) (front i) (fun r => r) f
  have hint := both_int (k := k) (al := fun _ => 1) (be := fun _ => 0) (s := front i) (t := fun r => r) h1
  generalize both k (fun _ => ((1 : Int) : Rat)) (fun _ => ((0 : Int) : Rat)) (front i) (fun r => r) f = g at b1 b2 hint
  have eg : ∀ r c, el k g r c = el k f (front i r) (front i c) := fun r c => by rw [b2]; grind
  have pe : (N i i : Rat) = (l : Rat) * el k f i i := h4 i i hi hi
  have p0 : el k f i i ≠ 0 := fun z => hp (cast_zero_iff.mp (by rw [pe, z]; grind))
  have e1 : el (k + 1) g = piv i (el k f) := by
    rw [el_last]
    funext r c
    show el k g (r + 1) (c + 1) - el k g (r + 1) 0 * (el k g 0 (c + 1) / el k g 0 0) = _
    rw [eg, eg, eg, eg]
    show el k f (up i r) (up i c) - el k f (up i r) i * (el k f i (up i c) / el k f i i) = el k f (up i r) (up i c) - el k f (up i r) i * el k f i (up i c) / el k f i i
    rw [Rat.div_def, Rat.div_def]
    grind
  have e2 : pp (k + 1) g = (N i i : Rat) := by
    rw [pp_last, b1, h2, eg, pe]
    rfl
  have pz : pp (k + 1) g ≠ 0 := by rw [e2]; exact fun z => hp (cast_zero_iff.mp z)
  have e3 : ∀ r c, r < n → c < n → (ired i N l r c : Rat) = (N i i : Rat) * el (k + 1) g r c := by
    intro r c hr hc
    obtain ⟨z, hz⟩ := bareiss hint pz r c
    rw [e2] at hz
    have x1 := h4 _ _ (up_lt (i := i) hr) (up_lt (i := i) hc)
    have x2 := h4 _ _ (up_lt (i := i) hr) hi
    have x3 := h4 _ _ hi (up_lt (i := i) hc)
    have ez : N i i * N (up i r) (up i c) - N (up i r) i * N i (up i c) = l * z := by
      refine cast_inj ?_
      have : ((l * z : Int) : Rat) = (l : Rat) * ((N i i : Rat) * el (k + 1) g r c) := by rw [cast_mul, hz]
      rw [this, e1]
      show ((N i i * N (up i r) (up i c) - N (up i r) i * N i (up i c) : Int) : Rat) = (l : Rat) * ((N i i : Rat) * (el k f (up i r) (up i c) - el k f (up i r) i * el k f i (up i c) / el k f i i))
      have y : ((N i i * N (up i r) (up i c) - N (up i r) i * N i (up i c) : Int) : Rat) = (N i i : Rat) * (N (up i r) (up i c) : Rat) - (N (up i r) i : Rat) * (N i (up i c) : Rat) := by grind
      rw [y, x1, x2, x3, pe, Rat.div_def]
      have := Rat.mul_inv_cancel _ p0
      grind
    unfold ired
    rw [ez, Int.mul_fdiv_cancel_left z h3, hz]
  have sym : Sym n (el (k + 1) g) := by rw [e1]; exact sym_piv hi h5
  have sgn : 0 < N i i * l ↔ 0 < el k f i i := by
    rw [← Rat.intCast_pos, cast_mul, pe]
    have ll := sq_ps l0
    constructor
    · intro hpos
      refine Rat.not_le.mp fun hle => ?_
      have := Rat.mul_nonneg (a := (l : Rat) * (l : Rat)) (b := -el k f i i) (Rat.le_of_lt ll) (by grind)
      grind
    · intro hpos
      have := Rat.mul_pos ll hpos
      grind
  constructor
  · intro hpos
    refine ⟨k + 1, g, hint, e2, hp, e3, sym, fun p q hpq => ?_⟩
    have := h6 (p + 1) q (.pos i hi (sgn.mp hpos) (by rw [← e1]; exact hpq))
    rwa [show ps + 1 + p = ps + (p + 1) by omega]
  · intro hneg
    refine ⟨k + 1, g, hint, e2, hp, e3, sym, fun p q hpq => ?_⟩
    have ng0 : el k f i i < 0 := by
      have : ¬ 0 < el k f i i := fun z => hneg (sgn.mpr z)
      grind
    have := h6 p (q + 1) (.neg i hi ng0 (by rw [← e1]; exact hpq))
    rwa [show ng + 1 + q = ng + (q + 1) by omega]
theorem is_end {n0 : Nat} {M0 : Mat} {n : Nat} {N : IMat} {l : Int} {ps ng : Nat} (h : IS n0 M0 n N l ps ng) (hz : ∀ r c, r < n → c < n → N r c = 0) : El n0 M0 ps ng := by
  obtain ⟨k, f, h1, h2, h3, h4, h5, h6⟩ := h.ex
  have l0 : (l : Rat) ≠ 0 := fun z => h3 (cast_zero_iff.mp z)
  exact h6 0 0 (.zero fun r c hr hc => by
    have := h4 r c hr hc
    rw [hz r c hr hc] at this
    rcases Rat.mul_eq_zero.mp this.symm with z | z
    · exact absurd z l0
    · exact z)
theorem is_sym {n0 : Nat} {M0 : Mat} {n : Nat} {N : IMat} {l : Int} {ps ng : Nat} (h : IS n0 M0 n N l ps ng) : ∀ r c, r < n → c < n → N r c = N c r := by
  obtain ⟨k, f, h1, h2, h3, h4, h5, h6⟩ := h.ex
  intro r c hr hc
  refine cast_inj ?_
  rw [h4 r c hr hc, h4 c r hc hr, h5 r c hr hc]
/-! ### Hermite's matrix -/
theorem hermite_is {c : Rat} {P : List Int} {L : List Rat} (h : Rl c P L) (hn : P ≠ []) {ps ng : Nat} (k : El (P.length - 1) (fun r c => (((RcP.isums P (2 * (P.length - 1) - 2)).getD (r + c) 0 : Int) : Rat)) ps ng) :
    inertia (2 * degree L + 1) (hermiteMatrix L) = (ps, ng) := by
  have hd : degree L = P.length - 1 := by unfold degree; rw [h.len]
  rw [← hd] at k
  have sy : ∀ n : Nat, ∀ F : Nat → Rat, Sym n fun r c => F (r + c) := fun n F r c _ _ => by show F (r + c) = F (c + r); rw [Nat.add_comm]
  have l0 := RcP.lead_ne h hn
  have g1 := el_sig k fun r c _ _ => by show (((RcP.isums P _).getD (r + c) 0 : Int) : Rat) = (((RcP.isums P _).getD (c + r) 0 : Int) : Rat); rw [Nat.add_comm]
  have same : qf (degree L) (fun r c => (((RcP.isums P (2 * degree L - 2)).getD (r + c) 0 : Int) : Rat)) = qf (degree L) fun r c => (ilast P : Rat) ^ r * (ilast P : Rat) ^ c * (powerSums L (2 * degree L)).getD (r + c) 0 := by
    refine qf_same fun r c hr hc => ?_
    rw [RcP.sums_is h hn _ _ (by omega), RcP.rpow_add, RcP.psums_take L (2 * degree L - 2) _ (2 * degree L) (by omega) (by omega)]
  rw [same] at g1
  have g2 := sig_scale (d := fun r => (ilast P : Rat) ^ r) (fun r => RcP.rpow_ne l0 r) g1
  have g3 := el_sig (spec_el (2 * degree L + 1) (degree L) (fun r c => (powerSums L (2 * degree L)).getD (r + c) 0) (sy _ fun i => (powerSums L (2 * degree L)).getD i 0) (.inl (by omega))) (sy _ fun i => (powerSums L (2 * degree L)).getD i 0)
  obtain ⟨e1, e2⟩ := sig_one g2 g3
  have : hermiteMatrix L = matrix (degree L) fun r c => (powerSums L (2 * degree L)).getD (r + c) 0 := rfl
  rw [this, e1, e2]
end RcS

/-! ## Hb -/
set_option maxHeartbeats 2000000
/-! Further rules: division by any number, products of great numbers. -/
namespace Rc
open PySem PySem.Spec PyProof.Rows L2
/-- the frame that runs is a plain def's -/
def Plain (X : Cx) : Prop := ∃ env l, X.stack = env :: l ∧ env.scope.isGenerator = false ∧ env.scope.isCoroutine = false ∧ env.builtins = builtinsNs ∧ env.globals = mainGlobals
/-- what the long divisions lean on -/
structure Ground0 (P : Program) (base : Heap) : Prop where
  seer : base.NoSeer
  tree : P.given.tree = none
section
variable {X : Cx}
theorem long_room (G : Ground0 X.prog X.base) (hp : Plain X) {k : Nat} (hr : Room k X.A) (hk : 40 ≤ k) {pins : List (Addr × Obj)} {σ : L2.St} {H : Hp} {s : Shared} (I : Inv X pins σ H s) : PySem.PylongRoom (model X.prog X.w) X.A s := by
  obtain ⟨env, l, e, g1, g2, g3, g4⟩ := hp
  have hf : X.A.frames = some (env :: l) := by rw [← e]; exact I.ok.frames
  refine PySem.PylongRoom.of I.nolimit ?_ (PySem.SeerAt.of (G.seer.keeps I.bk) G.tree hf g1 g2 g3 g4)
  have := hr.dp
  show X.A.depth + 100 < recursionLimit
  omega
/-- // by any number but 0 -/
theorem op_divX (G : Ground0 X.prog X.base) (hp : Plain X) {k : Nat} (hr : Room k X.A) (hk : 40 ≤ k := by decide) : OpR X (binaryOp .FloorDiv) (rI (fun _ j => j ≠ 0) fun i j => .int (i.fdiv j)) := by
  intro pins s σ H x y v u Q I rx ry h
  obtain ⟨i, j, rfl, rfl, hc, q⟩ := h
  obtain ⟨t, rfl⟩ := rx
  obtain ⟨t', rfl⟩ := ry
  exact PyProof.Rows.floordiv_int hc ⟨.int (i.fdiv j), H, I.tok _, ⟨_, rfl⟩, q⟩ (Or.inr (long_room G hp hr hk I))
/-- xs[i], by values: i not below 0 -/
def rGetL (K : PySem.W.Frag) : V → V → Hp → VK → Prop := fun x y H Q => ∃ (p : Addr) (xs : List V) (j : Nat) (v : V), x = .ref p ∧ y = .int (j : Int) ∧ SqL K H p xs ∧ xs[j]? = some v ∧ Q v H
theorem get_list : PGet X (rGetL X.K) := by
  intro pins s σ H o i ov iv Q I r1 r2 h
  obtain ⟨p, xs, j, z, rfl, rfl, hq, he, q⟩ := h
  cases r1
  obtain ⟨t, rfl⟩ := r2
  obtain ⟨its, r, pl, hz⟩ := I.list hq
  obtain ⟨w, ew, rw'⟩ := r.get he
  have hl := r.length
  have hn := line63
  have hj : j < xs.length := (List.getElem?_eq_some_iff.mp he).1
  exact wpAny_getItem_list pl.isList (by omega) (by omega) (by simpa using ew) ⟨z, H, I, rw', q⟩
theorem ip_mulX : PIp X .Mult (rI CMulX fun i j => .int (i * j)) := opI fun _ _ _ _ _ _ _ hc q => imul_int q hc.ok
end
end Rc

/-! ## Hc -/
set_option maxHeartbeats 2000000
namespace Rc
open PySem PySem.Spec PyProof.Rows L2 RcF RcG RcH RcI
def top (i : Nat) : Stmt := PySem.Challenge.pw_rootcounts_s01_answers.main.body.getD i (.Pass ⟨0, 0, 0, 0⟩)
/-- what every def leans on: the built-ins still stand -/
structure BI (P : Program) (mg : Str → Option Value) (base : Heap) : Prop where
  G : Ground0 P base
  abs : mg "abs" = none
  len : mg "len" = none
  list : mg "list" = none
  range : mg "range" = none
  enumerate : mg "enumerate" = none
  reversed : mg "reversed" = none
  sum : mg "sum" = none
  any : mg "any" = none
  max : mg "max" = none
  min : mg "min" = none
  zip : mg "zip" = none
/-- a def of the module, by its name -/
structure Dn (P : Program) (w : World) (K : PySem.W.Frag) (mg : Str → Option Value) (base : Heap) (x : Str) (k : Nat) (ps : List Str) (sp : Sp) : Prop where
  ex : ∃ (f : Addr) (fd : FuncData), mg x = some (.ref f) ∧ PySem.W.keepIn K (.ref f) = true ∧ Binds K fd ps [] ∧ FnOk P w K mg base CX0 k f fd ps sp
theorem pe_fn {X : Cx} {x : Str} {k : Nat} {ps : List Str} {sp : Sp} {e : Expr} {es : List Expr} {t : TA} {p pos : Pos} (D : Dn X.prog X.w X.K X.mg X.base x k ps sp) (hr : Room k X.A) (ha : PA X (e :: es) t) (hg : Gl X x := by rfl)
    (hdb : (x == ("__debug__" : Str)) = false := by decide) (he : starEach (e :: es) X.env = (false, eval e X.env) :: starEach es X.env := by rfl) (hpl : (backTo pos (starEach es X.env)).any (·.1) = false := by rfl) :
    PE X (.Call (.Name x p) (e :: es) [] pos) (tCall sp [] E0 t) := by
  obtain ⟨f, fd, h1, h2, h3, h4⟩ := D.ex
  exact pe_call h4 hr hg h1 h2 h3 .nil pass0 ha hdb he hpl
theorem if_true_of {c : Bool} {A B : Prop} (hc : c = true) (h : A) : if c = true then A else B := by
  rw [if_pos hc]
  exact h
theorem if_false_of {c : Bool} {A B : Prop} (hc : c = false) (h : B) : if c = true then A else B := by
  rw [hc, if_neg Bool.false_ne_true]
  exact h
abbrev LI (p : List Int) : List V := p.map V.int
theorem li_get {p : List Int} {i : Nat} {x : V} (h : (LI p)[i]? = some x) : ∃ z, p[i]? = some z ∧ x = .int z := by
  rw [List.getElem?_map] at h
  cases e : p[i]? with
  | none => rw [e] at h; cases h
  | some z => rw [e] at h; exact ⟨z, rfl, (Option.some.inj h).symm⟩
/-- a new list is handed back; what was tracked stands -/
def RetL (H : Hp) (Q : VK) (p : List Int) : Prop := ∀ (H' : Hp) (r : Addr), Same H H' → H r = none → H' r = some (.lst (LI p)) → Q (.ref r) H'
theorem same_new {H : Hp} {r : Addr} {o : HO} (hr : H r = none) : Same H (upd H r o) := fun b u e => by rw [upd_ne (ne_of_none e hr)]; exact e
theorem RetL.new {H : Hp} {Q : VK} {p : List Int} (k : RetL H Q p) {r : Addr} (hr : H r = none) : Q (.ref r) (upd H r (.lst (LI p))) := k _ r (same_new hr) hr upd_same
theorem RetL.later {H H1 : Hp} {Q : VK} {p : List Int} (k : RetL H Q p) (s : Same H H1) {H' : Hp} {r : Addr} (s' : Same H1 H') (hr : H1 r = none) (e : H' r = some (.lst (LI p))) : Q (.ref r) H' := k H' r (s.trans s') (s.free hr) e
theorem seq_lst {K : PySem.W.Frag} {H : Hp} {r : Addr} {xs : List V} (h : H r = some (.lst xs)) : SqL K H r xs := .inl (.inl h)
theorem li_snoc (p : List Int) (z : Int) : LI (p ++ [z]) = LI p ++ [.int z] := by simp [LI]
theorem same_upd {H H1 : Hp} {D : Addr} {o : HO} (s : Same H H1) (hD : H D = none) : Same H (upd H1 D o) := fun b u e => by rw [upd_ne (ne_of_none e hD)]; exact s b u e
theorem cutV_to (xs : List V) (n : Nat) (h : n ≤ xs.length) : cutV xs none (some (n : Int)) = xs.take n := by
  unfold cutV
  rw [HT.sIx_none, HT.sIx_nat, List.drop_zero, Nat.min_eq_left h]
  rfl
theorem cutV_from (xs : List V) (n : Nat) : cutV xs (some (n : Int)) none = xs.drop n := by
  unfold cutV
  rw [HT.sIx_none, HT.sIx_nat]
  by_cases h : n ≤ xs.length
  · rw [Nat.min_eq_left h, List.take_of_length_le]
    rw [List.length_drop]
    omega
  · rw [Nat.min_eq_right (by omega), Nat.sub_self, List.take_zero, List.drop_of_length_le (by omega)]
section
variable {P : Program} {w : World} {K : PySem.W.Frag} {mg : Str → Option Value} {base : Heap}
/-! ### common_divisor -/
abbrev sGcd : Stmt := top 25
theorem scGcd : FnScope ["first", "second", "rest"] ["first", "second"] (defScope sGcd) := ⟨rfl, rfl, rfl, by decide +kernel, rfl, by decide +kernel, by decide +kernel⟩
def spGcd : Sp := fun vs H Q _ => ∃ a b : Int, vs = [.int a, .int b] ∧ Q (.int (Int.gcd a b)) H
theorem ok_gcd {f : Addr} {fd : FuncData} (F : Fun K "common_divisor" "common_divisor" sGcd f fd) (B : BI P mg base) : FnOk P w K mg base CX0 1 f fd ["first", "second"] spGcd := by
  refine F.ok scGcd (fun vs H Q E h => ?_) (fun cdv A outer s H vs Q E hr h => ⟨_, pss_cons (ps_set (i := 0) scGcd.nd rfl (Or.inl rfl) (pe_callB call_abs (by rfl) B.abs (by decide +kernel) (pa_cons (pv 0) pa_nil)))
    (pss_cons (ps_set (i := 1) scGcd.nd rfl (Or.inl rfl) (pe_callB call_abs (by rfl) B.abs (by decide +kernel) (pa_cons (pv 1) pa_nil)))
    (pss_cons (ps_while PassesOwn.never (pt_cmpR op_ne (pv 1) pe_int (nomark _))
      (pss_cons (ps_set (i := 2) scGcd.nd rfl (Or.inl rfl) (pe_op op_mod (pv 0) (pv 1)))
      (pss_cons (ps_set (i := 0) scGcd.nd rfl (Or.inl rfl) (pv 1))
      (pss_one (ps_set (i := 1) scGcd.nd rfl (Or.inl rfl) (pv 2))))))
    (pss_one (ps_ret (pv 0))))), ?_⟩)
  · obtain ⟨a, b, rfl, _⟩ := h
    rfl
  · obtain ⟨a, b, rfl, k⟩ := h
    refine ⟨_, rfl, _, rfl, _, rfl, _, rfl, ?_⟩
    have ab : ∀ i : Int, (if i < 0 then -i else i) = (i.natAbs : Int) := fun i => by split <;> omega
    rw [ab, ab]
    refine ⟨fun m σ H' => ∃ (x y : Nat) (v : Option V), σ = [some (.int x), some (.int y), v] ∧ H' = H ∧ y = m ∧ Nat.gcd x y = Int.gcd a b, ⟨_, _, _, _, rfl, rfl, rfl, rfl⟩, ?_⟩
    rintro m σ H' ⟨x, y, v, rfl, rfl, rfl, g⟩
    refine ⟨_, rfl, rfl, _, rfl, ?_⟩
    by_cases c : y = 0
    · subst c
      refine if_false_of (by decide) ⟨_, rfl, ?_⟩
      rw [Nat.gcd_zero_right] at g
      rw [← g] at k
      exact k
    · refine if_true_of (by simpa using c) ⟨fun σ' H'' => ∃ (x' y' : Nat) (v : Option V), σ' = [some (.int x'), some (.int y'), v] ∧ H'' = H' ∧ y' < y ∧ Nat.gcd x' y' = Int.gcd a b, ?_, ?_⟩
      · rintro σ' H'' ⟨x', y', v, rfl, rfl, l, g'⟩
        exact ⟨y', l, x', y', v, rfl, rfl, rfl, g'⟩
      · refine ⟨_, rfl, _, rfl, _, _, rfl, rfl, (by omega), _, rfl, _, rfl, y, x % y, some (.int (x % y : Nat)), ?_, rfl, Nat.mod_lt _ (by omega), ?_⟩
        · simp [gName]
        · rw [Nat.gcd_comm, ← Nat.gcd_rec, Nat.gcd_comm]
          exact g
/-! ### trimmed -/
abbrev sTrim : Stmt := top 28
theorem scTrim : FnScope ["coefficients", "length"] ["coefficients"] (defScope sTrim) := ⟨rfl, rfl, rfl, by decide +kernel, rfl, by decide +kernel, by decide +kernel⟩
def spTrim (K : PySem.W.Frag) : Sp := fun vs H Q _ => ∃ (a : Addr) (p : List Int), vs = [.ref a] ∧ SqL K H a (LI p) ∧ RetL H Q (itrim p)
theorem take_snoc {p : List Int} {n : Nat} (h : n < p.length) : p.take (n + 1) = p.take n ++ [p[n]] := by
  rw [List.take_succ_eq_append_getElem h]
theorem trim_zero (p : List Int) : itrim (p ++ [0]) = itrim p := by
  unfold itrim
  simp
theorem trim_ok {p : List Int} (h : Ok p) : itrim p = p := by
  apply toR_inj
  rw [toR_trim]
  exact ok_tr.mp h
theorem trim_take {p : List Int} {n : Nat} (hn : n ≤ p.length) (ht : itrim (p.take n) = itrim p) (hz : n = 0 ∨ ic p (n - 1) ≠ 0) : p.take n = itrim p := by
  rw [← ht]
  refine (trim_ok ?_).symm
  rcases hz with z | z
  · subst z
    exact .inl (List.take_zero)
  · rcases Nat.eq_zero_or_pos n with w | w
    · subst w
      exact .inl (List.take_zero)
    · refine .inr ?_
      rw [ilast_ic, List.length_take, Nat.min_eq_left hn, ic_lt _ _ (by rw [List.length_take]; omega), List.getElem_take, ← ic_lt]
      exact z
theorem ok_trim {f : Addr} {fd : FuncData} (F : Fun K "trimmed" "trimmed" sTrim f fd) (B : BI P mg base) : FnOk P w K mg base CX0 1 f fd ["coefficients"] (spTrim K) := by
  refine F.ok scTrim (fun vs H Q E h => ?_) (fun cdv A outer s H vs Q E hr h => ⟨_, pss_cons (ps_set (i := 1) scTrim.nd rfl (Or.inl rfl) (pe_callB call_len_seq (by rfl) B.len (by decide +kernel) (pa_cons (pv 0) pa_nil)))
    (pss_cons (ps_while PassesOwn.never (PW.pt (pw_and (pt_cmpR op_gt (pv 1) pe_int (nomark _)) (pw_and1 (pt_cmpR op_eq (pe_ix ix_list (pv 0) (pe_op op_sub (pv 1) pe_int) (fun _ _ => rfl)) pe_int (nomark _)))))
      (pss_one (ps_aug (i := 1) scTrim.nd rfl (Or.inl rfl) pe_int ip_sub)))
    (pss_one (ps_ret (pe_slice sl_list (pv 0) po_none (po_some (pv 1)))))), ?_⟩)
  · obtain ⟨a, p, rfl, _⟩ := h
    rfl
  · obtain ⟨a, p, rfl, hS, k⟩ := h
    refine ⟨_, rfl, a, _, rfl, .inl hS, ?_⟩
    have fin : ∀ n : Nat, n ≤ p.length → itrim (p.take n) = itrim p → (n = 0 ∨ ic p (n - 1) ≠ 0) → ∀ r, H r = none → Q (.ref r) (upd H r (.lst (cutV (LI p) none (some (n : Int))))) := by
      intro n hn ht hz r hr
      rw [cutV_to _ _ (by rw [List.length_map]; exact hn), ← List.map_take, trim_take hn ht hz]
      exact k.new hr
    refine ⟨fun m σ H' => ∃ n : Nat, σ = [some (.ref a), some (.int n)] ∧ H' = H ∧ n = m ∧ n ≤ p.length ∧ itrim (p.take n) = itrim p, ⟨_, p.length, by simp [gName, L2.start], rfl, rfl, Nat.le_refl _, by rw [List.take_length]⟩, ?_⟩
    rintro m σ H' ⟨n, rfl, rfl, rfl, hn, ht⟩
    refine ⟨_, rfl, _, _, rfl, rfl, _, rfl, ?_⟩
    by_cases c : n = 0
    · subst c
      refine if_false_of (by decide) (if_false_of rfl ⟨_, rfl, _, rfl, _, rfl, _, _, rfl, hS, ?_⟩)
      exact fin 0 hn ht (.inl rfl)
    · refine if_true_of (by simp; omega) ?_
      obtain ⟨z, hz⟩ : ∃ z, p[n - 1]? = some z := ⟨p[n - 1], by rw [List.getElem?_eq_getElem (by omega)]⟩
      have hic : ic p (n - 1) = z := by
        unfold ic
        rw [List.getD_eq_getElem?_getD, hz]
        rfl
      have hat : atI (LI p) ((n : Int) - 1) = some (.int z) := at_of (j := n - 1) (by omega) (by rw [List.getElem?_map, hz]; rfl)
      refine ⟨_, rfl, _, rfl, _, _, rfl, rfl, _, _, _, _, rfl, rfl, hS, hat, rfl, _, rfl, ?_⟩
      by_cases d : z = 0
      · refine if_true_of (by subst d; decide) ⟨fun σ' H'' => ∃ n' : Nat, σ' = [some (.ref a), some (.int n')] ∧ H'' = H' ∧ n' < n ∧ n' ≤ p.length ∧ itrim (p.take n') = itrim p, ?_, ?_⟩
        · rintro σ' H'' ⟨n', rfl, rfl, l, q1, q2⟩
          exact ⟨n', l, n', rfl, rfl, rfl, q1, q2⟩
        · refine ⟨_, rfl, _, _, rfl, rfl, n - 1, ?_, rfl, by omega, by omega, ?_⟩
          · show [some (V.ref a), some (V.int ((n : Int) - 1))] = _
            rw [show (n : Int) - 1 = ((n - 1 : Nat) : Int) by omega]
          · rw [← ht]
            have e : p.take n = p.take (n - 1) ++ [0] := by
              have : n = n - 1 + 1 := by omega
              conv => lhs; rw [this]
              rw [take_snoc (by omega)]
              congr 2
              rw [← d, ← hic, ic_lt _ _ (by omega)]
            rw [e]
            exact (trim_zero _).symm
      · refine if_false_of (by simpa using d) ⟨_, rfl, _, rfl, _, rfl, _, _, rfl, hS, ?_⟩
        exact fin n hn ht (.inr (by rw [hic]; exact d))
end
end Rc

/-! ## Hd -/
set_option maxHeartbeats 2000000
namespace Rc
open PySem PySem.Spec PyProof.Rows L2 RcF RcG RcH RcI
section
variable {P : Program} {w : World} {K : PySem.W.Frag} {mg : Str → Option Value} {base : Heap}
/-! ### primitive_part -/
abbrev sPrim : Stmt := top 29
abbrev nPrim : List Str := ["polynomial", "divisor", "coefficient"]
theorem scPrim : FnScope nPrim ["polynomial"] (defScope sPrim) := ⟨rfl, rfl, rfl, by decide +kernel, rfl, by decide +kernel, by decide +kernel⟩
def spPrim (K : PySem.W.Frag) : Sp := fun vs H Q _ => ∃ (a : Addr) (p : List Int), vs = [.ref a] ∧ SqL K H a (LI p) ∧ Ok p ∧ p.length ≤ 1000 ∧ RetL H Q (prim p)
theorem take_more {α : Type} {l : List α} {i : Nat} {x : α} (h : l[i]? = some x) : l.take (i + 1) = l.take i ++ [x] := by
  obtain ⟨hi, e⟩ := List.getElem?_eq_some_iff.mp h
  rw [List.take_succ_eq_append_getElem hi, e]
theorem ok_prim' {f : Addr} {fd : FuncData} (F : Fun K "primitive_part" "primitive_part" sPrim f fd) (B : BI P mg base) (D1 : Dn P w K mg base "common_divisor" 1 ["first", "second"] spGcd) : FnOk P w K mg base CX0 42 f fd ["polynomial"] (spPrim K) := by
  refine F.ok scPrim (fun vs H Q E h => ?_) (fun cdv A outer s H vs Q E hr h => ⟨_, pss_cons (ps_set (i := 1) scPrim.nd rfl (Or.inr rfl) pe_int)
    (pss_cons (ps_for PassesOwn.never rfl (pi_list (pv 0)) (pg_name (i := 2) scPrim.nd rfl (Or.inl rfl))
      (pss_one (ps_set (i := 1) scPrim.nd rfl (Or.inr rfl) (pe_fn D1 (hr.mono (by decide)) (pa_cons (pv 1) (pa_cons (pv 2) pa_nil))))))
    (pss_one (ps_ret (pe_lc (own := [("coefficient", 2)]) (g := gName 2) (tt := tYes) rfl scPrim.nd (pi_list (pv 0)) (blkOk_by (N := nPrim) (sc := defScope sPrim) (by decide +kernel))
      (fun _ _ _ _ _ => pg_name (i := 2) scPrim.nd rfl (Or.inl rfl)) (fun _ _ _ _ _ => pts_nil) (fun _ _ _ _ _ => pe_op (op_divX B.G ⟨_, _, rfl, rfl, rfl, rfl, rfl⟩ hr) (pv 2) (pv 1)))))), ?_⟩)
  · obtain ⟨a, p, rfl, _⟩ := h
    rfl
  · obtain ⟨a, p, rfl, hS, ho, hl, k⟩ := h
    refine ⟨_, rfl, a, rfl, ⟨_, hS⟩, for_list (K := K) (a := a) (xs := LI p) (fun i σ H' => ∃ v : Option V, σ = [some (.ref a), some (.int (content (p.take i) : Nat)), v] ∧ H' = H) ⟨none, rfl, rfl⟩ (fun i σ H' _ ⟨_, _, e⟩ => by rw [e]; exact hS) ?_ ?_⟩
    · rintro i x σ H' hi ⟨v, rfl, rfl⟩
      obtain ⟨z, hz, rfl⟩ := li_get hi
      refine ⟨_, rfl, _, rfl, _, _, rfl, ?_⟩
      refine ⟨some (.int z), ?_, rfl⟩
      have e : (Int.gcd ((content (p.take i) : Nat) : Int) z) = content (p.take (i + 1)) := by
        unfold content
        rw [take_more hz, List.foldl_append]
        rfl
      rw [← e]
      rfl
    · rintro σ H' ⟨v, rfl, rfl⟩
      rw [List.length_map, List.take_length]
      have still : ∀ {H1 : Hp} {D : Addr} {o : HO}, H1 D = none → SqL K H1 a (LI p) → SqL K (upd H1 D o) a (LI p) := fun {H1 D o} hD hS => Same.seq (fun b u e => by rw [upd_ne (ne_of_none e hD)]; exact e) hS
      refine ⟨_, rfl, a, rfl, ⟨_, hS⟩, fun D hD => lc_list (K := K) (a := a) (xs := LI p) (fun i H1 => H1 = upd H' D (.lst (LI ((prim p).take i)))) rfl (fun i H1 _ e => by rw [e]; exact still hD hS) ?_ ?_⟩
      · rintro i x H1 hi rfl
        obtain ⟨z, hz, rfl⟩ := li_get hi
        have pn : p ≠ [] := by
          intro e
          rw [e] at hz
          cases hz
        have c0 : 0 < content p := content_pos ⟨_, last_mem pn, ho.resolve_left pn⟩
        refine ⟨rfl, ?_⟩
        refine ⟨_, rfl, _, rfl, _, _, rfl, rfl, by omega, _, upd_same, small1000 (by rw [List.length_map, List.length_take, prim_len]; omega), ?_⟩
        rw [upd_upd]
        congr 2
        have e : (prim p)[i]? = some (z / (content p : Int)) := by
          unfold prim
          rw [List.getElem?_map, hz]
          rfl
        rw [take_more e, li_snoc, ← Int.fdiv_eq_ediv_of_nonneg z (show (0 : Int) ≤ (content p : Int) by omega)]
      · rintro H1 rfl
        rw [List.length_map, List.take_of_length_le (by rw [prim_len]; exact Nat.le_refl _)]
        exact k.new hD
/-! ### whole_derivative -/
abbrev sDer : Stmt := top 31
abbrev nDer : List Str := ["polynomial", "terms", "power", "coefficient"]
theorem scDer : FnScope nDer ["polynomial"] (defScope sDer) := ⟨rfl, rfl, rfl, by decide +kernel, rfl, by decide +kernel, by decide +kernel⟩
def spDer (K : PySem.W.Frag) : Sp := fun vs H Q _ => ∃ (a : Addr) (p : List Int), vs = [.ref a] ∧ SqL K H a (LI p) ∧ p.length ≤ 1000 ∧ RetL H Q (ider p)
def terms (p : List Int) : List Int := (List.range p.length).map fun (i : Nat) => ((i : Nat) : Int) * ic p i
theorem terms_get {p : List Int} {i : Nat} {z : Int} (h : p[i]? = some z) : (terms p)[i]? = some (((i : Nat) : Int) * z) := by
  obtain ⟨hi, e⟩ := List.getElem?_eq_some_iff.mp h
  unfold terms
  rw [List.getElem?_map, List.getElem?_range hi]
  show some (((i : Nat) : Int) * ic p i) = _
  rw [ic_lt _ _ hi, e]
theorem ok_der {f : Addr} {fd : FuncData} (F : Fun K "whole_derivative" "whole_derivative" sDer f fd) (B : BI P mg base) : FnOk P w K mg base CX0 1 f fd ["polynomial"] (spDer K) := by
  refine F.ok scDer (fun vs H Q E h => ?_) (fun cdv A outer s H vs Q E hr h => ⟨_, pss_cons (ps_setLc (i := 1) (own := [("power", 2), ("coefficient", 3)]) (g := gTup K 2 (gCons (gName 2) (gCons (gName 3) gNil))) (tt := tYes) rfl scDer.nd rfl rfl (sw_true rfl rfl rfl (by decide +kernel)) (pi_enum (by rfl) B.enumerate (pa_cons (pv 0) pa_nil)) (blkOk_by (N := nDer) (sc := defScope sDer) (by decide +kernel))
      (fun _ _ _ _ _ => pg_tup rfl (pgs_cons (pg_name (i := 2) scDer.nd rfl (Or.inl rfl)) (pgs_cons (pg_name (i := 3) scDer.nd rfl (Or.inl rfl)) pgs_nil))) (fun _ _ _ _ _ => pts_nil) (fun _ _ _ _ _ => pe_op op_mul (pv 2) (pv 3)))
    (pss_one (ps_ret (pe_slice sl_list (pv 1) (po_some pe_int) po_none))), ?_⟩)
  · obtain ⟨a, p, rfl, _⟩ := h
    rfl
  · obtain ⟨a, p, rfl, hS, hl, k⟩ := h
    refine ⟨_, rfl, a, _, rfl, hS, fun D hD => lc_it (walk_enum (K := K) (a := a) (xs := LI p)) (fun i H1 => H1 D = some (.lst (LI ((terms p).take i))) ∧ Same H H1) ⟨upd_same, same_new hD⟩ (fun i H1 _ e => e.2.seq hS) ?_ ?_⟩
    · rintro i x H1 H2 hi ⟨e1, e2⟩ ⟨T, x', y', rfl, hT, rfl, h3, h4⟩
      obtain ⟨z, hz, rfl⟩ := li_get h4
      obtain rfl := Option.some.inj h3
      have hi' : i < p.length := by simpa using hi
      have nD : D ≠ T := fun q => by
        rw [← q, e1] at hT
        cases hT
      refine ⟨T, _, rfl, .inl (.inl upd_same), rfl, _, _, rfl, _, _, rfl, rfl, rfl, ?_⟩
      refine ⟨_, rfl, _, rfl, _, _, rfl, rfl, .inl ⟨by omega, by omega⟩, LI ((terms p).take i), by rw [upd_ne nD]; exact e1, small1000 (by rw [List.length_map, List.length_take]; omega), ?_, ?_⟩
      · rw [upd_same, take_more (terms_get hz), li_snoc]
      · exact same_upd (e2.trans (same_new hT)) hD
    · rintro H1 ⟨e1, e2⟩
      rw [List.length_map, List.take_of_length_le (by simp [terms])] at e1
      refine ⟨_, rfl, _, rfl, D, _, rfl, seq_lst e1, fun r hr => ?_⟩
      have e : cutV (LI (terms p)) (some ((1 : Nat) : Int)) none = LI (ider p) := by
        rw [cutV_from, ← List.map_drop]
        rfl
      exact k.later e2 (same_new hr) hr (by rw [upd_same]; exact congrArg (fun q => some (HO.lst q)) e)
end
end Rc

/-! ## He -/
set_option maxHeartbeats 2000000
namespace Rc
open PySem PySem.Spec PyProof.Rows L2 RcF RcG RcH RcI
/-! ### sizes of values -/
theorem sval_lt {b A : Nat} {n d : Int} (hn : n.natAbs < 2 ^ A) (hd : d.natAbs < 2 ^ A) : ∀ p : List Int, Sz b p → (sval p n d).natAbs < 2 ^ (b + (A + 1) * p.length) ∧ (svalS p n d).2.natAbs ≤ 2 ^ (A * p.length)
  | [], _ => ⟨Nat.pow_pos (by decide), by show (1 : Int).natAbs ≤ 2 ^ (A * 0); simp⟩
  | c :: p, h => by
    obtain ⟨h1, h2⟩ := sval_lt hn hd p fun x hx => h x (by simp [hx])
    have hc := h c (by simp)
    constructor
    · show (sval p n d * n + c * (svalS p n d).2).natAbs < _
      rw [List.length_cons, show b + (A + 1) * (p.length + 1) = (b + (A + 1) * p.length + A) + 1 by rw [Nat.mul_succ]; omega]
      refine add_lt (mul_lt h1 hn) ?_
      have e : (c * (svalS p n d).2).natAbs < 2 ^ (b + A * p.length) := by
        rw [Int.natAbs_mul, Nat.pow_add]
        exact Nat.mul_lt_mul_of_lt_of_le hc h2 (Nat.pow_pos (by decide))
      refine Nat.lt_of_lt_of_le e (Nat.pow_le_pow_right (by decide) ?_)
      have : (A + 1) * p.length = A * p.length + p.length := by rw [Nat.add_mul, Nat.one_mul]
      omega
    · show ((svalS p n d).2 * d).natAbs ≤ _
      rw [List.length_cons, Nat.mul_succ, Nat.pow_add, Int.natAbs_mul]
      exact Nat.mul_le_mul h2 (Nat.le_of_lt hd)
section
variable {P : Program} {w : World} {K : PySem.W.Frag} {mg : Str → Option Value} {base : Heap}
/-! ### scaled_value -/
abbrev sVal : Stmt := top 33
abbrev nVal : List Str := ["polynomial", "numerator", "denominator", "value", "scale", "coefficient"]
theorem scVal : FnScope nVal ["polynomial", "numerator", "denominator"] (defScope sVal) := ⟨rfl, rfl, rfl, by decide +kernel, rfl, by decide +kernel, by decide +kernel⟩
def spVal (K : PySem.W.Frag) : Sp := fun vs H Q _ => ∃ (a : Addr) (p : List Int) (n d : Int) (b A : Nat), vs = [.ref a, .int n, .int d] ∧ SqL K H a (LI p) ∧ Sz b p ∧ n.natAbs < 2 ^ A ∧ d.natAbs < 2 ^ A ∧ b + (A + 1) * (p.length + 1) ≤ 100000000 ∧ Q (.int (sval p n d)) H
theorem drop_more {α : Type} {l : List α} {i : Nat} {x : α} (hi : i < l.length) (h : l[l.length - 1 - i]? = some x) : l.drop (l.length - (i + 1)) = x :: l.drop (l.length - i) := by
  obtain ⟨h1, h2⟩ := List.getElem?_eq_some_iff.mp h
  have e : l.length - (i + 1) = l.length - 1 - i := by omega
  rw [e, List.drop_eq_getElem_cons h1, h2]
  congr 2
  omega
theorem ok_val {f : Addr} {fd : FuncData} (F : Fun K "scaled_value" "scaled_value" sVal f fd) (B : BI P mg base) : FnOk P w K mg base CX0 1 f fd ["polynomial", "numerator", "denominator"] (spVal K) := by
  refine F.ok scVal (fun vs H Q E h => ?_) (fun cdv A outer s H vs Q E hr h => ⟨_, pss_cons (ps_set (i := 3) scVal.nd rfl (Or.inl rfl) pe_int)
    (pss_cons (ps_set (i := 4) scVal.nd rfl (Or.inl rfl) pe_int)
    (pss_cons (ps_for PassesOwn.never rfl (pi_reversed (by rfl) B.reversed (pa_cons (pv 0) pa_nil)) (pg_name (i := 5) scVal.nd rfl (Or.inl rfl))
      (pss_cons (ps_set (i := 3) scVal.nd rfl (Or.inl rfl) (pe_op op_add (pe_op op_mulX (pv 3) (pv 1)) (pe_op op_mulX (pv 5) (pv 4))))
      (pss_one (ps_aug (i := 4) scVal.nd rfl (Or.inl rfl) (pv 2) ip_mulX))))
    (pss_one (ps_ret (pv 3))))), ?_⟩)
  · obtain ⟨a, p, n, d, b, A, rfl, _⟩ := h
    rfl
  · obtain ⟨a, p, n, d, b, C, rfl, hS, hb, hn, hd, hl, k⟩ := h
    refine ⟨_, rfl, a, _, rfl, hS, for_it (walk_rev (K := K) (a := a) (xs := LI p)) (fun i σ H' => ∃ x : Option V, σ = [some (.ref a), some (.int n), some (.int d), some (.int (sval (p.drop (p.length - i)) n d)), some (.int (svalS (p.drop (p.length - i)) n d).2), x] ∧ H' = H)
      ⟨none, by rw [Nat.sub_zero, List.drop_length]; rfl, rfl⟩ (fun i σ H' _ ⟨_, _, e⟩ => by rw [e]; exact hS) ?_ ?_⟩
    · rintro i x σ H1 H2 hi ⟨x0, rfl, rfl⟩ ⟨rfl, hx⟩
      obtain ⟨z, hz, rfl⟩ := li_get hx
      have hi' : i < p.length := by simpa using hi
      rw [List.length_map] at hz
      have e := drop_more hi' hz
      have hz' : z ∈ p := List.mem_of_getElem? hz
      have hdl : (p.drop (p.length - i)).length = i := by rw [List.length_drop]; omega
      obtain ⟨q1, q2⟩ := sval_lt (b := b) hn hd (p.drop (p.length - i)) fun c hc => hb c (List.mem_of_mem_drop hc)
      rw [hdl] at q1 q2
      have m1 : (C + 1) * i + (C + 1) ≤ (C + 1) * p.length := by rw [← Nat.mul_succ]; exact Nat.mul_le_mul_left _ hi'
      have m2 : (C + 1) * (p.length + 1) = (C + 1) * p.length + (C + 1) := Nat.mul_succ _ _
      have m3 : (C + 1) * i = C * i + i := by rw [Nat.add_mul, Nat.one_mul]
      have q3 : (svalS (p.drop (p.length - i)) n d).2.natAbs < 2 ^ (C * i + 1) := Nat.lt_of_le_of_lt q2 (Nat.pow_lt_pow_right (by decide) (by omega))
      refine ⟨_, rfl, _, rfl, _, _, rfl, rfl, mulx_ok q1 hn (by omega), _, rfl, _, rfl, _, _, rfl, rfl, mulx_ok (hb z hz') q3 (by omega), _, _, rfl, rfl, ?_⟩
      refine ⟨_, rfl, _, rfl, _, _, rfl, rfl, mulx_ok q3 hd (by omega), some (.int z), ?_, rfl⟩
      rw [e]
      rfl
    · rintro σ H1 ⟨x0, rfl, rfl⟩
      rw [List.length_map, Nat.sub_self, List.drop_zero]
      exact ⟨_, rfl, k⟩
end
end Rc

/-! ## Hf -/
set_option maxHeartbeats 2000000
namespace Rc
open PySem PySem.Spec PyProof.Rows L2 RcF RcG RcH RcI
theorem li_last {p : List Int} (h : p ≠ []) : atI (LI p) (-1) = some (.int (ilast p)) := by
  rcases List.eq_nil_or_concat p with rfl | ⟨q, c, rfl⟩
  · exact absurd rfl h
  · rw [List.concat_eq_append, li_snoc, atI_last]
    simp [ilast]
theorem li_len (p : List Int) : (LI p).length = p.length := List.length_map _
theorem li_set (p : List Int) (k : Nat) (z : Int) : LI (p.set k z) = (LI p).set k (.int z) := List.map_set
theorem abs_if (i : Int) : (if i < 0 then -i else i) = (i.natAbs : Int) := by split <;> omega
/-- the subtraction, so far -/
def subTo (l : List Int) (k : Nat) (f : Int) (g : List Int) (i : Nat) : List Int := (List.range l.length).map fun j => ic l j - if k ≤ j ∧ j < k + i then f * ic g (j - k) else 0
theorem subTo_len (l : List Int) (k : Nat) (f : Int) (g : List Int) (i : Nat) : (subTo l k f g i).length = l.length := by simp [subTo]
theorem subTo_get {l : List Int} {k : Nat} {f : Int} {g : List Int} {i j : Nat} (h : j < l.length) : (subTo l k f g i)[j]? = some (ic l j - if k ≤ j ∧ j < k + i then f * ic g (j - k) else 0) := by
  unfold subTo
  rw [List.getElem?_map, List.getElem?_range h]
  rfl
theorem subTo_zero (l : List Int) (k : Nat) (f : Int) (g : List Int) : subTo l k f g 0 = l := by
  refine List.ext_getElem? fun j => ?_
  by_cases h : j < l.length
  · rw [subTo_get h, if_neg (by omega), List.getElem?_eq_getElem h, ic_lt _ _ h]
    simp
  · rw [List.getElem?_eq_none (by rw [subTo_len]; omega), List.getElem?_eq_none (by omega)]
theorem subTo_all (l : List Int) (k : Nat) (f : Int) (g : List Int) : subTo l k f g g.length = isub l k f g := by
  unfold subTo isub
  refine List.map_congr_left fun j _ => ?_
  congr 1
  by_cases h : k ≤ j
  · by_cases h2 : j < k + g.length
    · rw [if_pos ⟨h, h2⟩, if_pos h]
    · rw [if_neg (by omega), if_pos h, ic_ge g _ (by omega)]
      simp
  · rw [if_neg (by omega), if_neg h]
theorem subTo_set {l : List Int} {k : Nat} {f : Int} {g : List Int} {i : Nat} (h : k + i < l.length) : (subTo l k f g i).set (k + i) (ic l (k + i) - f * ic g i) = subTo l k f g (i + 1) := by
  refine List.ext_getElem? fun j => ?_
  by_cases hj : j < l.length
  · rw [subTo_get hj]
    by_cases e : j = k + i
    · subst e
      rw [List.getElem?_set_self (by rw [subTo_len]; exact h), if_pos (by omega), Nat.add_sub_cancel_left]
    · rw [List.getElem?_set_ne (by omega), subTo_get hj]
      congr 2
      by_cases c : k ≤ j ∧ j < k + i
      · rw [if_pos c, if_pos (by omega)]
      · rw [if_neg c, if_neg (by omega)]
  · rw [List.getElem?_eq_none (by rw [List.length_set, subTo_len]; omega), List.getElem?_eq_none (by rw [subTo_len]; omega)]
section
variable {P : Program} {w : World} {K : PySem.W.Frag} {mg : Str → Option Value} {base : Heap}
/-! ### scaled_remainder -/
abbrev sRem : Stmt := top 34
abbrev nRem : List Str := ["dividend", "divisor", "rest", "lead", "shift", "factor", "coefficient", "place"]
theorem scRem : FnScope nRem ["dividend", "divisor"] (defScope sRem) := ⟨rfl, rfl, rfl, by decide +kernel, rfl, by decide +kernel, by decide +kernel⟩
def spRem (K : PySem.W.Frag) : Sp := fun vs H Q _ => ∃ (a b : Addr) (p g : List Int) (A B : Nat), vs = [.ref a, .ref b] ∧ SqL K H a (LI p) ∧ SqL K H b (LI g) ∧ Ok p ∧ ilast g ≠ 0 ∧ p.length ≤ 1000 ∧ Sz A p ∧ Sz B g ∧ A + (p.length + 1) * (B + 1) ≤ 60000000 ∧ RetL H Q (irem p g)
def RemInv (K : PySem.W.Frag) (H : Hp) (a b : Addr) (p g : List Int) (SA SB : Nat) (m : Nat) (σ : L2.St) (H1 : Hp) : Prop :=
  ∃ (r : Addr) (rl : List Int) (n : Nat) (s4 s5 s6 s7 : Option V), σ = [some (.ref a), some (.ref b), some (.ref r), some (.int (ilast g)), s4, s5, s6, s7] ∧ Same H H1 ∧ H1 r = some (.lst (LI rl)) ∧ Ok rl ∧
    prem (p.length + 1) p g = prem n rl g ∧ rl.length < n ∧ rl.length ≤ p.length ∧ (∃ S, Sz S rl ∧ S + (rl.length + 1 - g.length) * (SB + 1) ≤ SA + (p.length + 1 - g.length) * (SB + 1)) ∧ rl.length = m
theorem fac_ok {σ : L2.St} {H : Hp} {Q : VK} {r : Addr} {rl : List Int} {lead : Int} (h3 : σ[3]? = some (some (.int lead))) (h2 : σ[2]? = some (some (.ref r))) (hS : SqL K H r (LI rl)) (hn : rl ≠ []) (q : Q (.int (if lead > 0 then ilast rl else -ilast rl)) H) :
    tIf (tTest (tOp (rI0 fun i j => V.bl (decide (j < i))) (tVar 3) (tC (V.int 0)))) (tOp (rIxL K) (tVar 2) (tUn (rU fun i => V.int (-i)) (tC (V.int 1)))) (tUn (rU fun i => V.int (-i)) (tOp (rIxL K) (tVar 2) (tUn (rU fun i => V.int (-i)) (tC (V.int 1))))) σ H Q := by
  refine ⟨_, h3, _, _, rfl, rfl, _, rfl, ?_⟩
  by_cases c : lead > 0
  · rw [if_pos c] at q
    exact if_true_of (by simpa using c) ⟨_, h2, _, rfl, _, _, _, _, rfl, rfl, hS, li_last hn, q⟩
  · rw [if_neg c] at q
    exact if_false_of (by simpa using c) ⟨_, h2, _, rfl, _, _, _, _, rfl, rfl, hS, li_last hn, _, rfl, q⟩
theorem ok_rem {f : Addr} {fd : FuncData} (F : Fun K "scaled_remainder" "scaled_remainder" sRem f fd) (B : BI P mg base) (D1 : Dn P w K mg base "trimmed" 1 ["coefficients"] (spTrim K)) (D2 : Dn P w K mg base "primitive_part" 42 ["polynomial"] (spPrim K)) :
    FnOk P w K mg base CX0 43 f fd ["dividend", "divisor"] (spRem K) := by
  refine F.ok scRem (fun vs H Q E h => ?_) (fun cdv A outer s H vs Q E hr h => ⟨_, pss_cons (ps_set (i := 2) scRem.nd rfl (Or.inl rfl) (pe_callTy call_list_of (by rfl) B.list (by decide +kernel) (pa_cons (pv 0) pa_nil)))
    (pss_cons (ps_set (i := 3) scRem.nd rfl (Or.inr rfl) (pe_ix ix_list (pv 1) (pe_un un_neg pe_int) (fun _ _ => rfl)))
    (pss_cons (ps_while PassesOwn.never (pt_cmpR op_ge (pe_callB call_len_seq (by rfl) B.len (by decide +kernel) (pa_cons (pv 2) pa_nil)) (pe_callB call_len_seq (by rfl) B.len (by decide +kernel) (pa_cons (pv 1) pa_nil)) (nomark _))
      (pss_cons (ps_set (i := 4) scRem.nd rfl (Or.inl rfl) (pe_op op_sub (pe_callB call_len_seq (by rfl) B.len (by decide +kernel) (pa_cons (pv 2) pa_nil)) (pe_callB call_len_seq (by rfl) B.len (by decide +kernel) (pa_cons (pv 1) pa_nil))))
      (pss_cons (ps_set (i := 5) scRem.nd rfl (Or.inl rfl) (pe_ifExp (pt_cmpR op_gt (pv 3) pe_int (nomark _)) (pe_ix ix_list (pv 2) (pe_un un_neg pe_int) (fun _ _ => rfl)) (pe_un un_neg (pe_ix ix_list (pv 2) (pe_un un_neg pe_int) (fun _ _ => rfl)))))
      (pss_cons (ps_setLc (i := 2) (own := [("coefficient", 6)]) (g := gName 6) (tt := tYes) rfl scRem.nd rfl rfl (sw_true rfl rfl rfl (by decide +kernel)) (pi_list (pv 2)) (blkOk_by (N := nRem) (sc := defScope sRem) (by decide +kernel))
        (fun _ _ _ _ _ => pg_name (i := 6) scRem.nd rfl (Or.inl rfl)) (fun _ _ _ _ _ => pts_nil) (fun _ _ _ _ _ => pe_op op_mulX (pe_callB call_abs (by rfl) B.abs (by decide +kernel) (pa_cons (pv 3) pa_nil)) (pv 6)))
      (pss_cons (ps_for PassesOwn.never rfl (pi_enum (by rfl) B.enumerate (pa_cons (pv 1) pa_nil)) (pg_tup rfl (pgs_cons (pg_name (i := 7) scRem.nd rfl (Or.inl rfl)) (pgs_cons (pg_name (i := 6) scRem.nd rfl (Or.inl rfl)) pgs_nil)))
        (pss_one (ps_augS (pv 2) (pe_op op_add (pv 4) (pv 7)) get_list (pe_op op_mulX (pv 5) (pv 6)) ip_sub set_list)))
      (pss_one (ps_set (i := 2) scRem.nd rfl (Or.inl rfl) (pe_fn D1 (hr.mono (by decide)) (pa_cons (pv 2) pa_nil)))))))))
    (pss_one (ps_ret (pe_fn D2 hr (pa_cons (pv 2) pa_nil)))))), ?_⟩)
  · obtain ⟨a, b, p, g, A, B, rfl, _⟩ := h
    rfl
  · obtain ⟨a, b, p, g, SA, SB, rfl, hSa, hSb, hop, hlg, hlen, hA, hB, hsz, k⟩ := h
    refine ⟨_, rfl, a, _, rfl, .inl hSa, fun r0 hr0 => ?_⟩
    have gn : g ≠ [] := by
      intro z
      rw [z] at hlg
      exact hlg rfl
    refine ⟨_, rfl, _, rfl, _, _, _, _, rfl, rfl, (same_new hr0).seq hSb, li_last gn, ?_⟩
    refine ⟨RemInv K H a b p g SA SB, ⟨p.length, r0, p, p.length + 1, none, none, none, none, rfl, same_new hr0, upd_same, hop, rfl, Nat.lt_succ_self _, Nat.le_refl _, ⟨SA, hA, Nat.le_refl _⟩, rfl⟩, ?_⟩
    rintro m σ H1 ⟨r, rl, n, s4, s5, s6, s7, rfl, e1, e2, e3, e4, e5, e6, ⟨S, e7, e8⟩, rfl⟩
    refine ⟨_, rfl, r, _, rfl, .inl (seq_lst e2), _, rfl, b, _, rfl, .inl (e1.seq hSb), _, _, rfl, rfl, _, rfl, ?_⟩
    have big : (p.length + 1 - g.length) * (SB + 1) ≤ (p.length + 1) * (SB + 1) := Nat.mul_le_mul_right _ (by omega)
    by_cases c : g.length ≤ rl.length
    · refine if_true_of (by rw [li_len, li_len]; simp; omega) ⟨fun σ' H'' => ∃ m', m' < rl.length ∧ RemInv K H a b p g SA SB m' σ' H'', fun _ _ h => h, ?_⟩
      have rn : rl ≠ [] := by
        intro z
        rw [z] at c
        exact gn (List.length_eq_zero_iff.mp (Nat.le_zero.mp c))
      have rlast : ilast rl ≠ 0 := e3.resolve_left rn
      have gl : 0 < g.length := List.length_pos_iff.mpr gn
      refine ⟨_, rfl, r, _, rfl, .inl (seq_lst e2), _, rfl, b, _, rfl, .inl (e1.seq hSb), _, _, rfl, rfl, ?_⟩
      rw [show (fun i j => V.int (i - j)) ((LI rl).length : Int) ((LI g).length : Int) = V.int ((rl.length - g.length : Nat) : Int) from congrArg V.int (by rw [li_len, li_len]; omega)]
      refine fac_ok (K := K) (r := r) (rl := rl) (lead := ilast g) rfl rfl (seq_lst e2) rn ?_
      have fs : (if ilast g > 0 then ilast rl else -ilast rl).natAbs < 2 ^ S := by
        split
        · exact e7.last
        · rw [Int.natAbs_neg]; exact e7.last
      have lb : ((ilast g).natAbs : Int).natAbs < 2 ^ SB := by rw [Int.natAbs_natCast]; exact hB.last
      have s1 : 1 * (SB + 1) ≤ (rl.length + 1 - g.length) * (SB + 1) := Nat.mul_le_mul_right _ (by omega)
      generalize hfe : (if ilast g > 0 then ilast rl else -ilast rl) = fc at fs
      refine ⟨_, rfl, r, rfl, ⟨_, seq_lst e2⟩, fun D hD => lc_list (K := K) (a := r) (xs := LI rl) (fun i H2 => H2 = upd H1 D (.lst (LI ((rl.map fun c => ((ilast g).natAbs : Int) * c).take i)))) rfl (fun i H2 _ e => by rw [e]; exact (same_new hD).seq (seq_lst e2)) ?_ ?_⟩
      · rintro i x H2 hi rfl
        obtain ⟨z, hz, rfl⟩ := li_get hi
        refine ⟨rfl, ?_⟩
        have zs : z.natAbs < 2 ^ S := e7 z (List.mem_of_getElem? hz)
        refine ⟨_, rfl, _, rfl, _, rfl, _, _, rfl, rfl, by rw [abs_if]; exact mulx_ok lb zs (by omega), _, upd_same, small1000 (by rw [li_len, List.length_take, List.length_map]; omega), ?_⟩
        rw [upd_upd]
        congr 2
        have e : (rl.map fun c => ((ilast g).natAbs : Int) * c)[i]? = some (((ilast g).natAbs : Int) * z) := by rw [List.getElem?_map, hz]; rfl
        rw [take_more e, li_snoc]
        show _ ++ [V.int ((if ilast g < 0 then -ilast g else ilast g) * z)] = _
        rw [abs_if]
      · rintro H2 rfl
        rw [li_len, List.take_of_length_le (by rw [List.length_map]; exact Nat.le_refl _)]
        generalize hL : (rl.map fun c => ((ilast g).natAbs : Int) * c) = L
        have Ll : L.length = rl.length := by rw [← hL, List.length_map]
        generalize hk : rl.length - g.length = kk
        refine ⟨_, rfl, b, _, rfl, (e1.trans (same_new hD)).seq hSb, for_it (walk_enum (K := K) (a := b) (xs := LI g)) (fun i σ H3 => ∃ t6 t7 : Option V, σ = [some (.ref a), some (.ref b), some (.ref D), some (.int (ilast g)), some (.int (kk : Int)), some (.int fc), t6, t7] ∧ H3 D = some (.lst (LI (subTo L kk fc g i))) ∧ Same H1 H3)
          ⟨_, _, rfl, by rw [upd_same, subTo_zero], same_new hD⟩ (fun i σ H3 _ ⟨_, _, _, _, q⟩ => (e1.trans q).seq hSb) ?_ ?_⟩
        · rintro i x σ H3 H4 hi ⟨t6, t7, rfl, q1, q2⟩ ⟨T, x', y', rfl, hT, rfl, h3, h4⟩
          obtain ⟨z, hz, rfl⟩ := li_get h4
          obtain rfl := Option.some.inj h3
          have hi' : i < g.length := by simpa using hi
          have nD : D ≠ T := fun q => by
            rw [← q, q1] at hT
            cases hT
          have zs : z.natAbs < 2 ^ SB := hB z (List.mem_of_getElem? hz)
          have hki : kk + i < L.length := by omega
          have q3 : (upd H3 T (.tup [.int ((i : Nat) : Int), .int z])) D = some (.lst (LI (subTo L kk fc g i))) := by rw [upd_ne nD]; exact q1
          have gi : ic g i = z := by
            obtain ⟨h5, h6⟩ := List.getElem?_eq_some_iff.mp hz
            rw [ic_lt _ _ h5, h6]
          have at1 : (LI (subTo L kk fc g i))[kk + i]? = some (.int (ic L (kk + i))) := by
            rw [List.getElem?_map, subTo_get hki, if_neg (by omega), Int.sub_zero]
            rfl
          refine ⟨T, _, rfl, .inl (.inl upd_same), rfl, _, _, rfl, _, _, rfl, rfl, ?_⟩
          refine ⟨_, rfl, _, rfl, _, rfl, _, _, rfl, rfl, D, _, kk + i, _, rfl, congrArg V.int (by omega), seq_lst q3, at1, _, rfl, _, rfl, _, _, rfl, rfl, mulx_ok fs zs (by omega), _, _, rfl, rfl, D, _, _, kk + i, rfl, rfl, q3, ?_, _, _, rfl, ?_, ?_⟩
          · unfold ixN
            rw [li_len, subTo_len, if_pos (by omega), if_pos (by omega)]
            congr 1
          · rw [upd_same, ← subTo_set hki, gi, li_set]
          · exact same_upd (q2.trans (same_new hT)) hD
        · rintro σ H3 ⟨t6, t7, rfl, q1, q2⟩
          rw [li_len, subTo_all] at q1
          refine ⟨_, rfl, D, _, rfl, seq_lst q1, fun H5 r' s5' hr5 e5' => ?_⟩
          have hst : itrim (isub L kk fc g) = pstep rl g := by
            unfold pstep
            rw [hL, hk, hfe]
          rw [hst] at e5'
          have hl' := step_len rlast hlg c
          obtain ⟨n', rfl⟩ : ∃ n', n = n' + 1 := ⟨n - 1, by omega⟩
          refine ⟨(pstep rl g).length, hl', r', pstep rl g, n', _, _, _, _, rfl, (e1.trans q2).trans s5', e5', ok_step _ _, ?_, by omega, by omega, ⟨S + SB + 1, sz_step e7 hB c, ?_⟩, rfl⟩
          · rw [e4, prem, if_neg (by omega)]
          · have : ((pstep rl g).length + 1 - g.length) * (SB + 1) + (SB + 1) ≤ (rl.length + 1 - g.length) * (SB + 1) := by
              rw [← Nat.succ_mul]
              exact Nat.mul_le_mul_right _ (by omega)
            omega
    · refine if_false_of (by rw [li_len, li_len]; simp; omega) ?_
      refine ⟨_, rfl, r, rl, rfl, seq_lst e2, e3, by omega, fun H5 r' s5' hr5 e5' => ?_⟩
      refine k.later e1 s5' hr5 ?_
      rw [e5']
      congr 3
      unfold irem
      obtain ⟨n', rfl⟩ : ∃ n', n = n' + 1 := ⟨n - 1, by omega⟩
      rw [e4, prem, if_pos (by omega)]
end
end Rc

/-! ## Hg -/
set_option maxHeartbeats 2000000
namespace Rc
open PySem PySem.Spec PyProof.Rows L2 RcF RcG RcH RcI
theorem li_isEmpty (p : List Int) : (!(LI p).isEmpty) = !decide (p = []) := by cases p <;> simp [LI]
section
variable {P : Program} {w : World} {K : PySem.W.Frag} {mg : Str → Option Value} {base : Heap}
/-! ### common_factor -/
abbrev sCf : Stmt := top 35
abbrev nCf : List Str := ["first", "second", "rest"]
theorem scCf : FnScope nCf ["first", "second"] (defScope sCf) := ⟨rfl, rfl, rfl, by decide +kernel, rfl, by decide +kernel, by decide +kernel⟩
/-- sizes that the chain of remainders bears, whichever is the longer -/
def Bears (S : Nat) (p g : List Int) : Prop := (g.length ≤ p.length ∧ (S + 1) * gf p.length g.length ≤ 50000000) ∨ (p.length < g.length ∧ (S + 1) * gf g.length p.length ≤ 50000000)
def spCf (K : PySem.W.Frag) : Sp := fun vs H Q _ => ∃ (a b : Addr) (p g : List Int) (S : Nat), vs = [.ref a, .ref b] ∧ SqL K H a (LI p) ∧ SqL K H b (LI g) ∧ Ok p ∧ Ok g ∧ p ≠ [] ∧ p.length ≤ 1000 ∧ g.length ≤ 1000 ∧ Sz S p ∧ Sz S g ∧ Bears S p g ∧ RetL H Q (igcd p g)
def CfInv (K : PySem.W.Frag) (H : Hp) (p g : List Int) (S : Nat) (m : Nat) (σ : L2.St) (H1 : Hp) : Prop :=
  ∃ (ra rb : Addr) (pa ga : List Int) (n S' : Nat) (s2 : Option V), σ = [some (.ref ra), some (.ref rb), s2] ∧ Same H H1 ∧ SqL K H1 ra (LI pa) ∧ SqL K H1 rb (LI ga) ∧ Ok pa ∧ Ok ga ∧ pa ≠ [] ∧
    igcdL (p.length + g.length + 2) p g = igcdL n pa ga ∧ ga.length < n ∧ ga.length ≤ 1000 ∧ pa.length ≤ 1000 ∧ Sz S' pa ∧ Sz S' ga ∧ Bears S' pa ga ∧ ga.length = m
theorem prem_short {f g : List Int} (h : f.length < g.length) : ∀ n, prem n f g = f
  | 0 => rfl
  | n + 1 => by rw [prem, if_pos h]
theorem gf_ge (m n : Nat) (h : 1 ≤ m) : m + 2 ≤ gf m n := by
  have := two_le_pow m h
  unfold gf
  split <;> omega
theorem ok_cf {f : Addr} {fd : FuncData} (F : Fun K "common_factor" "common_factor" sCf f fd) (B : BI P mg base) (D1 : Dn P w K mg base "scaled_remainder" 43 ["dividend", "divisor"] (spRem K)) (D2 : Dn P w K mg base "primitive_part" 42 ["polynomial"] (spPrim K)) :
    FnOk P w K mg base CX0 44 f fd ["first", "second"] (spCf K) := by
  refine F.ok scCf (fun vs H Q E h => ?_) (fun cdv A outer s H vs Q E hr h => ⟨_, pss_cons (ps_while PassesOwn.never (pt_truth (pv 1) (fun _ => rfl))
      (pss_cons (ps_set (i := 2) scCf.nd rfl (Or.inl rfl) (pe_fn D1 hr (pa_cons (pv 0) (pa_cons (pv 1) pa_nil))))
      (pss_cons (ps_set (i := 0) scCf.nd rfl (Or.inl rfl) (pv 1))
      (pss_one (ps_set (i := 1) scCf.nd rfl (Or.inl rfl) (pv 2))))))
    (pss_one (ps_ret (pe_fn D2 (hr.mono (by decide)) (pa_cons (pv 0) pa_nil)))), ?_⟩)
  · obtain ⟨a, b, p, g, S, rfl, _⟩ := h
    rfl
  · obtain ⟨a, b, p, g, S, rfl, hSa, hSb, hop, hog, hpn, hlen, hgl, hA, hB, hsz, k⟩ := h
    refine ⟨CfInv K H p g S, ⟨g.length, a, b, p, g, p.length + g.length + 2, S, none, rfl, Same.refl H, hSa, hSb, hop, hog, hpn, rfl, by omega, hgl, hlen, hA, hB, hsz, rfl⟩, ?_⟩
    rintro m σ H1 ⟨ra, rb, pa, ga, n, S', s2, rfl, e1, e2, e3, e4, e5, e6, e7, e8, e9, e10, e11, e12, e13, rfl⟩
    refine ⟨_, rfl, _, .inl ⟨_, e3, rfl⟩, ?_⟩
    rw [li_isEmpty]
    by_cases c : ga = []
    · refine if_false_of (by simpa using c) ?_
      refine ⟨_, rfl, ra, pa, rfl, e2, e4, e10, fun H5 r' s5' hr5 e5' => ?_⟩
      refine k.later e1 s5' hr5 ?_
      rw [e5']
      congr 3
      unfold igcd
      obtain ⟨n', rfl⟩ : ∃ n', n = n' + 1 := ⟨n - 1, by omega⟩
      rw [e7, igcdL, if_pos c]
    · refine if_true_of (by simpa using c) ⟨fun σ' H'' => ∃ m', m' < ga.length ∧ CfInv K H p g S m' σ' H'', fun _ _ h => h, ?_⟩
      have lg := e5.resolve_left c
      have pl : 1 ≤ pa.length := List.length_pos_iff.mpr e6
      have gl : 1 ≤ ga.length := List.length_pos_iff.mpr c
      have fit : S' + (pa.length + 1) * (S' + 1) ≤ 60000000 := by
        rcases e13 with ⟨h1, h2⟩ | ⟨h1, h2⟩
        · have g2 := Nat.mul_le_mul_left (S' + 1) (gf_ge pa.length ga.length pl)
          have g3 : (S' + 1) * (pa.length + 2) = (pa.length + 1) * (S' + 1) + (S' + 1) := by rw [Nat.mul_comm, ← Nat.succ_mul]
          omega
        · have g2 := Nat.mul_le_mul_left (S' + 1) (gf_ge ga.length pa.length gl)
          have g4 := Nat.mul_le_mul_left (S' + 1) (show pa.length + 2 ≤ ga.length + 2 by omega)
          have g3 : (S' + 1) * (pa.length + 2) = (pa.length + 1) * (S' + 1) + (S' + 1) := by rw [Nat.mul_comm, ← Nat.succ_mul]
          omega
      refine ⟨_, rfl, _, rfl, ra, rb, pa, ga, S', S', rfl, e2, e3, e4, lg, e10, e11, e12, fit, fun H5 r' s5 hr5 e5' => ?_⟩
      obtain ⟨q1, q2, q3⟩ := rem_facts e11 e4 e12 lg
      obtain ⟨n', rfl⟩ : ∃ n', n = n' + 1 := ⟨n - 1, by omega⟩
      have ch : igcdL (n' + 1) pa ga = igcdL n' ga (irem pa ga) := by rw [igcdL, if_neg c]
      rcases e13 with ⟨h1, h2⟩ | ⟨h1, h2⟩
      · have q4 := rem_size e11 e4 e12 lg h1
        have up : S' ≤ (pa.length - ga.length + 2) * (S' + 1) - 1 := by
          have : 1 * (S' + 1) ≤ (pa.length - ga.length + 2) * (S' + 1) := Nat.mul_le_mul_right _ (by omega)
          omega
        refine ⟨_, rfl, _, rfl, (irem pa ga).length, q2, rb, r', ga, irem pa ga, n', (pa.length - ga.length + 2) * (S' + 1) - 1, _, rfl, e1.trans s5, s5.seq e3, seq_lst e5', e5, q3, c, by rw [e7, ch], by omega, by omega, by omega, e12.mono up, q4, .inl ⟨by omega, ?_⟩, rfl⟩
        have p1 : 1 ≤ (pa.length - ga.length + 2) * (S' + 1) := Nat.mul_pos (by omega) (by omega)
        rw [Nat.sub_add_cancel p1]
        have := Nat.mul_le_mul_left (S' + 1) (gf_step h1 q2)
        have e : (pa.length - ga.length + 2) * (S' + 1) * gf ga.length (irem pa ga).length = (S' + 1) * ((pa.length - ga.length + 2) * gf ga.length (irem pa ga).length) := by
          rw [Nat.mul_comm (pa.length - ga.length + 2) (S' + 1), Nat.mul_assoc]
        omega
      · have ie : irem pa ga = prim pa := by unfold irem; rw [prem_short h1]
        have il : (irem pa ga).length = pa.length := by rw [ie, prim_len]
        exact ⟨_, rfl, _, rfl, (irem pa ga).length, q2, rb, r', ga, irem pa ga, n', S', _, rfl, e1.trans s5, s5.seq e3, seq_lst e5', e5, q3, c, by rw [e7, ch], by omega, by omega, by omega, e12, by rw [ie]; exact sz_prim e11, .inl ⟨by omega, by rw [il]; exact h2⟩, rfl⟩
end
end Rc

/-! ## Hh -/
set_option maxHeartbeats 2000000
namespace Rc
open PySem PySem.Spec PyProof.Rows L2 RcF RcG RcH RcI
theorem fdiv_le (a b : Int) : (a.fdiv b).natAbs ≤ a.natAbs := by
  cases a with
  | ofNat m =>
    cases b with
    | ofNat n =>
      cases m with
      | zero => exact Nat.le_refl _
      | succ m => exact Nat.div_le_self (m + 1) n
    | negSucc n =>
      cases m with
      | zero => exact Nat.le_refl _
      | succ m =>
        show m / (n + 1) + 1 ≤ m + 1
        have := Nat.div_le_self m (n + 1)
        omega
  | negSucc m =>
    cases b with
    | ofNat n =>
      cases n with
      | zero => exact Nat.zero_le _
      | succ n =>
        show m / (n + 1) + 1 ≤ m + 1
        have := Nat.div_le_self m (n + 1)
        omega
    | negSucc n => exact Nat.div_le_self (m + 1) (n + 1)
theorem flat_rep (k : Nat) (v : V) : (List.replicate k [v]).flatten = List.replicate k v := by
  induction k with
  | zero => rfl
  | succ k ih => rw [List.replicate_succ, List.flatten_cons, ih, List.replicate_succ]; rfl
theorem li_rep (k : Nat) : List.replicate k (V.int 0) = LI (List.replicate k 0) := by simp [LI]
theorem li_get' {p : List Int} {i : Nat} (h : i < p.length) : (LI p)[i]? = some (.int (ic p i)) := by
  rw [List.getElem?_map, List.getElem?_eq_getElem h, ic_lt _ _ h]
  rfl
theorem isub_lenF (l : List Int) (k : Nat) (f : Int) (g : List Int) : (isub l k f g).length = l.length := by simp [isub]
theorem sz_isub {a b : Nat} {l g : List Int} {k : Nat} {f : Int} (hl : Sz a l) (hg : Sz b g) (hf : f.natAbs < 2 ^ a) : Sz (a + b + 1) (isub l k f g) := by
  intro x hx
  unfold isub at hx
  obtain ⟨j, _, rfl⟩ := List.mem_map.mp hx
  have h1 : (ic l j).natAbs < 2 ^ (a + b) := Nat.lt_of_lt_of_le (hl.ic j) (Nat.pow_le_pow_right (by decide) (by omega))
  split
  · exact sub_lt h1 (mul_lt hf (hg.ic _))
  · rw [Int.sub_zero]
    exact Nat.lt_of_lt_of_le h1 (Nat.pow_le_pow_right (by decide) (by omega))
section
variable {P : Program} {w : World} {K : PySem.W.Frag} {mg : Str → Option Value} {base : Heap}
/-! ### exact_quotient -/
abbrev sEq : Stmt := top 36
abbrev nEq : List Str := ["dividend", "divisor", "rest", "top", "quotient", "shift", "factor", "place", "coefficient"]
theorem scEq : FnScope nEq ["dividend", "divisor"] (defScope sEq) := ⟨rfl, rfl, rfl, by decide +kernel, rfl, by decide +kernel, by decide +kernel⟩
def spEq (K : PySem.W.Frag) : Sp := fun vs H Q _ => ∃ (a b : Addr) (p g : List Int) (A B : Nat), vs = [.ref a, .ref b] ∧ SqL K H a (LI p) ∧ SqL K H b (LI g) ∧ ilast g ≠ 0 ∧ g.length ≤ p.length ∧ p.length ≤ 1000 ∧ Sz A p ∧ Sz B g ∧ A + (p.length + 1) * (B + 1) ≤ 60000000 ∧ RetL H Q (iquot p g)
theorem ok_eq {f : Addr} {fd : FuncData} (F : Fun K "exact_quotient" "exact_quotient" sEq f fd) (B : BI P mg base) : FnOk P w K mg base CX0 42 f fd ["dividend", "divisor"] (spEq K) := by
  refine F.ok scEq (fun vs H Q E h => ?_) (fun cdv A outer s H vs Q E hr h => ⟨_, pss_cons (ps_set (i := 2) scEq.nd rfl (Or.inl rfl) (pe_callTy call_list_of (by rfl) B.list (by decide +kernel) (pa_cons (pv 0) pa_nil)))
    (pss_cons (ps_set (i := 3) scEq.nd rfl (Or.inl rfl) (pe_op op_sub (pe_callB call_len_seq (by rfl) B.len (by decide +kernel) (pa_cons (pv 1) pa_nil)) pe_int))
    (pss_cons (ps_set (i := 4) scEq.nd rfl (Or.inl rfl) (pe_op op_rep (pe_lst (pa_cons pe_int pa_nil)) (pe_op op_sub (pe_callB call_len_seq (by rfl) B.len (by decide +kernel) (pa_cons (pv 0) pa_nil)) (pv 3))))
    (pss_cons (ps_for PassesOwn.never rfl (pi_range3 (by rfl) B.range (pa_cons (pe_op op_sub (pe_callB call_len_seq (by rfl) B.len (by decide +kernel) (pa_cons (pv 4) pa_nil)) pe_int) (pa_cons (pe_un un_neg pe_int) (pa_cons (pe_un un_neg pe_int) pa_nil)))) (pg_name (i := 5) scEq.nd rfl (Or.inl rfl))
      (pss_cons (ps_set (i := 6) scEq.nd rfl (Or.inl rfl) (pe_op (op_divX B.G ⟨_, _, rfl, rfl, rfl, rfl, rfl⟩ hr) (pe_ix ix_list (pv 2) (pe_op op_add (pv 5) (pv 3)) (fun _ _ => rfl)) (pe_ix ix_list (pv 1) (pv 3) (fun _ _ => rfl))))
      (pss_cons (ps_asg (pv 6) (pg_sub (pv 4) (pv 5) set_list))
      (pss_one (ps_for PassesOwn.never rfl (pi_enum (by rfl) B.enumerate (pa_cons (pv 1) pa_nil)) (pg_tup rfl (pgs_cons (pg_name (i := 7) scEq.nd rfl (Or.inl rfl)) (pgs_cons (pg_name (i := 8) scEq.nd rfl (Or.inl rfl)) pgs_nil)))
        (pss_one (ps_augS (pv 2) (pe_op op_add (pv 5) (pv 7)) get_list (pe_op op_mulX (pv 6) (pv 8)) ip_sub set_list)))))))
    (pss_one (ps_ret (pv 4)))))), ?_⟩)
  · obtain ⟨a, b, p, g, A, B, rfl, _⟩ := h
    rfl
  · obtain ⟨a, b, p, g, SA, SB, rfl, hSa, hSb, hlg, hgl, hlen, hA, hB, hsz, k⟩ := h
    have gn : g ≠ [] := by
      intro z
      rw [z] at hlg
      exact hlg rfl
    have gl : 0 < g.length := List.length_pos_iff.mpr gn
    refine ⟨_, rfl, a, _, rfl, .inl hSa, fun r hr0 => ?_⟩
    have s0 := same_new (o := .lst (LI p)) hr0
    refine ⟨_, rfl, b, _, rfl, .inl (s0.seq hSb), _, _, rfl, rfl, ?_⟩
    rw [show (fun i j => V.int (i - j)) ((LI g).length : Int) 1 = V.int ((g.length - 1 : Nat) : Int) from congrArg V.int (by rw [li_len]; omega)]
    refine ⟨by show 1 ≤ sizeLine; decide, fun u hu => ?_⟩
    have s1 := s0.trans (same_new (o := .lst [V.int 0]) hu)
    refine ⟨_, rfl, a, _, rfl, .inl (s1.seq hSa), _, rfl, _, _, rfl, rfl, ?_⟩
    have nle : p.length - (g.length - 1) ≤ 1000 := by omega
    have npos : 0 < p.length - (g.length - 1) := by omega
    generalize hn : p.length - (g.length - 1) = n at nle npos
    refine ⟨u, (n : Int), [V.int 0], rfl, congrArg V.int (by rw [li_len]; omega), upd_same, by omega, by omega, by show 1 * (n : Int).toNat ≤ sizeLine; rw [Int.toNat_natCast, sizeLine_eq]; omega, fun q hq => ?_⟩
    rw [flat_rep, Int.toNat_natCast, li_rep]
    have s2 := s1.trans (same_new (o := .lst (LI (List.replicate n 0))) hq)
    have Hq : H q = none := s1.free hq
    have rq : r ≠ q := fun z => by
      rw [← z, upd_ne (ne_of_none upd_same hu), upd_same] at hq
      cases hq
    refine ⟨_, rfl, q, _, rfl, .inl (seq_lst upd_same), _, _, rfl, rfl, _, rfl, _, rfl, (n : Int) - 1, -1, -1, n, ?_, ?_, for_it walk_rangeC (fun i σ H' => ∃ (rl ql : List Int) (t5 t6 t7 t8 : Option V), σ = [some (.ref a), some (.ref b), some (.ref r), some (.int ((g.length - 1 : Nat) : Int)), some (.ref q), t5, t6, t7, t8] ∧ Same H H' ∧
      H' r = some (.lst (LI rl)) ∧ H' q = some (.lst (LI (List.replicate (n - i) 0 ++ ql))) ∧ iquotL n p g [] = iquotL (n - i) rl g ql ∧ rl.length = p.length ∧ Sz (SA + i * (SB + 1)) rl)
      ⟨p, [], none, none, none, none, rfl, s2, by rw [upd_ne rq, upd_ne (ne_of_none upd_same hu), upd_same], by rw [upd_same, Nat.sub_zero, List.append_nil], rfl, rfl, by rw [Nat.zero_mul]; exact hA⟩ (fun _ _ _ _ _ => True.intro) ?_ ?_⟩
    · rw [li_len, List.length_replicate]
    · have := RgC.neg (i := (n : Int) - 1) (j := -1) (by omega) (by omega) (by omega) (by omega)
      rwa [show ((n : Int) - 1 - -1).toNat = n by omega] at this
    · rintro i x σ H1 H2 hi ⟨rl, ql, t5, t6, t7, t8, rfl, e1, e2, e3, e4, e5, e6⟩ ⟨rfl, rfl⟩
      have mi : i * (SB + 1) + (SB + 1) ≤ (p.length + 1) * (SB + 1) := by
        rw [← Nat.succ_mul]
        exact Nat.mul_le_mul_right _ (by omega)
      obtain ⟨sh, hsh⟩ : ∃ sh, n - i = sh + 1 := ⟨n - i - 1, by omega⟩
      rw [hsh] at e3 e4
      have at1 : atI (LI rl) ((n : Int) - 1 + (i : Nat) * -1 + ((g.length - 1 : Nat) : Int)) = some (.int (ic rl (sh + (g.length - 1)))) := at_of (j := sh + (g.length - 1)) (by omega) (li_get' (by omega))
      have at2 : atI (LI g) ((g.length - 1 : Nat) : Int) = some (.int (ilast g)) := by
        rw [ilast_ic]
        exact at_of (j := g.length - 1) rfl (li_get' (by omega))
      refine ⟨_, rfl, _, rfl, _, rfl, _, _, rfl, rfl, r, _, _, _, rfl, rfl, seq_lst e2, at1, _, rfl, _, rfl, b, _, _, _, rfl, rfl, e1.seq hSb, at2, _, _, rfl, rfl, hlg, ?_⟩
      have fs : ((ic rl (sh + (g.length - 1))).fdiv (ilast g)).natAbs < 2 ^ (SA + i * (SB + 1)) := Nat.lt_of_le_of_lt (fdiv_le _ _) (e6.ic _)
      rw [iquotL] at e4
      generalize hf : (ic rl (sh + (g.length - 1))).fdiv (ilast g) = fc at fs e4
      rw [show (fun (i j : Int) => V.int (i.fdiv j)) (ic rl (sh + (g.length - 1))) (ilast g) = V.int fc from congrArg V.int hf]
      refine ⟨_, rfl, _, rfl, _, rfl, q, _, _, sh, rfl, rfl, e3, ?_, ?_⟩
      · unfold ixN
        rw [li_len, List.length_append, List.length_replicate, if_pos (by omega), if_pos (by omega)]
        congr 1
        omega
      · have e3' : (LI (List.replicate (sh + 1) 0 ++ ql)).set sh (V.int fc) = LI (List.replicate sh 0 ++ fc :: ql) := by
          rw [← li_set]
          congr 1
          rw [List.replicate_succ', List.append_assoc, List.set_append, if_neg (by simp), List.length_replicate, Nat.sub_self]
          rfl
        rw [e3']
        have e1' : Same H (upd H2 q (.lst (LI (List.replicate sh 0 ++ fc :: ql)))) := same_upd e1 Hq
        refine ⟨_, rfl, b, _, rfl, e1'.seq hSb, for_it (walk_enum (K := K) (a := b) (xs := LI g)) (fun j σ H3 => ∃ t7 t8 : Option V, σ = [some (.ref a), some (.ref b), some (.ref r), some (.int ((g.length - 1 : Nat) : Int)), some (.ref q), some (.int ((n : Int) - 1 + (i : Nat) * -1)), some (.int fc), t7, t8] ∧ H3 r = some (.lst (LI (subTo rl sh fc g j))) ∧
          H3 q = some (.lst (LI (List.replicate sh 0 ++ fc :: ql))) ∧ Same H H3) ⟨_, _, rfl, by rw [upd_ne rq, subTo_zero]; exact e2, upd_same, e1'⟩ (fun j σ H3 _ ⟨_, _, _, _, _, q⟩ => q.seq hSb) ?_ ?_⟩
        · rintro j x σ H3 H4 hj ⟨t7, t8, rfl, q1, q2, q3⟩ ⟨T, x', y', rfl, hT, rfl, h3, h4⟩
          obtain ⟨z, hz, rfl⟩ := li_get h4
          obtain rfl := Option.some.inj h3
          have hj' : j < g.length := by simpa using hj
          have nr : r ≠ T := fun w => by
            rw [← w, q1] at hT
            cases hT
          have nq : q ≠ T := fun w => by
            rw [← w, q2] at hT
            cases hT
          have zs : z.natAbs < 2 ^ SB := hB z (List.mem_of_getElem? hz)
          have hki : sh + j < rl.length := by omega
          have q4 : (upd H3 T (.tup [.int ((j : Nat) : Int), .int z])) r = some (.lst (LI (subTo rl sh fc g j))) := by rw [upd_ne nr]; exact q1
          have gj : ic g j = z := by
            obtain ⟨h5, h6⟩ := List.getElem?_eq_some_iff.mp hz
            rw [ic_lt _ _ h5, h6]
          have at3 : (LI (subTo rl sh fc g j))[sh + j]? = some (.int (ic rl (sh + j))) := by
            rw [List.getElem?_map, subTo_get hki, if_neg (by omega), Int.sub_zero]
            rfl
          refine ⟨T, _, rfl, .inl (.inl upd_same), rfl, _, _, rfl, _, _, rfl, rfl, ?_⟩
          refine ⟨_, rfl, _, rfl, _, rfl, _, _, rfl, rfl, r, _, sh + j, _, rfl, congrArg V.int (by omega), seq_lst q4, at3, _, rfl, _, rfl, _, _, rfl, rfl, mulx_ok fs zs (by omega), _, _, rfl, rfl, r, _, _, sh + j, rfl, rfl, q4, ?_, _, _, rfl, ?_, ?_, ?_⟩
          · unfold ixN
            rw [li_len, subTo_len, if_pos (by omega), if_pos (by omega)]
            congr 1
            omega
          · rw [upd_same, ← subTo_set hki, gj, li_set]
          · rw [upd_ne rq.symm, upd_ne nq]
            exact q2
          · exact same_upd (q3.trans (same_new hT)) hr0
        · rintro σ H3 ⟨t7, t8, rfl, q1, q2, q3⟩
          rw [li_len, subTo_all] at q1
          refine ⟨isub rl sh fc g, fc :: ql, _, _, _, _, rfl, q3, q1, ?_, ?_, by rw [isub_lenF]; exact e5, ?_⟩
          · rw [show n - (i + 1) = sh by omega]
            exact q2
          · rw [show n - (i + 1) = sh by omega]
            exact e4
          · refine (sz_isub e6 hB fs).mono ?_
            rw [Nat.succ_mul]
            omega
    · rintro σ H1 ⟨rl, ql, t5, t6, t7, t8, rfl, e1, e2, e3, e4, e5, e6⟩
      rw [Nat.sub_self] at e3 e4
      refine ⟨_, rfl, k H1 q e1 Hq ?_⟩
      rw [e3]
      congr 3
      show [] ++ ql = iquot p g
      unfold iquot
      rw [hn, e4]
      rfl
end
end Rc

/-! ## Hi -/
set_option maxHeartbeats 2000000
namespace Rc
open PySem PySem.Spec PyProof.Rows L2 RcF RcG RcH RcI RcJ
/-- lists at these addresses -/
def Lists (H : Hp) : List Addr → List (List Int) → Prop
  | [], [] => True
  | r :: rs, p :: ps => H r = some (.lst (LI p)) ∧ Lists H rs ps
  | _, _ => False
theorem Lists.len {H : Hp} : ∀ {rs : List Addr} {ps : List (List Int)}, Lists H rs ps → rs.length = ps.length
  | [], [], _ => rfl
  | _ :: _, _ :: _, h => congrArg (· + 1) h.2.len
  | [], _ :: _, h => h.elim
  | _ :: _, [], h => h.elim
theorem Lists.same {H H1 : Hp} : ∀ {rs : List Addr} {ps : List (List Int)}, Lists H rs ps → (∀ r ∈ rs, ∀ o, H r = some o → H1 r = some o) → Lists H1 rs ps
  | [], [], _, _ => True.intro
  | r :: _, _ :: _, h, k => ⟨k r (by simp) _ h.1, h.2.same fun r hr => k r (by simp [hr])⟩
  | [], _ :: _, h, _ => h.elim
  | _ :: _, [], h, _ => h.elim
theorem Lists.get {H : Hp} : ∀ {rs : List Addr} {ps : List (List Int)} {i : Nat} {r : Addr}, Lists H rs ps → rs[i]? = some r → ∃ p, ps[i]? = some p ∧ H r = some (.lst (LI p))
  | [], [], i, r, _, e => by simp at e
  | r0 :: rs, p :: ps, 0, r, h, e => by
    obtain rfl : r0 = r := by simpa using e
    exact ⟨p, rfl, h.1⟩
  | r0 :: rs, p :: ps, i + 1, r, h, e => by
    obtain ⟨q, h1, h2⟩ := Lists.get (i := i) (r := r) h.2 (by simpa using e)
    exact ⟨q, by simpa using h1, h2⟩
  | [], _ :: _, _, _, h, _ => h.elim
  | _ :: _, [], _, _, h, _ => h.elim
theorem Lists.snoc {H : Hp} {r : Addr} {p : List Int} (hr : H r = some (.lst (LI p))) : ∀ {rs : List Addr} {ps : List (List Int)}, Lists H rs ps → Lists H (rs ++ [r]) (ps ++ [p])
  | [], [], _ => ⟨hr, True.intro⟩
  | _ :: _, _ :: _, h => ⟨h.1, Lists.snoc hr h.2⟩
  | [], _ :: _, h => h.elim
  | _ :: _, [], h => h.elim
abbrev RI (rs : List Addr) : List V := rs.map V.ref
theorem ri_get {rs : List Addr} {i : Nat} {x : V} (h : (RI rs)[i]? = some x) : ∃ r, rs[i]? = some r ∧ x = .ref r := by
  rw [List.getElem?_map] at h
  cases e : rs[i]? with
  | none => rw [e] at h; cases h
  | some z => rw [e] at h; exact ⟨z, rfl, (Option.some.inj h).symm⟩
theorem ri_snoc (rs : List Addr) (r : Addr) : RI (rs ++ [r]) = RI rs ++ [.ref r] := by simp [RI]
theorem ri_len (rs : List Addr) : (RI rs).length = rs.length := List.length_map _
/-- a new list of lists is handed back -/
def RetLL (H : Hp) (Q : VK) (ps : List (List Int)) : Prop := ∀ (H' : Hp) (l : Addr) (rs : List Addr), Same H H' → H l = none → H' l = some (.lst (RI rs)) → Lists H' rs ps → Q (.ref l) H'
section
variable {P : Program} {w : World} {K : PySem.W.Frag} {mg : Str → Option Value} {base : Heap}
/-! ### multiplicity_layers -/
abbrev sLay : Stmt := top 65
abbrev nLay : List Str := ["polynomial", "layers", "repeated"]
theorem scLay : FnScope nLay ["polynomial"] (defScope sLay) := ⟨rfl, rfl, rfl, by decide +kernel, rfl, by decide +kernel, by decide +kernel⟩
def spLay : Sp := fun vs H Q _ => ∃ (a : Addr) (p : List Int), vs = [.ref a] ∧ H a = some (.lst (LI p)) ∧ Ok p ∧ p.length ≤ 9 ∧ Sz 1000 p ∧ RetLL H Q (ilayers p.length p)
def LayInv (H : Hp) (p : List Int) (m : Nat) (σ : L2.St) (H1 : Hp) : Prop :=
  ∃ (ra l : Addr) (pa : List Int) (rs : List Addr) (ps : List (List Int)) (n j : Nat) (s2 : Option V), σ = [some (.ref ra), some (.ref l), s2] ∧ Same H H1 ∧ H l = none ∧ H1 ra = some (.lst (LI pa)) ∧ Ok pa ∧ H1 l = some (.lst (RI rs)) ∧ Lists H1 rs ps ∧ (∀ r ∈ rs, r ≠ l) ∧
    ra ≠ l ∧ ilayers p.length p = ps ++ ilayers n pa ∧ pa.length ≤ n ∧ pa.length + j ≤ 9 ∧ Sz (1000 + 91 * j) pa ∧ ps.length ≤ j ∧ pa.length = m
theorem ok_lay {f : Addr} {fd : FuncData} (F : Fun K "multiplicity_layers" "multiplicity_layers" sLay f fd) (B : BI P mg base) (D1 : Dn P w K mg base "whole_derivative" 1 ["polynomial"] (spDer K)) (D2 : Dn P w K mg base "common_factor" 44 ["first", "second"] (spCf K))
    (D3 : Dn P w K mg base "exact_quotient" 42 ["dividend", "divisor"] (spEq K)) : FnOk P w K mg base CX0 45 f fd ["polynomial"] spLay := by
  refine F.ok scLay (fun vs H Q E h => ?_) (fun cdv A outer s H vs Q E hr h => ⟨_, pss_cons (ps_set (i := 1) scLay.nd rfl (Or.inl rfl) (pe_lst pa_nil))
    (pss_cons (ps_while PassesOwn.never (pt_cmpR op_gt (pe_callB call_len_seq (by rfl) B.len (by decide +kernel) (pa_cons (pv 0) pa_nil)) pe_int (nomark _))
      (pss_cons (ps_set (i := 2) scLay.nd rfl (Or.inl rfl) (pe_fn D2 hr (pa_cons (pv 0) (pa_cons (pe_fn D1 (hr.mono (by decide)) (pa_cons (pv 0) pa_nil)) pa_nil))))
      (pss_cons (ps_expr (pe_bm PySem.F.plainAttrs_list PySem.F.slot_list_append PySem.F.type_list_append mt_append (pv 1) (pa_cons (pe_fn D3 (hr.mono (by decide)) (pa_cons (pv 0) (pa_cons (pv 2) pa_nil))) pa_nil)))
      (pss_one (ps_set (i := 0) scLay.nd rfl (Or.inl rfl) (pv 2))))))
    (pss_one (ps_ret (pv 1)))), ?_⟩)
  · obtain ⟨a, p, rfl, _⟩ := h
    rfl
  · obtain ⟨a, p, rfl, hS, ho, h9, hs, k⟩ := h
    refine ⟨by show 0 ≤ sizeLine; exact Nat.zero_le _, fun l hl => ?_⟩
    refine ⟨LayInv H p, ⟨p.length, a, l, p, [], [], p.length, 0, none, rfl, same_new hl, hl, same_new hl _ _ hS, ho, upd_same, True.intro, (fun r hr => by simp at hr), ne_of_none hS hl, rfl, Nat.le_refl _, h9, by rw [Nat.mul_zero]; exact hs, Nat.le_refl _, rfl⟩, ?_⟩
    clear hl
    rintro m σ H1 ⟨ra, l, pa, rs, ps, n, j, s2, rfl, e1, e2, e3, e4, e5, e6, e7, e8, e9, e10, e11, e12, e13, rfl⟩
    refine ⟨_, rfl, ra, _, rfl, .inl (seq_lst e3), _, _, rfl, rfl, _, rfl, ?_⟩
    by_cases c : pa.length ≤ 1
    · refine if_false_of (by rw [li_len]; simp; omega) ⟨_, rfl, k H1 l rs e1 e2 e5 ?_⟩
      have : ilayers n pa = [] := by
        cases n with
        | zero => rfl
        | succ n => rw [ilayers, if_pos c]
      rw [e9, this, List.append_nil]
      exact e6
    · refine if_true_of (by rw [li_len]; simp; omega) ⟨fun σ' H'' => ∃ m', m' < pa.length ∧ LayInv H p m' σ' H'', fun _ _ h => h, ?_⟩
      obtain ⟨f1, f2, f3, f4, f5, f6, f7, f8⟩ := layer_facts e4 (by omega) (by omega) e12
      have pn : pa ≠ [] := by
        intro z
        rw [z] at c
        exact c (Nat.zero_le _)
      have hb : (1000 + 91 * j + 4 + 1) * gf pa.length (ider pa).length ≤ 50000000 := by
        rw [ider_len]
        have g1 : gf pa.length (pa.length - 1) = 3 ^ pa.length := by unfold gf; rw [if_neg (by omega)]
        have g2 : 3 ^ pa.length ≤ 3 ^ 9 := Nat.pow_le_pow_right (by decide) (by omega)
        rw [g1]
        exact Nat.le_trans (Nat.mul_le_mul (show 1000 + 91 * j + 4 + 1 ≤ 1824 by omega) g2) (by decide)
      refine ⟨_, rfl, _, rfl, ra, pa, rfl, seq_lst e3, by omega, fun H2 d s2' hd ed => ?_⟩
      refine ⟨ra, d, pa, ider pa, 1000 + 91 * j + 4, rfl, seq_lst (s2' _ _ e3), seq_lst ed, e4, ok_ider e4, pn, by omega, by rw [ider_len]; omega, e12.mono (by omega), sz_ider e12 (by omega), .inl ⟨by rw [ider_len]; omega, hb⟩, fun H3 g s3 hg eg => ?_⟩
      have t3 := s2'.trans s3
      have gb : 1000 + 91 * j + (pa.length + 1) * (1000 + 91 * (j + 1) + 1) ≤ 60000000 :=
        Nat.le_trans (Nat.add_le_add (show 1000 + 91 * j ≤ 2000 by omega) (Nat.mul_le_mul (show pa.length + 1 ≤ 10 by omega) (show 1000 + 91 * (j + 1) + 1 ≤ 2000 by omega))) (by decide)
      refine ⟨_, rfl, .inl ⟨rfl, _, seq_lst (t3 _ _ e5)⟩, _, rfl, _, rfl, ra, g, pa, igcd pa (ider pa), 1000 + 91 * j, 1000 + 91 * (j + 1), rfl, seq_lst (t3 _ _ e3), seq_lst eg, f1.resolve_left f2, by omega, by omega, e12, f4, gb, fun H4 q s4 hq eq => ?_⟩
      have t4 := t3.trans s4
      have ql : q ≠ l := fun z => by
        rw [z, t3 _ _ e5] at hq
        cases hq
      have gl : g ≠ l := fun z => by
        rw [z, s2' _ _ e5] at hg
        cases hg
      refine ⟨l, _, _, rfl, rfl, t4 _ _ e5, small1000 (by rw [ri_len, e6.len]; omega), ?_⟩
      obtain ⟨n', rfl⟩ : ∃ n', n = n' + 1 := ⟨n - 1, by omega⟩
      refine ⟨_, rfl, (igcd pa (ider pa)).length, f3, g, l, igcd pa (ider pa), rs ++ [q], ps ++ [iquot pa (igcd pa (ider pa))], n', j + 1, _, rfl, same_upd (e1.trans t4) e2, e2, ?_, f1, ?_, ?_, ?_, gl, ?_, by omega, by omega, f4, by rw [List.length_append]; exact Nat.succ_le_succ e13, rfl⟩
      · rw [upd_ne gl]
        exact s4 _ _ eg
      · rw [upd_same, ri_snoc]
      · refine Lists.snoc (by rw [upd_ne ql]; exact eq) (e6.same fun r hr o ho => ?_)
        rw [upd_ne (e7 r hr)]
        exact t4 _ _ ho
      · intro r hr
        rcases List.mem_append.mp hr with hr | hr
        · exact e7 r hr
        · obtain rfl := List.mem_singleton.mp hr
          exact ql
      · rw [e9, ilayers, if_neg c, List.append_assoc]
        rfl
end
end Rc

/-! ## Hj -/
set_option maxHeartbeats 2000000
namespace Rc
open PySem PySem.Spec PyProof.Rows L2 RcF RcG RcH RcI RcJ
theorem atI_last2 {α : Type} (xs : List α) (v w : α) : atI (xs ++ [v, w]) (-2) = some v := by
  unfold atI ixN
  have e : (xs ++ [v, w]).length = xs.length + 2 := by simp
  rw [e, if_neg (by omega), if_pos (by omega)]
  have e2 : ((-2 : Int) + ((xs.length + 2 : Nat) : Int)).toNat = xs.length := by omega
  rw [e2]
  show (xs ++ [v, w])[xs.length]? = some v
  simp
section
variable {P : Program} {w : World} {K : PySem.W.Frag} {mg : Str → Option Value} {base : Heap}
/-! ### sturm_chain -/
abbrev sCh : Stmt := top 66
abbrev nCh : List Str := ["polynomial", "chain", "following", "coefficient"]
theorem scCh : FnScope nCh ["polynomial"] (defScope sCh) := ⟨rfl, rfl, rfl, by decide +kernel, rfl, by decide +kernel, by decide +kernel⟩
def spCh : Sp := fun vs H Q _ => ∃ (a : Addr) (p : List Int), vs = [.ref a] ∧ H a = some (.lst (LI p)) ∧ Ok p ∧ p ≠ [] ∧ p.length ≤ 9 ∧ Sz 2000 p ∧ RetLL H Q (ichain p)
def ChInv (H : Hp) (a : Addr) (p : List Int) (m : Nat) (σ : L2.St) (H1 : Hp) : Prop :=
  ∃ (l ra rb : Addr) (rs : List Addr) (ds : List (List Int)) (pa ga : List Int) (n S : Nat) (s3 : Option V), σ = [some (.ref a), some (.ref l), some (.ref rb), s3] ∧ Same H H1 ∧ H l = none ∧ H1 l = some (.lst (RI (rs ++ [ra]))) ∧ Lists H1 (rs ++ [ra]) (ds ++ [pa]) ∧ (∀ r ∈ rs ++ [ra], r ≠ l) ∧
    H1 rb = some (.lst (LI ga)) ∧ rb ≠ l ∧ H1 ra = some (.lst (LI pa)) ∧ Ok pa ∧ Ok ga ∧ ichain p = ds ++ ichainL n pa ga ∧ ga.length < n ∧ ga.length ≤ pa.length ∧ pa.length ≤ 9 ∧ Sz S pa ∧ Sz S ga ∧ (S + 1) * gf pa.length ga.length ≤ 50000000 ∧ ds.length + ga.length ≤ 9 ∧ rs.length = ds.length ∧ pa ≠ [] ∧ ga.length = m
theorem ok_ch {f : Addr} {fd : FuncData} (F : Fun K "sturm_chain" "sturm_chain" sCh f fd) (B : BI P mg base) (D1 : Dn P w K mg base "whole_derivative" 1 ["polynomial"] (spDer K)) (D2 : Dn P w K mg base "scaled_remainder" 43 ["dividend", "divisor"] (spRem K)) :
    FnOk P w K mg base CX0 44 f fd ["polynomial"] spCh := by
  refine F.ok scCh (fun vs H Q E h => ?_) (fun cdv A outer s H vs Q E hr h => ⟨_, pss_cons (ps_set (i := 1) scCh.nd rfl (Or.inl rfl) (pe_lst (pa_cons (pv 0) pa_nil)))
    (pss_cons (ps_set (i := 2) scCh.nd rfl (Or.inl rfl) (pe_fn D1 (hr.mono (by decide)) (pa_cons (pv 0) pa_nil)))
    (pss_cons (ps_while PassesOwn.never (pt_truth (pv 2) (fun _ => rfl))
      (pss_cons (ps_expr (pe_bm PySem.F.plainAttrs_list PySem.F.slot_list_append PySem.F.type_list_append mt_append (pv 1) (pa_cons (pv 2) pa_nil)))
      (pss_one (ps_setLc (i := 2) (own := [("coefficient", 3)]) (g := gName 3) (tt := tYes) rfl scCh.nd rfl rfl (sw_true rfl rfl rfl (by decide +kernel)) (pi_list (pe_fn D2 hr (pa_cons (pe_ix ix_list (pv 1) (pe_un un_neg pe_int) (fun _ _ => rfl)) (pa_cons (pe_ix ix_list (pv 1) (pe_un un_neg pe_int) (fun _ _ => rfl)) pa_nil))))
        (blkOk_by (N := nCh) (sc := defScope sCh) (by decide +kernel)) (fun _ _ _ _ _ => pg_name (i := 3) scCh.nd rfl (Or.inl rfl)) (fun _ _ _ _ _ => pts_nil) (fun _ _ _ _ _ => pe_un un_neg (pv 3))))))
    (pss_one (ps_ret (pv 1))))), ?_⟩)
  · obtain ⟨a, p, rfl, _⟩ := h
    rfl
  · obtain ⟨a, p, rfl, hS, ho, hpn, h9, hs, k⟩ := h
    refine ⟨_, rfl, by show 1 ≤ sizeLine; decide, fun l hl => ?_⟩
    have al : a ≠ l := ne_of_none hS hl
    have t0 := same_new (o := .lst [V.ref a]) hl
    refine ⟨_, rfl, a, p, rfl, seq_lst (t0 _ _ hS), by omega, fun H1 d s1 hd ed => ?_⟩
    have dl : d ≠ l := fun z => by
      rw [z, upd_same] at hd
      cases hd
    have hb : (2004 + 1) * gf p.length (ider p).length ≤ 50000000 := by
      rw [ider_len]
      have pl := List.length_pos_iff.mpr hpn
      have g1 : gf p.length (p.length - 1) = 3 ^ p.length := by unfold gf; rw [if_neg (by omega)]
      have g2 : 3 ^ p.length ≤ 3 ^ 9 := Nat.pow_le_pow_right (by decide) (by omega)
      rw [g1]
      exact Nat.le_trans (Nat.mul_le_mul_left _ g2) (by decide)
    refine ⟨ChInv H a p, ⟨(ider p).length, l, a, d, [], [], p, ider p, p.length + 1, 2004, none, rfl, t0.trans s1, hl, s1 _ _ upd_same, ⟨s1 _ _ (t0 _ _ hS), True.intro⟩, (fun r hr => by simp at hr; rw [hr]; exact al), ed, dl, s1 _ _ (t0 _ _ hS), ho, ok_ider ho, rfl, by rw [ider_len]; omega, by rw [ider_len]; omega, h9, hs.mono (by decide), sz_ider hs h9, hb, by rw [ider_len]; show 0 + (p.length - 1) ≤ 9; omega, rfl, hpn, rfl⟩, ?_⟩
    clear hl al dl
    rintro m σ H2 ⟨l, ra, rb, rs, ds, pa, ga, n, S, s3, rfl, e1, e2, e3, e4, e5, e6, e7, e8, e9, e10, e11, e12, e13, e14, e15, e16, e17, e18, e19, e20, rfl⟩
    refine ⟨_, rfl, _, .inl ⟨_, seq_lst e6, rfl⟩, ?_⟩
    rw [li_isEmpty]
    obtain ⟨n', rfl⟩ : ∃ n', n = n' + 1 := ⟨n - 1, by omega⟩
    by_cases c : ga = []
    · refine if_false_of (by simpa using c) ⟨_, rfl, k H2 l (rs ++ [ra]) e1 e2 e3 ?_⟩
      rw [e11, ichainL, if_pos c]
      exact e4
    · refine if_true_of (by simpa using c) ⟨fun σ' H'' => ∃ m', m' < ga.length ∧ ChInv H a p m' σ' H'', fun _ _ h => h, ?_⟩
      have lg := e10.resolve_left c
      have pl : 1 ≤ pa.length := List.length_pos_iff.mpr e20
      have g2 := Nat.mul_le_mul_left (S + 1) (gf_ge pa.length ga.length pl)
      have g3 : (S + 1) * (pa.length + 2) = (pa.length + 1) * (S + 1) + (S + 1) := by rw [Nat.mul_comm, ← Nat.succ_mul]
      obtain ⟨q1, q2, q3⟩ := rem_facts e15 e9 e16 lg
      have q4 := rem_size e15 e9 e16 lg e13
      have rl2 : ra ≠ l := e5 ra (by simp)
      refine ⟨_, rfl, .inl ⟨rfl, _, seq_lst e3⟩, _, rfl, l, _, _, rfl, rfl, e3, small1000 (by rw [ri_len, List.length_append]; simp; omega), ?_⟩
      -- chain[-2], chain[-1]
      have lst3 : RI (rs ++ [ra]) ++ [V.ref rb] = RI rs ++ [V.ref ra, V.ref rb] := by rw [ri_snoc, List.append_assoc]; rfl
      rw [lst3]
      generalize hH3 : upd H2 l (HO.lst (RI rs ++ [V.ref ra, V.ref rb])) = H3
      have s3' : ∀ {b : Addr} {o : HO}, b ≠ l → H2 b = some o → H3 b = some o := fun {b o} hb h => by rw [← hH3, upd_ne hb]; exact h
      have e3' : H3 l = some (.lst (RI rs ++ [V.ref ra, V.ref rb])) := by rw [← hH3, upd_same]
      have e1' : Same H H3 := by rw [← hH3]; exact same_upd e1 e2
      have i2 : atI (RI rs ++ [V.ref ra, V.ref rb]) (-2) = some (.ref ra) := atI_last2 _ _ _
      have i1 : atI (RI rs ++ [V.ref ra, V.ref rb]) (-1) = some (.ref rb) := by
        have : RI rs ++ [V.ref ra, V.ref rb] = (RI rs ++ [V.ref ra]) ++ [V.ref rb] := by simp
        rw [this, atI_last]
      refine ⟨_, rfl, _, rfl, l, _, _, _, rfl, rfl, seq_lst e3', i2, _, rfl, _, rfl, l, _, _, _, rfl, rfl, seq_lst e3', i1, ?_⟩
      refine ⟨ra, rb, pa, ga, S, S, rfl, seq_lst (s3' rl2 e8), seq_lst (s3' e7 e6), e9, lg, by omega, e15, e16, by omega, fun H4 r s4 hr4 er4 => ?_⟩
      refine ⟨r, rfl, ⟨_, seq_lst er4⟩, fun D hD => lc_list (K := K) (a := r) (xs := LI (irem pa ga)) (fun i H5 => H5 = upd H4 D (.lst (LI ((ineg (irem pa ga)).take i)))) rfl (fun i H5 _ e => by rw [e]; exact (same_new hD).seq (seq_lst er4)) ?_ ?_⟩
      · rintro i x H5 hi rfl
        obtain ⟨z, hz, rfl⟩ := li_get hi
        refine ⟨rfl, ?_⟩
        refine ⟨_, rfl, _, rfl, _, upd_same, small1000 (by rw [li_len, List.length_take, ineg_len]; omega), ?_⟩
        rw [upd_upd]
        congr 2
        have e : (ineg (irem pa ga))[i]? = some (-z) := by
          unfold ineg
          rw [List.getElem?_map, hz]
          rfl
        rw [take_more e, li_snoc]
      · rintro H5 rfl
        rw [li_len, List.take_of_length_le (by rw [ineg_len]; exact Nat.le_refl _)]
        have t5 := s4.trans (same_new (o := .lst (LI (ineg (irem pa ga)))) hD)
        have Dl : D ≠ l := fun z => by
          rw [z, s4 _ _ e3'] at hD
          cases hD
        have up : S ≤ (pa.length - ga.length + 2) * (S + 1) - 1 := by
          have : 1 * (S + 1) ≤ (pa.length - ga.length + 2) * (S + 1) := Nat.mul_le_mul_right _ (by omega)
          omega
        have p1 : 1 ≤ (pa.length - ga.length + 2) * (S + 1) := Nat.mul_pos (by omega) (by omega)
        refine ⟨(ineg (irem pa ga)).length, by rw [ineg_len]; exact q2, l, rb, D, rs ++ [ra], ds ++ [pa], ga, ineg (irem pa ga), n', (pa.length - ga.length + 2) * (S + 1) - 1, _, rfl, e1'.trans t5, e2, ?_, ?_, ?_, upd_same, Dl, t5 _ _ (s3' e7 e6), e10, ok_ineg q3, ?_, by rw [ineg_len]; omega, by rw [ineg_len]; omega, by omega, e16.mono up, sz_ineg q4, ?_, ?_, ?_, c, rfl⟩
        · rw [t5 _ _ e3', ri_snoc, ri_snoc, List.append_assoc]
          rfl
        · refine Lists.snoc (t5 _ _ (s3' e7 e6)) (e4.same fun r' hr' o ho => t5 _ _ (s3' (e5 r' hr') ho))
        · intro r' hr'
          rcases List.mem_append.mp hr' with hr' | hr'
          · exact e5 r' hr'
          · obtain rfl := List.mem_singleton.mp hr'
            exact e7
        · rw [e11, ichainL, if_neg c, List.append_assoc]
          rfl
        · rw [Nat.sub_add_cancel p1, ineg_len]
          have := Nat.mul_le_mul_left (S + 1) (gf_step e13 q2)
          have e : (pa.length - ga.length + 2) * (S + 1) * gf ga.length (irem pa ga).length = (S + 1) * ((pa.length - ga.length + 2) * gf ga.length (irem pa ga).length) := by
            rw [Nat.mul_comm (pa.length - ga.length + 2) (S + 1), Nat.mul_assoc]
          omega
        · rw [List.length_append, ineg_len]
          show ds.length + 1 + _ ≤ 9
          omega
        · rw [List.length_append, List.length_append, e19]
          rfl
end
end Rc

/-! ## Hk -/
set_option maxHeartbeats 2000000
namespace Rc
open PySem PySem.Spec PyProof.Rows L2 RcF RcG RcH RcI RcJ
/-- a pair of whole numbers at t -/
def Pair (K : PySem.W.Frag) (H : Hp) (t : Addr) (n d : Int) : Prop := SqT K H t [.int n, .int d]
theorem pair_same {K : PySem.W.Frag} {H H1 : Hp} {t : Addr} {n d : Int} (s : Same H H1) (h : Pair K H t n d) : Pair K H1 t n d := by
  rcases h with (h | ⟨o, h⟩) | h
  · exact .inl (.inl (s _ _ h))
  · exact .inl (.inr ⟨o, s _ _ h⟩)
  · exact .inr h
theorem isc_fold (l : Int) (x : Int) (r : List Int) : isc l (x :: r) = (if x * l < 0 then 1 else 0) + isc (if x ≠ 0 then x else l) r := rfl
section
variable {P : Program} {w : World} {K : PySem.W.Frag} {mg : Str → Option Value} {base : Heap}
/-! ### sign_changes -/
abbrev sSc : Stmt := top 67
abbrev nSc : List Str := ["chain", "point", "numerator", "denominator", "changes", "last", "polynomial", "value"]
theorem scSc : FnScope nSc ["chain", "point"] (defScope sSc) := ⟨rfl, rfl, rfl, by decide +kernel, rfl, by decide +kernel, by decide +kernel⟩
def spSc (K : PySem.W.Frag) : Sp := fun vs H Q _ => ∃ (l t : Addr) (rs : List Addr) (ps : List (List Int)) (n d : Int) (A : Nat), vs = [.ref l, .ref t] ∧ H l = some (.lst (RI rs)) ∧ Lists H rs ps ∧ Pair K H t n d ∧ (∀ p ∈ ps, Sz 40000000 p ∧ p.length ≤ 9) ∧ n.natAbs < 2 ^ A ∧ d.natAbs < 2 ^ A ∧ A ≤ 1000000 ∧ Q (.int (ichanges ps n d : Nat)) H
theorem ok_sc {f : Addr} {fd : FuncData} (F : Fun K "sign_changes" "sign_changes" sSc f fd) (B : BI P mg base) (D1 : Dn P w K mg base "scaled_value" 1 ["polynomial", "numerator", "denominator"] (spVal K)) : FnOk P w K mg base CX0 2 f fd ["chain", "point"] (spSc K) := by
  refine F.ok scSc (fun vs H Q E h => ?_) (fun cdv A outer s H vs Q E hr h => ⟨_, pss_cons (ps_asg (pv 1) (pg_tup rfl (pgs_cons (pg_name (i := 2) scSc.nd rfl (Or.inl rfl)) (pgs_cons (pg_name (i := 3) scSc.nd rfl (Or.inl rfl)) pgs_nil))))
    (pss_cons (ps_set (i := 4) scSc.nd rfl (Or.inl rfl) pe_int)
    (pss_cons (ps_set (i := 5) scSc.nd rfl (Or.inl rfl) pe_int)
    (pss_cons (ps_for PassesOwn.never rfl (pi_list (pv 0)) (pg_name (i := 6) scSc.nd rfl (Or.inl rfl))
      (pss_cons (ps_set (i := 7) scSc.nd rfl (Or.inl rfl) (pe_fn D1 hr (pa_cons (pv 6) (pa_cons (pv 2) (pa_cons (pv 3) pa_nil)))))
      (pss_cons (ps_if (pt_cmpR op_lt (pe_op op_mulX (pv 7) (pv 5)) pe_int (nomark _)) (pss_one (ps_aug (i := 4) scSc.nd rfl (Or.inl rfl) pe_int ip_add)) pss_nil)
      (pss_one (ps_if (pt_cmpR op_ne (pv 7) pe_int (nomark _)) (pss_one (ps_set (i := 5) scSc.nd rfl (Or.inl rfl) (pv 7))) pss_nil)))))
    (pss_one (ps_ret (pv 4)))))), ?_⟩)
  · obtain ⟨l, t, rs, ps, n, d, A, rfl, _⟩ := h
    rfl
  · obtain ⟨l, t, rs, ps, n, d, C, rfl, hl, hL, ht, hs, hn, hd, hC, k⟩ := h
    refine ⟨_, rfl, t, _, rfl, ht, rfl, _, _, rfl, _, _, rfl, rfl, ?_⟩
    refine ⟨_, rfl, l, rfl, ⟨_, seq_lst hl⟩, for_list (K := K) (a := l) (xs := RI rs) (fun i σ H' => ∃ (c : Nat) (L : Int) (s6 s7 : Option V), σ = [some (.ref l), some (.ref t), some (.int n), some (.int d), some (.int (c : Nat)), some (.int L), s6, s7] ∧ H' = H ∧ L.natAbs < 2 ^ 52000000 ∧ ichanges ps n d = c + isc L ((ps.drop i).map fun p => sval p n d))
      ⟨0, 0, none, none, rfl, rfl, Nat.pow_pos (by decide), by rw [List.drop_zero, Nat.zero_add]; rfl⟩ (fun i σ H' _ ⟨_, _, _, _, _, e, _⟩ => by rw [e]; exact seq_lst hl) ?_ ?_⟩
    · rintro i x σ H' hi ⟨c, L, s6, s7, rfl, rfl, hL1, hI⟩
      obtain ⟨r, hr1, rfl⟩ := ri_get hi
      obtain ⟨p, hp, ep⟩ := hL.get hr1
      obtain ⟨hz, h9⟩ := hs p (List.mem_of_getElem? hp)
      have m1 : (C + 1) * (p.length + 1) ≤ 10000010 := Nat.le_trans (Nat.mul_le_mul (show C + 1 ≤ 1000001 by omega) (show p.length + 1 ≤ 10 by omega)) (by decide)
      have m2 : (C + 1) * p.length ≤ (C + 1) * (p.length + 1) := Nat.mul_le_mul_left _ (by omega)
      have sv : (sval p n d).natAbs < 2 ^ 52000000 := Nat.lt_of_lt_of_le (sval_lt hn hd p hz).1 (Nat.pow_le_pow_right (by decide) (by omega))
      refine ⟨_, rfl, _, rfl, _, rfl, r, p, n, d, 40000000, C, rfl, seq_lst ep, hz, hn, hd, by omega, ?_⟩
      have dr : ps.drop i = p :: ps.drop (i + 1) := by
        obtain ⟨h1, h2⟩ := List.getElem?_eq_some_iff.mp hp
        rw [List.drop_eq_getElem_cons h1, h2]
      rw [dr, List.map_cons, isc_fold] at hI
      refine ⟨_, rfl, _, rfl, _, _, rfl, rfl, mulx_ok sv hL1 (by decide), _, _, rfl, rfl, _, rfl, ?_⟩
      by_cases c1 : sval p n d * L < 0
      · rw [if_pos c1] at hI
        refine if_true_of (by simpa using c1) ?_
        refine ⟨_, rfl, _, _, rfl, rfl, ?_⟩
        refine ⟨_, rfl, rfl, _, rfl, ?_⟩
        by_cases c2 : sval p n d = 0
        · refine if_false_of (by simpa using c2) ?_
          rw [if_neg (by omega)] at hI
          exact ⟨c + 1, L, _, _, rfl, rfl, hL1, by omega⟩
        · refine if_true_of (by simpa using c2) ?_
          rw [if_pos c2] at hI
          exact ⟨_, rfl, c + 1, sval p n d, _, _, rfl, rfl, sv, by omega⟩
      · rw [if_neg c1] at hI
        refine if_false_of (by simpa using c1) ?_
        refine ⟨_, rfl, rfl, _, rfl, ?_⟩
        by_cases c2 : sval p n d = 0
        · refine if_false_of (by simpa using c2) ?_
          rw [if_neg (by omega)] at hI
          exact ⟨c, L, _, _, rfl, rfl, hL1, by omega⟩
        · refine if_true_of (by simpa using c2) ?_
          rw [if_pos c2] at hI
          exact ⟨_, rfl, c, sval p n d, _, _, rfl, rfl, sv, by omega⟩
    · rintro σ H' ⟨c, L, s6, s7, rfl, rfl, hL1, hI⟩
      rw [ri_len, hL.len, List.drop_length] at hI
      refine ⟨_, rfl, ?_⟩
      have : ichanges ps n d = c := by rw [hI]; rfl
      rw [← this]
      exact k
/-! ### count_on_chain -/
abbrev sCl : Stmt := top 69
abbrev nCl : List Str := ["chain", "low", "high"]
theorem scCl : FnScope nCl ["chain", "low", "high"] (defScope sCl) := ⟨rfl, rfl, rfl, by decide +kernel, rfl, by decide +kernel, by decide +kernel⟩
/-- a whole number is handed back; what was tracked stands -/
def RetI (H : Hp) (Q : VK) (z : Int) : Prop := ∀ H' : Hp, Same H H' → Q (.int z) H'
def spCl (K : PySem.W.Frag) : Sp := fun vs H Q _ => ∃ (l t u : Addr) (rs : List Addr) (ps : List (List Int)) (ln ld hn hd : Int) (A : Nat), vs = [.ref l, .ref t, .ref u] ∧ H l = some (.lst (RI rs)) ∧ Lists H rs ps ∧ Pair K H t ln ld ∧ Pair K H u hn hd ∧ (∀ p ∈ ps, Sz 40000000 p ∧ p.length ≤ 9) ∧
  ln.natAbs < 2 ^ A ∧ ld.natAbs < 2 ^ A ∧ hn.natAbs < 2 ^ A ∧ hd.natAbs < 2 ^ A ∧ A ≤ 1000000 ∧ Q (.int ((ichanges ps ln ld : Int) - (ichanges ps hn hd : Int))) H
theorem chain_sz {p : List Int} (ho : Ok p) (hpn : p ≠ []) (h9 : p.length ≤ 9) (hs : Sz 2000 p) : ∀ x ∈ ichain p, Sz 40000000 x ∧ x.length ≤ 9 := by
  intro x hx
  have hb : (2004 + 1) * gf p.length (ider p).length ≤ 40000000 := by
    rw [ider_len]
    have pl := List.length_pos_iff.mpr hpn
    have g1 : gf p.length (p.length - 1) = 3 ^ p.length := by unfold gf; rw [if_neg (by omega)]
    have g2 : 3 ^ p.length ≤ 3 ^ 9 := Nat.pow_le_pow_right (by decide) (by omega)
    rw [g1]
    exact Nat.le_trans (Nat.mul_le_mul_left _ g2) (by decide)
  obtain ⟨h1, h2⟩ := chain_size (p.length + 1) 2004 40000000 p (ider p) ho (ok_ider ho) (by rw [ider_len]; omega) (hs.mono (by decide)) (sz_ider hs h9) hb x hx
  exact ⟨h1, by omega⟩
theorem ok_cl {f : Addr} {fd : FuncData} (F : Fun K "count_on_chain" "count_on_chain" sCl f fd) (D2 : Dn P w K mg base "sign_changes" 2 ["chain", "point"] (spSc K)) : FnOk P w K mg base CX0 3 f fd ["chain", "low", "high"] (spCl K) := by
  refine F.ok scCl (fun vs H Q E h => ?_) (fun cdv A outer s H vs Q E hr h => ⟨_, 
    (pss_one (ps_ret (pe_op op_sub (pe_fn D2 hr (pa_cons (pv 0) (pa_cons (pv 1) pa_nil))) (pe_fn D2 hr (pa_cons (pv 0) (pa_cons (pv 2) pa_nil)))))), ?_⟩)
  · obtain ⟨a, t, u, rs, ps, ln, ld, hn, hd, A, rfl, _⟩ := h
    rfl
  · obtain ⟨l, t, u, rs, ps, ln, ld, hn, hd, C, rfl, el, hL, ht, hu, cs, b1, b2, b3, b4, hC, k⟩ := h
    refine ⟨_, rfl, _, rfl, l, t, rs, ps, ln, ld, C, rfl, el, hL, ht, cs, b1, b2, hC, ?_⟩
    refine ⟨_, rfl, _, rfl, l, u, rs, ps, hn, hd, C, rfl, el, hL, hu, cs, b3, b4, hC, ?_⟩
    exact ⟨_, _, rfl, rfl, k⟩
end
/-- lists of lists at these addresses -/
def Chs (H : Hp) : List Addr → List (List (List Int)) → Prop
  | [], [] => True
  | r :: rs, c :: cs => (∃ ps, H r = some (.lst (RI ps)) ∧ Lists H ps c) ∧ Chs H rs cs
  | _, _ => False
theorem Lists.keep {H H1 : Hp} (k : ∀ b xs, H b = some (.lst xs) → H1 b = some (.lst xs)) : ∀ {rs : List Addr} {ps : List (List Int)}, Lists H rs ps → Lists H1 rs ps
  | [], [], _ => True.intro
  | r :: _, _ :: _, h => ⟨k _ _ h.1, h.2.keep k⟩
  | [], _ :: _, h => h.elim
  | _ :: _, [], h => h.elim
theorem Chs.len {H : Hp} : ∀ {rs : List Addr} {ps : List (List (List Int))}, Chs H rs ps → rs.length = ps.length
  | [], [], _ => rfl
  | _ :: _, _ :: _, h => congrArg (· + 1) h.2.len
  | [], _ :: _, h => h.elim
  | _ :: _, [], h => h.elim
theorem Chs.keep {H H1 : Hp} (k : Same H H1) : ∀ {rs : List Addr} {ps : List (List (List Int))}, Chs H rs ps → Chs H1 rs ps
  | [], [], _ => True.intro
  | _ :: _, _ :: _, ⟨⟨ps, h1, h2⟩, h⟩ => ⟨⟨ps, k _ _ h1, h2.keep fun b xs e => k b _ e⟩, h.keep k⟩
  | [], _ :: _, h => h.elim
  | _ :: _, [], h => h.elim
theorem Chs.get {H : Hp} : ∀ {rs : List Addr} {ps : List (List (List Int))} {i : Nat} {r : Addr}, Chs H rs ps → rs[i]? = some r → ∃ c, ps[i]? = some c ∧ ∃ qs, H r = some (.lst (RI qs)) ∧ Lists H qs c
  | [], [], i, r, _, e => by simp at e
  | r0 :: rs, p :: ps, 0, r, h, e => by
    obtain rfl : r0 = r := by simpa using e
    exact ⟨p, rfl, h.1⟩
  | r0 :: rs, p :: ps, i + 1, r, h, e => by
    obtain ⟨q, h1, h2⟩ := Chs.get (i := i) (r := r) h.2 (by simpa using e)
    exact ⟨q, by simpa using h1, h2⟩
  | [], _ :: _, _, _, h, _ => h.elim
  | _ :: _, [], _, _, h, _ => h.elim
theorem Chs.snoc {H : Hp} {r : Addr} {c : List (List Int)} (hr : ∃ ps, H r = some (.lst (RI ps)) ∧ Lists H ps c) : ∀ {rs : List Addr} {ps : List (List (List Int))}, Chs H rs ps → Chs H (rs ++ [r]) (ps ++ [c])
  | [], [], _ => ⟨hr, True.intro⟩
  | _ :: _, _ :: _, h => ⟨h.1, Chs.snoc hr h.2⟩
  | [], _ :: _, h => h.elim
  | _ :: _, [], h => h.elim
/-- a new list of lists of lists is handed back -/
def RetCC (H : Hp) (Q : VK) (cs : List (List (List Int))) : Prop := ∀ (H' : Hp) (l : Addr) (rs : List Addr), Same H H' → H l = none → H' l = some (.lst (RI rs)) → Chs H' rs cs → Q (.ref l) H'
end Rc

/-! ## Hl -/
set_option maxHeartbeats 2000000
namespace Rc
open PySem PySem.Spec PyProof.Rows L2 RcF RcG RcH RcI RcJ
theorem layers_ok : ∀ (n j : Nat) (p : List Int), Ok p → p.length + j ≤ 9 → Sz (1000 + 91 * j) p → ∀ x ∈ ilayers n p, Ok x ∧ x ≠ [] ∧ x.length ≤ 9 ∧ Sz 2000 x := by
  intro n
  induction n with
  | zero => intro j p _ _ _ x hx; simp [ilayers] at hx
  | succ n ih =>
    intro j p ho h9 hs x hx
    rw [ilayers] at hx
    by_cases c : p.length ≤ 1
    · rw [if_pos c] at hx
      simp at hx
    · rw [if_neg c] at hx
      obtain ⟨f1, f2, f3, f4, f5, f6, f7, f8⟩ := layer_facts ho (by omega) (by omega) hs
      rcases List.mem_cons.mp hx with rfl | hx
      · exact ⟨f5, f6, by omega, f8.mono (by omega)⟩
      · exact ih (j + 1) _ f1 (by omega) f4 x hx
theorem layers_len : ∀ (n : Nat) (p : List Int), (ilayers n p).length ≤ n := by
  intro n
  induction n with
  | zero => intro p; exact Nat.le_refl _
  | succ n ih =>
    intro p
    rw [ilayers]
    split
    · exact Nat.zero_le _
    · exact Nat.succ_le_succ (ih _)
theorem int_bits {z : Int} {n : Nat} (h : z.natAbs ≤ n) (A : Nat) (hA : n < 2 ^ A) : z.natAbs < 2 ^ A := Nat.lt_of_le_of_lt h hA
section
variable {P : Program} {w : World} {K : PySem.W.Frag} {mg : Str → Option Value} {base : Heap}
/-! ### layer_chains -/
/-- but for one place -/
def wo (H : Hp) (D : Addr) : Hp := fun b => if b = D then none else H b
theorem wo_same {H : Hp} {D : Addr} : wo H D D = none := if_pos rfl
theorem wo_ne {H : Hp} {D b : Addr} (h : b ≠ D) : wo H D b = H b := if_neg h
theorem same_del (H : Hp) (D : Addr) : Same (wo H D) H := fun b u e => by
  by_cases z : b = D
  · rw [z, wo_same] at e; cases e
  · rw [wo_ne z] at e; exact e
theorem del_mono {H H1 : Hp} (s : Same H H1) (D : Addr) : Same (wo H D) (wo H1 D) := fun b u e => by
  by_cases z : b = D
  · rw [z, wo_same] at e; cases e
  · rw [wo_ne z] at e ⊢; exact s _ _ e
theorem del_upd (H : Hp) (D : Addr) (o : HO) : Same (wo H D) (wo (upd H D o) D) := fun b u e => by
  by_cases z : b = D
  · rw [z, wo_same] at e; cases e
  · rw [wo_ne z] at e ⊢; rw [upd_ne z]; exact e
theorem lists_del {H : Hp} {D : Addr} {ds : List Addr} (hD : H D = some (.lst (RI ds))) : ∀ {rs : List Addr} {ps : List (List Int)}, Lists H rs ps → (∀ x ∈ ps, x ≠ []) → Lists (wo H D) rs ps
  | [], [], _, _ => True.intro
  | r :: rs, p :: ps, h, hn => by
    refine ⟨?_, lists_del hD h.2 fun x hx => hn x (by simp [hx])⟩
    rw [wo_ne]
    · exact h.1
    · rintro rfl
      have e := h.1
      rw [hD] at e
      have y := HO.lst.inj (Option.some.inj e)
      cases p with
      | nil => exact hn [] (by simp) rfl
      | cons c q => cases ds with
        | nil => simp at y
        | cons d ds => simp at y
  | [], _ :: _, h, _ => h.elim
  | _ :: _, [], h, _ => h.elim
theorem chain_ne : ∀ (n : Nat) (p q : List Int), p ≠ [] → ∀ x ∈ ichainL n p q, x ≠ [] := by
  intro n
  induction n with
  | zero => intro p q _ x hx; simp [ichainL] at hx
  | succ n ih =>
    intro p q hp x hx
    rw [ichainL] at hx
    by_cases c : q = []
    · rw [if_pos c] at hx
      rw [List.mem_singleton.mp hx]
      exact hp
    · rw [if_neg c] at hx
      rcases List.mem_cons.mp hx with rfl | hx
      · exact hp
      · exact ih _ _ c x hx
abbrev sLc : Stmt := top 68
abbrev nLc : List Str := ["polynomial", "layer"]
theorem scLc : FnScope nLc ["polynomial"] (defScope sLc) := ⟨rfl, rfl, rfl, by decide +kernel, rfl, by decide +kernel, by decide +kernel⟩
def iall (p : List Int) : List (List (List Int)) := (ilayers p.length p).map ichain
theorem iall_len (p : List Int) : (iall p).length = (ilayers p.length p).length := by unfold iall; rw [List.length_map]
def spLc : Sp := fun vs H Q _ => ∃ (a : Addr) (p : List Int), vs = [.ref a] ∧ H a = some (.lst (LI p)) ∧ Ok p ∧ p.length ≤ 9 ∧ Sz 1000 p ∧ RetCC H Q (iall p)
theorem ok_lc {f : Addr} {fd : FuncData} (F : Fun K "layer_chains" "layer_chains" sLc f fd) (D1 : Dn P w K mg base "multiplicity_layers" 45 ["polynomial"] spLay) (D2 : Dn P w K mg base "sturm_chain" 44 ["polynomial"] spCh) : FnOk P w K mg base CX0 46 f fd ["polynomial"] spLc := by
  refine F.ok scLc (fun vs H Q E h => ?_) (fun cdv A outer s H vs Q E hr h => ⟨_, pss_one (ps_ret (pe_lc (own := [("layer", 1)]) (g := gName 1) (tt := tYes) rfl scLc.nd (pi_list (pe_fn D1 hr (pa_cons (pv 0) pa_nil))) (blkOk_by (N := nLc) (sc := defScope sLc) (by decide +kernel))
      (fun _ _ _ _ _ => pg_name (i := 1) scLc.nd rfl (Or.inl rfl)) (fun _ _ _ _ _ => pts_nil) (fun _ _ _ _ _ => pe_fn D2 (hr.mono (by decide)) (pa_cons (pv 1) pa_nil)))), ?_⟩)
  · obtain ⟨a, p, rfl, _⟩ := h
    rfl
  · obtain ⟨a, p, rfl, hS, ho, h9, hs, k⟩ := h
    refine ⟨_, rfl, a, p, rfl, hS, ho, h9, hs, fun H1 l rs s1 hl el hL => ?_⟩
    have lk := layers_ok p.length 0 p ho (by omega) (by rw [Nat.mul_zero]; exact hs)
    have ll := layers_len p.length p
    refine ⟨l, rfl, ⟨_, seq_lst el⟩, fun D hD => lc_list (K := K) (a := l) (xs := RI rs) (fun i H2 => ∃ ds : List Addr, H2 D = some (.lst (RI ds)) ∧ Chs (wo H2 D) ds ((iall p).take i) ∧ Same H1 H2) ⟨[], upd_same, True.intro, same_new hD⟩ (fun i H2 _ ⟨_, _, _, e⟩ => seq_lst (e _ _ el)) ?_ ?_⟩
    · rintro i x H2 hi ⟨ds, q1, q2, q4⟩
      obtain ⟨r, hr1, rfl⟩ := ri_get hi
      obtain ⟨p', hp', ep'⟩ := hL.get hr1
      obtain ⟨o1, o2, o3, o4⟩ := lk p' (List.mem_of_getElem? hp')
      have hi2 : i < (ilayers p.length p).length := (List.getElem?_eq_some_iff.mp hp').1
      refine ⟨rfl, ?_⟩
      refine ⟨_, rfl, r, p', rfl, q4 _ _ ep', o1, o2, o3, o4, fun H3 c cs s3 hc ec hC => ?_⟩
      have e : (iall p)[i]? = some (ichain p') := by
        unfold iall
        rw [List.getElem?_map, hp']
        rfl
      have cD : c ≠ D := fun z => by
        rw [z, q1] at hc
        cases hc
      have len : ds.length ≤ i := by rw [q2.len, List.length_take]; omega
      have q1' := s3 _ _ q1
      refine ⟨_, q1', small1000 (by rw [ri_len]; omega), ds ++ [c], by rw [upd_same, ri_snoc], ?_, same_upd (q4.trans s3) hD⟩
      rw [take_more e]
      refine Chs.snoc ⟨cs, ?_, (lists_del q1' hC (chain_ne _ _ _ o2)).keep fun b xs z => del_upd H3 D _ b _ z⟩ (q2.keep fun b u z => del_upd H3 D _ b u (del_mono s3 D b u z))
      rw [wo_ne cD, upd_ne cD]
      exact ec
    · rintro H2 ⟨ds, q1, q2, q4⟩
      rw [ri_len, hL.len, List.take_of_length_le (by rw [iall_len]; exact Nat.le_refl _)] at q2
      exact k H2 D ds (s1.trans q4) (s1.free hD) q1 (q2.keep (same_del _ _))
theorem iall_get {p : List Int} (ho : Ok p) (h9 : p.length ≤ 9) (hs : Sz 1000 p) {c : List (List Int)} {i : Nat} (h : (iall p)[i]? = some c) : ∃ q, (ilayers p.length p)[i]? = some q ∧ c = ichain q ∧ Ok q ∧ q ≠ [] ∧ q.length ≤ 9 ∧ Sz 2000 q ∧ ∀ x ∈ c, Sz 40000000 x ∧ x.length ≤ 9 := by
  have lk := layers_ok p.length 0 p ho (by omega) (by rw [Nat.mul_zero]; exact hs)
  unfold iall at h
  rw [List.getElem?_map] at h
  cases e : (ilayers p.length p)[i]? with
  | none => rw [e] at h; cases h
  | some q =>
    rw [e] at h
    obtain rfl := Option.some.inj h
    obtain ⟨o1, o2, o3, o4⟩ := lk q (List.mem_of_getElem? e)
    exact ⟨q, rfl, rfl, o1, o2, o3, o4, chain_sz o1 o2 o3 o4⟩
/-! ### count_in_interval -/
abbrev sCi : Stmt := top 70
abbrev nCi : List Str := ["polynomial", "low", "high", "counts", "distinct", "chain"]
theorem scCi : FnScope nCi ["polynomial", "low", "high"] (defScope sCi) := ⟨rfl, rfl, rfl, by decide +kernel, rfl, by decide +kernel, by decide +kernel⟩
def spCi (K : PySem.W.Frag) : Sp := fun vs H Q _ => ∃ (a t u : Addr) (p : List Int) (ln ld hn hd : Int) (A : Nat), vs = [.ref a, .ref t, .ref u] ∧ H a = some (.lst (LI p)) ∧ Pair K H t ln ld ∧ Pair K H u hn hd ∧ Ok p ∧ p.length ≤ 9 ∧ Sz 1000 p ∧
  ln.natAbs < 2 ^ A ∧ ld.natAbs < 2 ^ A ∧ hn.natAbs < 2 ^ A ∧ hd.natAbs < 2 ^ A ∧ A ≤ 1000000 ∧
  ∀ (H' : Hp) (r : Addr), Same H H' → H r = none → H' r = some (.tup [.int ((icounts p ln ld hn hd).headD 0), .int (icounts p ln ld hn hd).sum]) → Q (.ref r) H'
theorem ok_ci {f : Addr} {fd : FuncData} (F : Fun K "count_in_interval" "count_in_interval" sCi f fd) (B : BI P mg base) (D1 : Dn P w K mg base "layer_chains" 46 ["polynomial"] spLc) (D2 : Dn P w K mg base "count_on_chain" 3 ["chain", "low", "high"] (spCl K)) : FnOk P w K mg base CX0 47 f fd ["polynomial", "low", "high"] (spCi K) := by
  refine F.ok scCi (fun vs H Q E h => ?_) (fun cdv A outer s H vs Q E hr h => ⟨_, pss_cons (ps_setLc (i := 3) (own := [("chain", 5)]) (g := gName 5) (tt := tYes) rfl scCi.nd rfl rfl (sw_true rfl rfl rfl (by decide +kernel)) (pi_list (pe_fn D1 hr (pa_cons (pv 0) pa_nil)))
        (blkOk_by (N := nCi) (sc := defScope sCi) (by decide +kernel)) (fun _ _ _ _ _ => pg_name (i := 5) scCi.nd rfl (Or.inl rfl)) (fun _ _ _ _ _ => pts_nil) (fun _ _ _ _ _ => pe_fn D2 (hr.mono (by decide)) (pa_cons (pv 5) (pa_cons (pv 1) (pa_cons (pv 2) pa_nil)))))
    (pss_cons (ps_set (i := 4) scCi.nd rfl (Or.inl rfl) (pe_ifExp (pt_truth (pv 3) (fun _ => rfl)) (pe_ix ix_list (pv 3) pe_int (fun _ _ => rfl)) pe_int))
    (pss_one (ps_ret (pe_tup (pa_cons (pv 4) (pa_cons (pe_callB (cr_sum rfl) (by rfl) B.sum (by decide +kernel) (pa_cons (pv 3) pa_nil)) pa_nil)))))), ?_⟩)
  · obtain ⟨a, t, u, p, ln, ld, hn, hd, A, rfl, _⟩ := h
    rfl
  · obtain ⟨a, t, u, p, ln, ld, hn, hd, C, rfl, hS, ht, hu, ho, h9, hs, b1, b2, b3, b4, hC, k⟩ := h
    refine ⟨_, rfl, a, p, rfl, hS, ho, h9, hs, fun H1 l rs s1 hl el hL => ?_⟩
    have ll := layers_len p.length p
    refine ⟨l, rfl, ⟨_, seq_lst el⟩, fun D hD => lc_list (K := K) (a := l) (xs := RI rs) (fun i H2 => H2 D = some (.lst (LI ((icounts p ln ld hn hd).take i))) ∧ Same H1 H2) ⟨upd_same, same_new hD⟩ (fun i H2 _ e => seq_lst (e.2 _ _ el)) ?_ ?_⟩
    · rintro i x H2 hi ⟨q1, q2⟩
      obtain ⟨r, hr1, rfl⟩ := ri_get hi
      obtain ⟨c, hc', qs, ec', hcL⟩ := hL.get hr1
      obtain ⟨p', hp', rfl, o1, o2, o3, o4, o5⟩ := iall_get ho h9 hs hc'
      have hi2 : i < (ilayers p.length p).length := (List.getElem?_eq_some_iff.mp hp').1
      refine ⟨rfl, ?_⟩
      refine ⟨_, rfl, _, rfl, _, rfl, r, t, u, qs, ichain p', ln, ld, hn, hd, C, rfl, q2 _ _ ec', hcL.keep (fun b xs z => q2 _ _ z), pair_same (s1.trans q2) ht, pair_same (s1.trans q2) hu, o5, b1, b2, b3, b4, hC, ?_⟩
      refine ⟨_, q1, small1000 (by rw [li_len, List.length_take]; omega), ?_, same_upd q2 hD⟩
      have e : (icounts p ln ld hn hd)[i]? = some (icount p' ln ld hn hd) := by
        unfold icounts
        rw [List.getElem?_map, hp']
        rfl
      rw [upd_same, take_more e, li_snoc]
      rfl
    · rintro H2 ⟨q1, q2⟩
      rw [ri_len, hL.len, List.take_of_length_le (by unfold icounts; rw [List.length_map, iall_len]; exact Nat.le_refl _)] at q1
      generalize hc : icounts p ln ld hn hd = cs at q1 k
      refine ⟨_, rfl, _, .inl ⟨_, seq_lst q1, rfl⟩, ?_⟩
      have fin : ∀ z : Int, z = cs.headD 0 → ∀ σ : L2.St, σ[4]? = some (some (.int z)) → σ[3]? = some (some (.ref D)) → tTup (tCons (tVar 4) (tCons (tCB (rSum K) (tCons (tVar 3) tNil)) tNil)) σ H2 Q := by
        rintro z rfl σ h4 h3
        refine ⟨_, h4, _, h3, D, cs, rfl, seq_lst q1, by show 2 ≤ sizeLine; decide, fun r hr => ?_⟩
        exact k _ r ((s1.trans q2).trans (same_new hr)) ((s1.trans q2).free hr) upd_same
      cases cs with
      | nil => exact if_false_of (by rfl) (fin 0 rfl _ rfl rfl)
      | cons z cs => exact if_true_of (by rfl) ⟨_, rfl, D, _, _, _, rfl, rfl, seq_lst q1, atI_nat (j := 0) rfl, fin z rfl _ rfl rfl⟩
/-! ### multiplicity_at -/
abbrev sMa : Stmt := top 71
abbrev nMa : List Str := ["polynomial", "numerator", "denominator", "layers", "layer"]
theorem scMa : FnScope nMa ["polynomial", "numerator", "denominator"] (defScope sMa) := ⟨rfl, rfl, rfl, by decide +kernel, rfl, by decide +kernel, by decide +kernel⟩
def spMa : Sp := fun vs H Q _ => ∃ (a : Addr) (p : List Int) (n d : Int) (A : Nat), vs = [.ref a, .int n, .int d] ∧ H a = some (.lst (LI p)) ∧ Ok p ∧ p.length ≤ 9 ∧ Sz 1000 p ∧ n.natAbs < 2 ^ A ∧ d.natAbs < 2 ^ A ∧ A ≤ 1000000 ∧ RetI H Q (imult p n d : Nat)
theorem ok_ma {f : Addr} {fd : FuncData} (F : Fun K "multiplicity_at" "multiplicity_at" sMa f fd) (B : BI P mg base) (D1 : Dn P w K mg base "multiplicity_layers" 45 ["polynomial"] spLay) (D2 : Dn P w K mg base "scaled_value" 1 ["polynomial", "numerator", "denominator"] (spVal K)) : FnOk P w K mg base CX0 46 f fd ["polynomial", "numerator", "denominator"] spMa := by
  refine F.ok scMa (fun vs H Q E h => ?_) (fun cdv A outer s H vs Q E hr h => ⟨_, pss_cons (ps_set (i := 3) scMa.nd rfl (Or.inl rfl) (pe_fn D1 hr (pa_cons (pv 0) pa_nil)))
    (pss_one (ps_ret (pe_callB call_len_seq (by rfl) B.len (by decide +kernel) (pa_cons (pe_lc (own := [("layer", 4)]) (g := gName 4) rfl scMa.nd (pi_list (pv 3)) (blkOk_by (N := nMa) (sc := defScope sMa) (by decide +kernel)) (fun _ _ _ _ _ => pg_name (i := 4) scMa.nd rfl (Or.inl rfl))
        (fun _ _ _ _ _ => pts_one (pt_cmpR op_eq (pe_fn D2 (hr.mono (by decide)) (pa_cons (pv 4) (pa_cons (pv 1) (pa_cons (pv 2) pa_nil)))) pe_int (nomark _))) (fun _ _ _ _ _ => pv 4)) pa_nil)))), ?_⟩)
  · obtain ⟨a, p, n, d, A, rfl, _⟩ := h
    rfl
  · obtain ⟨a, p, n, d, C, rfl, hS, ho, h9, hs, b1, b2, hC, k⟩ := h
    refine ⟨_, rfl, a, p, rfl, hS, ho, h9, hs, fun H1 l rs s1 hl el hL => ?_⟩
    have lk := layers_ok p.length 0 p ho (by omega) (by rw [Nat.mul_zero]; exact hs)
    have ll := layers_len p.length p
    refine ⟨_, rfl, l, rfl, ⟨_, seq_lst el⟩, fun D hD => lc_list (K := K) (a := l) (xs := RI rs) (fun i H2 => ∃ acc, H2 D = some (.lst acc) ∧ acc.length = (((ilayers p.length p).take i).filter fun q => sval q n d == 0).length ∧ acc.length ≤ i ∧ Same H1 H2) ⟨[], upd_same, rfl, Nat.le_refl _, same_new hD⟩ (fun i H2 _ ⟨_, _, _, _, e⟩ => seq_lst (e _ _ el)) ?_ ?_⟩
    · rintro i x H2 hi ⟨acc, q1, q2, q3, q4⟩
      obtain ⟨r, hr1, rfl⟩ := ri_get hi
      obtain ⟨p', hp', ep'⟩ := hL.get hr1
      obtain ⟨o1, o2, o3, o4⟩ := lk p' (List.mem_of_getElem? hp')
      have hi2 : i < (ilayers p.length p).length := (List.getElem?_eq_some_iff.mp hp').1
      have m1 : (C + 1) * (p'.length + 1) ≤ 10000010 := Nat.le_trans (Nat.mul_le_mul (show C + 1 ≤ 1000001 by omega) (show p'.length + 1 ≤ 10 by omega)) (by decide)
      refine ⟨rfl, ?_⟩
      refine ⟨_, rfl, _, rfl, _, rfl, r, p', n, d, 2000, C, rfl, seq_lst (q4 _ _ ep'), o4, b1, b2, by omega, rfl, _, rfl, ?_⟩
      by_cases c : sval p' n d = 0
      · refine if_true_of (by simpa using c) ⟨_, rfl, acc, q1, small1000 (by omega), acc ++ [.ref r], upd_same, ?_, by rw [List.length_append]; exact Nat.succ_le_succ q3, same_upd q4 hD⟩
        rw [take_more hp', List.filter_append, List.length_append, List.length_append, q2]
        simp [c]
      · refine if_false_of (by simpa using c) ⟨acc, q1, ?_, by omega, q4⟩
        rw [take_more hp', List.filter_append, List.length_append, q2]
        simp [c]
    · rintro H2 ⟨acc, q1, q2, q3, q4⟩
      rw [ri_len, hL.len, List.take_length] at q2
      refine ⟨D, acc, rfl, .inl (seq_lst q1), ?_⟩
      rw [q2]
      exact k H2 (s1.trans q4)
end
end Rc

/-! ## Hm -/
set_option maxHeartbeats 2000000
namespace Rc
open PySem PySem.Spec PyProof.Rows L2 RcF RcG RcH RcI RcJ RcK
/-- a fraction's tuple -/
abbrev FR (x : Rat) : List V := [.int x.num, .int (x.den : Int)]
/-- fractions at these addresses -/
def Frs (H : Hp) : List Addr → List Rat → Prop
  | [], [] => True
  | r :: rs, x :: xs => H r = some (.tup (FR x)) ∧ Frs H rs xs
  | _, _ => False
theorem Frs.len {H : Hp} : ∀ {rs : List Addr} {xs : List Rat}, Frs H rs xs → rs.length = xs.length
  | [], [], _ => rfl
  | _ :: _, _ :: _, h => congrArg (· + 1) h.2.len
  | [], _ :: _, h => h.elim
  | _ :: _, [], h => h.elim
theorem Frs.keep {H H1 : Hp} (k : ∀ b xs, H b = some (.tup xs) → H1 b = some (.tup xs)) : ∀ {rs : List Addr} {xs : List Rat}, Frs H rs xs → Frs H1 rs xs
  | [], [], _ => True.intro
  | r :: _, _ :: _, h => ⟨k _ _ h.1, h.2.keep k⟩
  | [], _ :: _, h => h.elim
  | _ :: _, [], h => h.elim
theorem Frs.same {H H1 : Hp} (k : Same H H1) {rs : List Addr} {xs : List Rat} (h : Frs H rs xs) : Frs H1 rs xs := h.keep fun _ _ e => k _ _ e
theorem Frs.get {H : Hp} : ∀ {rs : List Addr} {xs : List Rat} {i : Nat} {r : Addr}, Frs H rs xs → rs[i]? = some r → ∃ x, xs[i]? = some x ∧ H r = some (.tup (FR x))
  | [], [], i, r, _, e => by simp at e
  | r0 :: rs, p :: ps, 0, r, h, e => by
    obtain rfl : r0 = r := by simpa using e
    exact ⟨p, rfl, h.1⟩
  | r0 :: rs, p :: ps, i + 1, r, h, e => by
    obtain ⟨q, h1, h2⟩ := Frs.get (i := i) (r := r) h.2 (by simpa using e)
    exact ⟨q, by simpa using h1, h2⟩
  | [], _ :: _, _, _, h, _ => h.elim
  | _ :: _, [], _, _, h, _ => h.elim
theorem Frs.snoc {H : Hp} {r : Addr} {x : Rat} (hr : H r = some (.tup (FR x))) : ∀ {rs : List Addr} {xs : List Rat}, Frs H rs xs → Frs H (rs ++ [r]) (xs ++ [x])
  | [], [], _ => ⟨hr, True.intro⟩
  | _ :: _, _ :: _, h => ⟨h.1, Frs.snoc hr h.2⟩
  | [], _ :: _, h => h.elim
  | _ :: _, [], h => h.elim
/-- a polynomial as it is stored -/
def PolyAt (H : Hp) (a : Addr) (q : List Rat) : Prop := ∃ rs, H a = some (.lst (RI rs)) ∧ Frs H rs q
theorem PolyAt.same {H H1 : Hp} {a : Addr} {q : List Rat} (h : PolyAt H a q) (k : Same H H1) : PolyAt H1 a q := by
  obtain ⟨rs, h1, h2⟩ := h
  exact ⟨rs, k _ _ h1, h2.same k⟩
/-- a new polynomial is handed back -/
def RetP (H : Hp) (Q : VK) (q : List Rat) : Prop := ∀ (H' : Hp) (r : Addr), Same H H' → H r = none → PolyAt H' r q → Q (.ref r) H'
section
variable {P : Program} {w : World} {K : PySem.W.Frag} {mg : Str → Option Value} {base : Heap}
/-! ### lowest_terms -/
abbrev sLt : Stmt := top 26
abbrev nLt : List Str := ["numerator", "denominator", "divisor"]
theorem scLt : FnScope nLt ["numerator", "denominator"] (defScope sLt) := ⟨rfl, rfl, rfl, by decide +kernel, rfl, by decide +kernel, by decide +kernel⟩
def spLt : Sp := fun vs H Q _ => ∃ n d : Int, vs = [.int n, .int d] ∧ 0 < d ∧ ∀ r, H r = none → Q (.ref r) (upd H r (.tup (FR ((n : Rat) / (d : Rat)))))
theorem ok_lt {f : Addr} {fd : FuncData} (F : Fun K "lowest_terms" "lowest_terms" sLt f fd) (B : BI P mg base) (D1 : Dn P w K mg base "common_divisor" 1 ["first", "second"] spGcd) : FnOk P w K mg base CX0 42 f fd ["numerator", "denominator"] spLt := by
  refine F.ok scLt (fun vs H Q E h => ?_) (fun cdv A outer s H vs Q E hr h => ⟨_, pss_cons (ps_set (i := 2) scLt.nd rfl (Or.inl rfl) (pe_fn D1 (hr.mono (by decide)) (pa_cons (pv 0) (pa_cons (pv 1) pa_nil))))
    (pss_one (ps_ret (pe_tup (pa_cons (pe_op (op_divX B.G ⟨_, _, rfl, rfl, rfl, rfl, rfl⟩ hr) (pv 0) (pv 2)) (pa_cons (pe_op (op_divX B.G ⟨_, _, rfl, rfl, rfl, rfl, rfl⟩ hr) (pv 1) (pv 2)) pa_nil))))), ?_⟩)
  · obtain ⟨n, d, rfl, _⟩ := h
    rfl
  · obtain ⟨n, d, rfl, hd, k⟩ := h
    have e := frac_num n hd
    refine ⟨_, rfl, _, rfl, n, d, rfl, ?_⟩
    refine ⟨_, rfl, _, rfl, _, _, rfl, rfl, gcd_ne hd, _, rfl, _, rfl, _, _, rfl, rfl, gcd_ne hd, by show 2 ≤ sizeLine; decide, fun r hr => ?_⟩
    have := k r hr
    unfold FR at this
    rw [e.1, e.2] at this
    exact this
/-! ### over_denominator -/
abbrev sOd : Stmt := top 54
abbrev nOd : List Str := ["coefficients", "denominator", "numerator"]
theorem scOd : FnScope nOd ["coefficients", "denominator"] (defScope sOd) := ⟨rfl, rfl, rfl, by decide +kernel, rfl, by decide +kernel, by decide +kernel⟩
def spOd (K : PySem.W.Frag) : Sp := fun vs H Q _ => ∃ (a : Addr) (cs : List Int) (d : Int), vs = [.ref a, .int d] ∧ SqL K H a (LI cs) ∧ 0 < d ∧ cs.length ≤ 1000 ∧ RetP H Q ((itrim cs).map fun (c : Int) => (c : Rat) / (d : Rat))
theorem ok_od {f : Addr} {fd : FuncData} (F : Fun K "over_denominator" "over_denominator" sOd f fd) (D1 : Dn P w K mg base "trimmed" 1 ["coefficients"] (spTrim K)) (D2 : Dn P w K mg base "lowest_terms" 42 ["numerator", "denominator"] spLt) : FnOk P w K mg base CX0 43 f fd ["coefficients", "denominator"] (spOd K) := by
  refine F.ok scOd (fun vs H Q E h => ?_) (fun cdv A outer s H vs Q E hr h => ⟨_, pss_one (ps_ret (pe_lc (own := [("numerator", 2)]) (g := gName 2) (tt := tYes) rfl scOd.nd (pi_list (pe_fn D1 (hr.mono (by decide)) (pa_cons (pv 0) pa_nil))) (blkOk_by (N := nOd) (sc := defScope sOd) (by decide +kernel))
      (fun _ _ _ _ _ => pg_name (i := 2) scOd.nd rfl (Or.inl rfl)) (fun _ _ _ _ _ => pts_nil) (fun _ _ _ _ _ => pe_fn D2 hr (pa_cons (pv 2) (pa_cons (pv 1) pa_nil))))), ?_⟩)
  · obtain ⟨a, cs, d, rfl, _⟩ := h
    rfl
  · obtain ⟨a, cs, d, rfl, hS, hd, hl, k⟩ := h
    have hl2 := itrim_len cs
    refine ⟨_, rfl, a, cs, rfl, hS, fun H1 t s1 ht et => ?_⟩
    generalize hq : ((itrim cs).map fun (c : Int) => (c : Rat) / (d : Rat)) = q at k
    refine ⟨t, rfl, ⟨_, seq_lst et⟩, fun D hD => lc_list (K := K) (a := t) (xs := LI (itrim cs)) (fun i H2 => ∃ rs, H2 D = some (.lst (RI rs)) ∧ Frs H2 rs (q.take i) ∧ Same H1 H2) ⟨[], upd_same, True.intro, same_new hD⟩ (fun i H2 _ ⟨_, _, _, e⟩ => seq_lst (e _ _ et)) ?_ ?_⟩
    · rintro i x H2 hi ⟨rs, q1, q2, q3⟩
      obtain ⟨z, hz, rfl⟩ := li_get hi
      have hi2 : i < (itrim cs).length := (List.getElem?_eq_some_iff.mp hz).1
      refine ⟨rfl, ?_⟩
      refine ⟨_, rfl, _, rfl, z, d, rfl, hd, fun r hr => ?_⟩
      have nD : D ≠ r := ne_of_none q1 hr
      have e : q[i]? = some ((z : Rat) / (d : Rat)) := by
        rw [← hq, List.getElem?_map, hz]
        rfl
      refine ⟨_, by rw [upd_ne nD]; exact q1, small1000 (by rw [ri_len, q2.len, List.length_take]; omega), rs ++ [r], ?_, ?_, same_upd (q3.trans (same_new hr)) hD⟩
      · rw [upd_same, ri_snoc]
      · rw [take_more e]
        refine Frs.snoc (by rw [upd_ne nD.symm, upd_same]) (q2.keep fun b xs e => ?_)
        have bD : b ≠ D := fun z => by
          rw [z, q1] at e
          cases e
        rw [upd_ne bD, upd_ne (ne_of_none e hr)]
        exact e
    · rintro H2 ⟨rs, q1, q2, q3⟩
      rw [li_len, List.take_of_length_le (by rw [← hq, List.length_map]; exact Nat.le_refl _)] at q2
      exact k H2 D (s1.trans q3) (s1.free hD) ⟨rs, q1, q2⟩
/-! ### common_denominator -/
abbrev sCd : Stmt := top 55
abbrev nCd : List Str := ["polynomial", "common", "numerator", "denominator"]
theorem scCd : FnScope nCd ["polynomial"] (defScope sCd) := ⟨rfl, rfl, rfl, by decide +kernel, rfl, by decide +kernel, by decide +kernel⟩
def spCd : Sp := fun vs H Q _ => ∃ (a : Addr) (q : List Rat), vs = [.ref a] ∧ PolyAt H a q ∧ Small q ∧ Q (.int (cden q : Nat)) H
theorem ok_cd {f : Addr} {fd : FuncData} (F : Fun K "common_denominator" "common_denominator" sCd f fd) (B : BI P mg base) (D1 : Dn P w K mg base "common_divisor" 1 ["first", "second"] spGcd) : FnOk P w K mg base CX0 42 f fd ["polynomial"] spCd := by
  refine F.ok scCd (fun vs H Q E h => ?_) (fun cdv A outer s H vs Q E hr h => ⟨_, pss_cons (ps_set (i := 1) scCd.nd rfl (Or.inl rfl) pe_int)
    (pss_cons (ps_for PassesOwn.never rfl (pi_list (pv 0)) (pg_tup rfl (pgs_cons (pg_name (i := 2) scCd.nd rfl (Or.inl rfl)) (pgs_cons (pg_name (i := 3) scCd.nd rfl (Or.inl rfl)) pgs_nil)))
      (pss_one (ps_set (i := 1) scCd.nd rfl (Or.inl rfl) (pe_op op_mulX (pe_op (op_divX B.G ⟨_, _, rfl, rfl, rfl, rfl, rfl⟩ hr) (pv 1) (pe_fn D1 (hr.mono (by decide)) (pa_cons (pv 1) (pa_cons (pv 3) pa_nil)))) (pv 3)))))
    (pss_one (ps_ret (pv 1)))), ?_⟩)
  · obtain ⟨a, q, rfl, _⟩ := h
    rfl
  · obtain ⟨a, q, rfl, ⟨rs, ha, hf⟩, hs, k⟩ := h
    refine ⟨_, rfl, a, rfl, ⟨_, seq_lst ha⟩, for_list (K := K) (a := a) (xs := RI rs) (fun i σ H' => ∃ s2 s3 : Option V, σ = [some (.ref a), some (.int (cden (q.take i) : Nat)), s2, s3] ∧ H' = H) ⟨none, none, rfl, rfl⟩ (fun i σ H' _ ⟨_, _, _, e⟩ => by rw [e]; exact seq_lst ha) ?_ ?_⟩
    · rintro i x σ H' hi ⟨s2, s3, rfl, rfl⟩
      obtain ⟨r, hr1, rfl⟩ := ri_get hi
      obtain ⟨x, hx, ex⟩ := hf.get hr1
      have hxq := List.mem_of_getElem? hx
      have c0 := cden_pos (q.take i)
      have ct : cden (q.take i) < 2 ^ 900 := cden_small' (by rw [List.length_take]; have := hs.2.1; omega) fun y hy => (hs.2.2 y (List.mem_of_mem_take hy)).2
      have dx : (x.den : Int).natAbs < 2 ^ 100 := Nat.lt_of_le_of_lt (hs.2.2 x hxq).2 pow30
      refine ⟨r, _, rfl, .inl (.inl ex), rfl, _, _, rfl, _, _, rfl, rfl, ?_⟩
      have g1 : Int.gcd ((cden (q.take i) : Nat) : Int) (x.den : Int) = Nat.gcd (cden (q.take i)) x.den := rfl
      have gp : 0 < Nat.gcd (cden (q.take i)) x.den := Nat.gcd_pos_of_pos_left _ c0
      refine ⟨_, rfl, _, rfl, _, rfl, _, _, rfl, ?_⟩
      rw [g1]
      have e0 : ((cden (q.take i) : Nat) : Int).fdiv ((Nat.gcd (cden (q.take i)) x.den : Nat) : Int) = ((cden (q.take i) / Nat.gcd (cden (q.take i)) x.den : Nat) : Int) := by
        rw [Int.fdiv_eq_ediv_of_nonneg _ (Int.natCast_nonneg _)]
        rfl
      refine ⟨_, _, rfl, rfl, by omega, _, rfl, _, _, rfl, rfl, ?_, some (.int x.num), some (.int x.den), ?_, rfl⟩
      · rw [e0]
        exact mulx_ok (Nat.lt_of_le_of_lt (Nat.div_le_self _ _) ct) dx (by decide)
      · rw [take_more hx, cden_snoc]
        show [some (V.ref a), some (V.int (_ * _)), _, _] = _
        rw [e0]
        rfl
    · rintro σ H' ⟨s2, s3, rfl, rfl⟩
      rw [ri_len, hf.len, List.take_length]
      exact ⟨_, rfl, k⟩
/-! ### whole_multiple -/
abbrev sWm : Stmt := top 56
abbrev nWm : List Str := ["polynomial", "common", "numerator", "denominator"]
theorem scWm : FnScope nWm ["polynomial"] (defScope sWm) := ⟨rfl, rfl, rfl, by decide +kernel, rfl, by decide +kernel, by decide +kernel⟩
def spWm : Sp := fun vs H Q _ => ∃ (a : Addr) (q : List Rat), vs = [.ref a] ∧ PolyAt H a q ∧ Small q ∧ RetL H Q (wm q)
theorem ok_wm' {f : Addr} {fd : FuncData} (F : Fun K "whole_multiple" "whole_multiple" sWm f fd) (B : BI P mg base) (D1 : Dn P w K mg base "common_denominator" 42 ["polynomial"] spCd) : FnOk P w K mg base CX0 43 f fd ["polynomial"] spWm := by
  refine F.ok scWm (fun vs H Q E h => ?_) (fun cdv A outer s H vs Q E hr h => ⟨_, pss_cons (ps_set (i := 1) scWm.nd rfl (Or.inr rfl) (pe_fn D1 hr (pa_cons (pv 0) pa_nil)))
    (pss_one (ps_ret (pe_lc (own := [("numerator", 2), ("denominator", 3)]) (g := gTup K 2 (gCons (gName 2) (gCons (gName 3) gNil))) (tt := tYes) rfl scWm.nd (pi_list (pv 0)) (blkOk_by (N := nWm) (sc := defScope sWm) (by decide +kernel))
      (fun _ _ _ _ _ => pg_tup rfl (pgs_cons (pg_name (i := 2) scWm.nd rfl (Or.inl rfl)) (pgs_cons (pg_name (i := 3) scWm.nd rfl (Or.inl rfl)) pgs_nil))) (fun _ _ _ _ _ => pts_nil)
      (fun _ _ _ _ _ => pe_op op_mulX (pv 2) (pe_op (op_divX B.G ⟨_, _, rfl, rfl, rfl, rfl, rfl⟩ hr) (pv 1) (pv 3)))))), ?_⟩)
  · obtain ⟨a, q, rfl, _⟩ := h
    rfl
  · obtain ⟨a, q, rfl, ⟨rs, ha, hf⟩, hs, k⟩ := h
    refine ⟨_, rfl, a, q, rfl, ⟨rs, ha, hf⟩, hs, ?_⟩
    refine ⟨_, rfl, a, rfl, ⟨_, seq_lst ha⟩, fun D hD => lc_list (K := K) (a := a) (xs := RI rs) (fun i H2 => H2 = upd H D (.lst (LI ((wm q).take i)))) rfl (fun i H2 _ e => by rw [e]; exact (same_new hD).seq (seq_lst ha)) ?_ ?_⟩
    · rintro i x H2 hi rfl
      obtain ⟨r, hr1, rfl⟩ := ri_get hi
      obtain ⟨x, hx, ex⟩ := hf.get hr1
      have hxq := List.mem_of_getElem? hx
      have nx : x.num.natAbs < 2 ^ 100 := Nat.lt_of_le_of_lt (hs.2.2 x hxq).1 pow30
      have e0 : ((cden q : Nat) : Int).fdiv (x.den : Int) = ((cden q / x.den : Nat) : Int) := by
        rw [Int.fdiv_eq_ediv_of_nonneg _ (Int.natCast_nonneg _)]
        rfl
      refine ⟨r, _, rfl, .inl (.inl (same_new hD _ _ ex)), rfl, _, _, rfl, _, _, rfl, rfl, rfl, ?_⟩
      have d0 := x.den_pos
      refine ⟨_, rfl, _, rfl, _, rfl, _, _, rfl, rfl, by omega, _, _, rfl, rfl, ?_, _, upd_same, small1000 (by rw [li_len, List.length_take, wm_len]; have := hs.2.1; omega), ?_⟩
      · rw [e0]
        exact mulx_ok nx (Nat.lt_of_le_of_lt (Nat.div_le_self _ _) (cden_small hs)) (by decide)
      · rw [upd_upd]
        congr 2
        have e : (wm q)[i]? = some (x.num * ((cden q / x.den : Nat) : Int)) := by
          unfold wm
          rw [List.getElem?_map, hx]
          rfl
        rw [take_more e, li_snoc, ← e0]
    · rintro H2 rfl
      rw [ri_len, hf.len, List.take_of_length_le (by rw [wm_len]; exact Nat.le_refl _)]
      exact k.new hD
/-! ### counted_fractions -/
abbrev sCo : Stmt := top 61
abbrev nCo : List Str := ["pairs", "counted", "first", "second"]
theorem scCo : FnScope nCo ["pairs"] (defScope sCo) := ⟨rfl, rfl, rfl, by decide +kernel, rfl, by decide +kernel, by decide +kernel⟩
def counted (q : List Rat) : List Int := (q.length : Int) :: q.flatMap fun x => [x.num, (x.den : Int)]
def spCo : Sp := fun vs H Q _ => ∃ (a : Addr) (q : List Rat), vs = [.ref a] ∧ PolyAt H a q ∧ q.length ≤ 400 ∧ RetL H Q (counted q)
theorem counted_snoc (q : List Rat) (n : Int) (x : Rat) : n :: (q ++ [x]).flatMap (fun x => [x.num, (x.den : Int)]) = (n :: q.flatMap fun x => [x.num, (x.den : Int)]) ++ [x.num] ++ [(x.den : Int)] := by
  rw [List.flatMap_append]
  simp
theorem ok_co {f : Addr} {fd : FuncData} (F : Fun K "counted_pairs" "counted_pairs" sCo f fd) (B : BI P mg base) : FnOk P w K mg base CX0 1 f fd ["pairs"] spCo := by
  refine F.ok scCo (fun vs H Q E h => ?_) (fun cdv A outer s H vs Q E hr h => ⟨_, pss_cons (ps_set (i := 1) scCo.nd rfl (Or.inl rfl) (pe_lst (pa_cons (pe_callB call_len_seq (by rfl) B.len (by decide +kernel) (pa_cons (pv 0) pa_nil)) pa_nil)))
    (pss_cons (ps_for PassesOwn.never rfl (pi_list (pv 0)) (pg_tup rfl (pgs_cons (pg_name (i := 2) scCo.nd rfl (Or.inl rfl)) (pgs_cons (pg_name (i := 3) scCo.nd rfl (Or.inl rfl)) pgs_nil)))
      (pss_cons (ps_expr (pe_bm PySem.F.plainAttrs_list PySem.F.slot_list_append PySem.F.type_list_append mt_append (pv 1) (pa_cons (pv 2) pa_nil)))
      (pss_one (ps_expr (pe_bm PySem.F.plainAttrs_list PySem.F.slot_list_append PySem.F.type_list_append mt_append (pv 1) (pa_cons (pv 3) pa_nil))))))
    (pss_one (ps_ret (pv 1)))), ?_⟩)
  · obtain ⟨a, q, rfl, _⟩ := h
    rfl
  · obtain ⟨a, q, rfl, ⟨rs, ha, hf⟩, hl, k⟩ := h
    refine ⟨_, rfl, a, _, rfl, .inl (seq_lst ha), by show 1 ≤ sizeLine; decide, fun l hl2 => ?_⟩
    rw [ri_len, hf.len]
    refine ⟨_, rfl, a, rfl, ⟨_, (same_new hl2).seq (seq_lst ha)⟩, for_list (K := K) (a := a) (xs := RI rs) (fun i σ H' => ∃ s2 s3 : Option V, σ = [some (.ref a), some (.ref l), s2, s3] ∧ H' = upd H l (.lst (LI ((q.length : Int) :: (q.take i).flatMap fun x => [x.num, (x.den : Int)])))) ⟨none, none, rfl, rfl⟩ (fun i σ H' _ ⟨_, _, _, e⟩ => by rw [e]; exact (same_new hl2).seq (seq_lst ha)) ?_ ?_⟩
    · rintro i x σ H' hi ⟨s2, s3, rfl, rfl⟩
      obtain ⟨r, hr1, rfl⟩ := ri_get hi
      obtain ⟨x, hx, ex⟩ := hf.get hr1
      have fl : ∀ q : List Rat, (q.flatMap fun x => [x.num, (x.den : Int)]).length = 2 * q.length := by
        intro q
        induction q with
        | nil => rfl
        | cons y q ih => rw [List.flatMap_cons, List.length_append, ih, List.length_cons]; simp; omega
      have hi2 : i < q.length := (List.getElem?_eq_some_iff.mp hx).1
      refine ⟨r, _, rfl, .inl (.inl (same_new hl2 _ _ ex)), rfl, _, _, rfl, _, _, rfl, rfl, ?_⟩
      refine ⟨_, rfl, .inl ⟨rfl, _, seq_lst upd_same⟩, _, rfl, l, _, _, rfl, rfl, upd_same, small1000 (by rw [li_len, List.length_cons, fl, List.length_take]; omega), ?_⟩
      refine ⟨_, rfl, .inl ⟨rfl, _, seq_lst upd_same⟩, _, rfl, l, _, _, rfl, rfl, upd_same, small1000 (by rw [List.length_append, li_len, List.length_cons, fl, List.length_take]; simp; omega), _, _, rfl, ?_⟩
      rw [upd_upd, upd_upd, take_more hx, counted_snoc, li_snoc, li_snoc]
    · rintro σ H' ⟨s2, s3, rfl, rfl⟩
      rw [ri_len, hf.len, List.take_length]
      exact ⟨_, rfl, k.new hl2⟩
end
end Rc

/-! ## Hn -/
set_option maxHeartbeats 2000000
namespace Rc
open PySem PySem.Spec PyProof.Rows L2 RcF RcG RcH RcI RcJ RcK
section
variable {P : Program} {w : World} {K : PySem.W.Frag} {mg : Str → Option Value} {base : Heap}
/-! ### value_at -/
abbrev sVa : Stmt := top 60
abbrev nVa : List Str := ["polynomial", "numerator", "denominator", "scale", "power"]
theorem scVa : FnScope nVa ["polynomial", "numerator", "denominator"] (defScope sVa) := ⟨rfl, rfl, rfl, by decide +kernel, rfl, by decide +kernel, by decide +kernel⟩
/-- a new tuple is handed back -/
def RetT (H : Hp) (Q : VK) (xs : List V) : Prop := ∀ (H' : Hp) (r : Addr), Same H H' → H r = none → H' r = some (.tup xs) → Q (.ref r) H'
def spVa : Sp := fun vs H Q _ => ∃ (a : Addr) (q : List Rat) (n d : Int) (A : Nat), vs = [.ref a, .int n, .int d] ∧ PolyAt H a q ∧ Small q ∧ 0 < d ∧ n.natAbs < 2 ^ A ∧ d.natAbs < 2 ^ A ∧ A ≤ 1000000 ∧ RetT H Q (FR (Kqg1.evaluate q ((n : Rat) / (d : Rat))))
theorem ok_va {f : Addr} {fd : FuncData} (F : Fun K "value_at" "value_at" sVa f fd) (B : BI P mg base) (D1 : Dn P w K mg base "common_denominator" 42 ["polynomial"] spCd) (D2 : Dn P w K mg base "whole_multiple" 43 ["polynomial"] spWm)
    (D3 : Dn P w K mg base "scaled_value" 1 ["polynomial", "numerator", "denominator"] (spVal K)) (D4 : Dn P w K mg base "lowest_terms" 42 ["numerator", "denominator"] spLt) : FnOk P w K mg base CX0 44 f fd ["polynomial", "numerator", "denominator"] spVa := by
  refine F.ok scVa (fun vs H Q E h => ?_) (fun cdv A outer s H vs Q E hr h => ⟨_, pss_cons (ps_set (i := 3) scVa.nd rfl (Or.inl rfl) (pe_fn D1 (hr.mono (by decide)) (pa_cons (pv 0) pa_nil)))
    (pss_cons (ps_for PassesOwn.never rfl (pi_range2 (by rfl) B.range (pa_cons pe_int (pa_cons (pe_callB call_len_seq (by rfl) B.len (by decide +kernel) (pa_cons (pv 0) pa_nil)) pa_nil))) (pg_name (i := 4) scVa.nd rfl (Or.inl rfl))
      (pss_one (ps_aug (i := 3) scVa.nd rfl (Or.inl rfl) (pv 2) ip_mulX)))
    (pss_one (ps_ret (pe_fn D4 (hr.mono (by decide)) (pa_cons (pe_fn D3 (hr.mono (by decide)) (pa_cons (pe_fn D2 hr (pa_cons (pv 0) pa_nil)) (pa_cons (pv 1) (pa_cons (pv 2) pa_nil)))) (pa_cons (pv 3) pa_nil)))))), ?_⟩)
  · obtain ⟨a, q, n, d, A, rfl, _⟩ := h
    rfl
  · obtain ⟨a, q, n, d, C, rfl, hp, hs, hd, b1, b2, hC, k⟩ := h
    obtain ⟨rs, ha, hf⟩ := id hp
    have h9 := hs.2.1
    have lrs : rs.length = q.length := hf.len
    have dp : ∀ i, i ≤ 9 → (((cden q : Nat) : Int) * d ^ i).natAbs < 2 ^ (900 + C * i) := fun i _ => by
      rw [Int.natAbs_mul, Nat.pow_add, Int.natAbs_natCast, Int.natAbs_pow, Nat.pow_mul]
      exact Nat.mul_lt_mul_of_lt_of_le (cden_small hs) (Nat.pow_le_pow_left (Nat.le_of_lt b2) i) (Nat.pow_pos (Nat.pow_pos (by decide)))
    refine ⟨_, rfl, a, q, rfl, hp, hs, ?_⟩
    refine ⟨_, rfl, a, _, rfl, .inl (seq_lst ha), 1, (RI rs).length, rfl, by rw [ri_len, lrs]; omega, for_it walk_range (fun i σ H' => ∃ s4 : Option V, σ = [some (.ref a), some (.int n), some (.int d), some (.int (((cden q : Nat) : Int) * d ^ i)), s4] ∧ H' = H) ⟨none, by rw [Int.pow_zero, Int.mul_one]; rfl, rfl⟩ (fun _ _ _ _ _ => True.intro) ?_ ?_⟩
    · rintro i x σ H1 H2 hi ⟨s4, rfl, rfl⟩ ⟨rfl, rfl⟩
      have hi2 : i + 1 ≤ 9 := by rw [ri_len, lrs] at hi; omega
      have ci : C * i ≤ 9000000 := Nat.le_trans (Nat.mul_le_mul hC (show i ≤ 9 by omega)) (by decide)
      refine ⟨_, rfl, _, rfl, _, _, rfl, rfl, mulx_ok (dp i (by omega)) b2 (by omega), some (.int (1 + (i : Nat))), ?_, rfl⟩
      rw [Int.pow_succ, ← Int.mul_assoc]
      rfl
    · rintro σ H1 ⟨s4, rfl, rfl⟩
      rw [ri_len, lrs, show ((q.length : Int) - 1).toNat = q.length - 1 by omega]
      have m1 : (C + 1) * ((wm q).length + 1) ≤ 10000010 := Nat.le_trans (Nat.mul_le_mul (show C + 1 ≤ 1000001 by omega) (show (wm q).length + 1 ≤ 10 by rw [wm_len]; omega)) (by decide)
      refine ⟨_, rfl, a, q, rfl, hp, hs, fun H2 t s2 ht et => ?_⟩
      refine ⟨_, rfl, _, rfl, t, wm q, n, d, 1000, C, rfl, seq_lst et, sz_wm hs, b1, b2, by omega, ?_⟩
      have pos : 0 < ((cden q : Nat) : Int) * d ^ (q.length - 1) := Int.mul_pos (by have := cden_pos q; omega) (pow_pos_int hd _)
      refine ⟨_, rfl, _, _, rfl, pos, fun r hr => ?_⟩
      rw [value_is hs.1 n hd]
      exact k _ r (s2.trans (same_new hr)) (s2.free hr) upd_same
end
end Rc

/-! ## Hx -/
set_option maxHeartbeats 4000000
/-! Own errors of two steps: a base over Exception that keeps a number, and classes over it whose __init__ hands it one. -/
namespace Rc
open PySem PySem.Spec PyProof.Rows L2
abbrev tailE : List Value := [.type "Exception", .type "BaseException", .type "object"]
/-- what the written part says of such a class, C over R -/
structure Own (K : PySem.W.Frag) (C R : Addr) : Prop where
  cls : ∃ nm q N bs sn sub ab col dd k0 k1 k2 k3 k5, K.lookup C = some (excClassObj nm q C N bs (.ref R :: tailE) true sn sub ab col dd k0 k1 k2 k3 k5 "Exception.__new__")
  sa : PySem.W.findIn K (.ref C) "__setattr__" = some (some (.builtin "object.__setattr__"))
  exC : PySem.W.subIn K (.ref C) (.type "BaseException") = some true
  tyC : PySem.W.typeIn K (.ref C) = some (.type "type")
  kC : PySem.W.keepIn K (.ref C) = true
  no : PySem.W.findIn K (.ref C) "code" = some none
  ga : PySem.W.findIn K (.ref C) "__getattribute__" = some (some (.builtin "BaseException.__getattribute__"))
  gg : PySem.W.findIn K (.ref C) "__getattr__" = some none
  hdC : PySem.W.hasDictIn K C = true
  te : PySem.W.exmOne K (.ref C) (.ref R) = some true
theorem own_tail (R : Addr) (X : String) : (Value.ref R :: tailE).contains (.type X) = tailE.contains (.type X) := by
  rw [List.contains_cons]
  rfl
section
open Builtin Builtin.ObjectAttr PySem.HandSPX
variable {prog : Program} {w : World} {A : Around} {T : PySem.Result → Shared → Prop} {hp : Heap} {g : Array GenState} {d : Drawn} {t : Nat} {os : OsState}
/-- the first field of such an error -/
theorem own_store {K : PySem.W.Frag} {f : Str} {tk : Tok} {v : Value} {x C R : Addr} {fv : Array Value} {cd : ClassData}
    (Y : K.In hp) (hx : hp.get? x = some { cls := .ref C, data := .fields fv }) (hcd : PySem.W.clsIn K C = some cd) (hm : cd.mro = .ref C :: .ref R :: tailE) (hh : cd.hasDict = true) (hno : PySem.W.findIn K (.ref C) f = some none)
    (hq : ∀ h' tk' dx, (∀ b o, b ≠ x → hp.get? b = some o → h'.get? b = some o) → hp.objs.size ≤ dx → dx ≠ x → h'.get? x = some { cls := .ref C, dict := some dx, data := .fields fv } →
      h'.Ns1 dx (fun y => if y = f then some v else none) → T (.ok (.ret .none)) ⟨h', g, d, tk', os⟩) :
    codeAny (model prog w) A (.call (.builtin "object.__setattr__") ⟨[.ref x, .str f tk, v], []⟩) T ⟨hp, g, d, t, os⟩ := by
  have J : PySem.W.InstAt hp x { cls := .ref C, data := .fields fv } C none := ⟨hx, rfl, rfl, trivial⟩
  have S := PySem.F.store_object
  have hob : cd.mro.contains (.type "object") = true := by
    rw [hm, List.contains_cons, List.contains_cons]
    rfl
  have hne : cd.mro.isEmpty = false := by rw [hm]; rfl
  have far : x ≠ hp.objs.size := Nat.ne_of_lt (Heap.lt_size hx)
  have isO : PySem.W.Looks (model prog w) hp (isInstance (.ref x) (.type "object")) true :=
    J.type.andThen (PySem.W.looks_mroIn Y (by unfold PySem.W.mroIn; rw [hcd, Option.bind_some, if_neg (by rw [hne]; decide), hob]))
  refine codeAny_call_builtin S.slot.plain S.entry
    (@PySem.W.check_slot (model prog w) _ _ ⟨hp, g, d, t, os⟩ "object.__setattr__" "object" "__setattr__" (.ref x) [.str f tk, v] [] _ S.kind S.split isO (S.args (.ref x) (.str f tk) v) ?_)
  have mr : PySem.W.Looks (model prog w) hp (mroOf (.ref C)) cd.mro := (PySem.W.looks_clsIn Y hcd).andThen .now
  have l3 : PySem.W.Looks (model prog w) hp (storeTaker? none) none := .now
  have hcls : PySem.W.Looks (model prog w) hp (classData C) cd := PySem.W.looks_clsIn Y hcd
  have pass : refuseLoop (.ref x) "__setattr__" cd.mro = pure () := by
    rw [hm, refuseLoop_ref, refuseLoop_ref]
    exact PySem.F.store_Exception.passes _
  rw [PySem.W.osa_eq, refuse_eq]
  refine wpAny_bind (wpAny_bind (J.type.at (wpAny_bind (mr.at ?_))))
  rw [pass]
  refine wpAny_pure (wpAny_bind (J.type.at (wpAny_bind ((PySem.W.looks_findIn Y hno).at (wpAny_bind (l3.at ?_))))))
  show wpAny _ _ (storeInOwnDict (.ref x) (.ref C) (.str f tk) f v false) _ _ _
  obtain ⟨nm, bs, mro, ns, qn, hd, sn, sb, ab, col, dl⟩ := cd
  dsimp only at hh
  subst hh
  unfold storeInOwnDict ownDictForStores
  repeat (first
    | with_reducible refine store_in_new ?_ ?_
    | with_reducible refine wpAny_loadPart_at hx ?_
    | with_reducible refine hcls.at ?_
    | wp_step)
  · exact ⟨_, #[], _, (Heap.get?_update_ne _ _ _ _ far.symm).trans (Heap.get?_push_at rfl rfl), rfl, fun e he => absurd he (by simp), fun _ => rfl⟩
  · intro h' tk' hn' hs
    have hx1 : (hp.push { cls := .type "dict", data := .dict #[] }).get? x = some { cls := .ref C, data := .fields fv } := Heap.get?_push_of_some _ hx
    refine hq h' tk' hp.objs.size (fun b o hb ho => ?_) (Nat.le_refl _) far.symm ?_ hn'
    · refine (hs.2 b (Nat.ne_of_lt (Heap.lt_size ho))).trans ?_
      exact (Heap.get?_update_ne _ _ _ _ hb).trans (Heap.get?_push_of_some _ ho)
    · refine (hs.2 x far).trans ?_
      exact Heap.get?_update_self _ hx1 rfl
end
theorem typ_E : typeOf (.type "Exception") = pure (.type "type") := by kernel_rfl
section
variable {X : Cx} {pins : List (Addr × Obj)} {σ : L2.St} {H : Hp} {s : Shared} {a C R : Addr} {y : V} {u : Value} {E : Value → Shared → Prop} {A : Around}
theorem own_cls (T : Own X.K C R) : ∃ cd, PySem.W.clsIn X.K C = some cd ∧ cd.mro = .ref C :: .ref R :: tailE ∧ cd.hasDict = true := by
  obtain ⟨nm, q, N, bs, sn, sub, ab, col, dd, k0, k1, k2, k3, k5, hC⟩ := T.cls
  refine ⟨{ name := nm, bases := bs, mro := .ref C :: .ref R :: tailE, ns := N, qualname := q, hasDict := true, slotNames := sn, subclasses := sub, abstract := ab, collection := col, hasDel := false }, ?_, rfl, rfl⟩
  unfold PySem.W.clsIn
  rw [hC] <;> rfl
/-- self.code = y -/
theorem own_field {Q : Unit → Shared → Prop} (T : Own X.K C R) (I : Inv X pins σ H s) (e : H a = some (exo a C none)) (ry : RelV y u)
    (h : ∀ dx s', H dx = none → dx ≠ a → Inv X pins σ (upd (upd H dx (exd dx [("code", y)])) a (exo a C (some dx))) s' → Q () s') : wpAny (model X.prog X.w) A (setAttr (.ref a) "code" u) Q E s := by
  obtain ⟨cd, hcl, hm, hd⟩ := own_cls T
  obtain ⟨t1, ho⟩ := exo_at I.hok e
  obtain ⟨hp, g, d, t, os⟩ := s
  refine PySem.W.set_plain I.kIn (ox := { cls := .ref C, dict := none, data := .fields #[.ref t1, .none, .none, .none, .bool false, .none] }) (od := none) ⟨ho, rfl, rfl, trivial⟩ T.sa ?_
  refine own_store (R := R) I.kIn ho hcl hm hd T.no (fun h' tk' dx k dn dne hx hn => ?_)
  have hnd : H dx = none := I.hok.fresh dn
  have nd : ∀ {b : Addr} {o : Obj}, hp.get? b = some o → b ≠ dx := fun {b o} q => Nat.ne_of_lt (Nat.lt_of_lt_of_le (Heap.lt_size q) dn)
  have na : ∀ {b : Addr}, H b = none → b ≠ a := fun {b} n z => by
    rw [z, e] at n
    cases n
  have U : Un X.fs [] H (upd (upd H dx (exd dx [("code", y)])) a (exo a C (some dx))) hp h' := {
    keep := fun b o q n _ _ => k b o (na n) q
    slot := fun b o q n _ _ => ⟨o.slots, k b o (na n) q⟩
    free := fun b o q n _ => by
      rw [upd_ne (na n), upd_ne (nd q)]
      exact n
    there := fun b o q _ => by
      by_cases hb : b = a
      · exact ⟨_, by rw [hb]; exact hx⟩
      · exact ⟨o, k b o hb q⟩
    tups := fun b xs q => by
      rw [upd_ne (at_ne e q exo_tup), upd_ne (ne_of_none q hnd)]
      exact q
    frzs := fun b o v q => by
      rw [upd_ne (at_ne e q exo_frz), upd_ne (ne_of_none q hnd)]
      exact q
    tbls := fun b ps q => ⟨#[], by
      rw [upd_ne (at_ne e q exo_tbl), upd_ne (ne_of_none q hnd), q]
      simp⟩ }
  refine h dx _ hnd dne (I.un (t' := tk') U fun b o q => ?_)
  by_cases hb : b = a
  · subst hb
    rw [upd_same] at q
    cases q
    exact exo_ok hx
  · rw [upd_ne hb] at q
    by_cases hd : b = dx
    · subst hd
      rw [upd_same] at q
      cases q
      exact exd_ok hn (relO_put (fs := []) ry fun g => True.intro)
    · rw [upd_ne hd] at q
      refine (I.hok b o q).stay (fun c v hc z => k c v ?_ z) (fun c hc => ?_) (fun c xs hc => ?_)
      · rcases hc with hc | hc
        · rw [hc]
          exact hb
        · exact at_ne e hc exo_own
      · rw [upd_ne (at_ne e hc exo_own), upd_ne (ne_of_none hc hnd)]
        exact hc
      · rw [upd_ne (at_ne e hc exo_tup), upd_ne (ne_of_none hc hnd)]
        exact hc
/-- Exception.__init__(self, ..) -/
theorem own_base {us : List Value} {Q : Value → Shared → Prop} (T : Own X.K C R) (I : Inv X pins σ H s) (e : H a = some (exo a C none)) (hl : us.length ≤ sizeLine) (h : ∀ s', Inv X pins σ H s' → Q .none s') :
    wpAny (model X.prog X.w) A (call (.builtin "Exception.__init__") (.ref a :: us)) Q E s := by
  obtain ⟨nm, q, N, bs, sn, sub, ab, col, dd, k0, k1, k2, k3, k5, hC⟩ := T.cls
  obtain ⟨t1, ho⟩ := exo_at I.hok e
  obtain ⟨hp, g, d, t, os⟩ := s
  refine wpAny_call (PySem.HandSPX.init_base PySem.F.excBase_Exception (own_tail R) (I.kIn _ _ hC) ho hl fun h' t2 k hx => ?_)
  have J := I.write (t' := t) (x := a) (e := a) (o := exo a C none) (by rw [e]; exact True.intro) (.inl rfl) k ⟨_, hx⟩ (exo_ok hx)
  have same : upd H a (exo a C none) = H := by
    funext b
    by_cases hb : b = a
    · rw [hb, upd_same, e]
    · rw [upd_ne hb]
  rw [same] at J
  exact h _ J
end
end Rc

/-! ## Hy -/
set_option maxHeartbeats 4000000
/-! The text of the errors: __init__ of the base, __init__ of a class over it, raising one, reading its number. -/
namespace Rc
open PySem PySem.Spec PyProof.Rows L2
section
variable {P : Program} {w : World} {K : PySem.W.Frag} {mg : Str → Option Value} {base : Heap}
/-- what is known of Exception's own __init__ -/
def ExB (K : PySem.W.Frag) : Prop := PySem.W.findCls K (.type "Exception") (.type "type") "__init__" = some (.val (.builtin "Exception.__init__"))
/-- the base's __init__, read as an attribute of the base -/
structure Up (K : PySem.W.Frag) (R fR : Addr) (mc : Value) : Prop where
  rd : PySem.W.readsIn K R mc = true
  ga : PySem.W.specialIn K (.ref R) "__getattribute__" = some (some (.builtin "type.__getattribute__"))
  at_ : PySem.W.findCls K (.ref R) mc "__init__" = some (.val (.ref fR))
/-- an exception being made gets its number -/
def GetsCode (H : Hp) (Q : VK) (a C : Addr) (n : V) : Prop := H a = some (exo a C none) ∧ ∀ dx, H dx = none → dx ≠ a → Q .non (upd (upd H dx (exd dx [("code", n)])) a (exo a C (some dx)))
def spIR (K : PySem.W.Frag) (R : Addr) : Sp := fun vs H Q _ => ∃ (a C : Addr) (n : Int), vs = [.ref a, .int n] ∧ Own K C R ∧ GetsCode H Q a C (.int n)
def spIC (C : Addr) (n : Int) : Sp := fun vs H Q _ => ∃ a : Addr, vs = [.ref a] ∧ GetsCode H Q a C (.int n)
end
section
variable {X : Cx} {R : Addr}
def tExI (K : PySem.W.Frag) (R : Addr) (ta : TA) : TE := fun σ H Q => ta σ H fun vs H1 => ∃ (a C : Addr) (ws : List V), vs = .ref a :: ws ∧ ws.length ≤ 1000 ∧ Own K C R ∧ H1 a = some (exo a C none) ∧ Q .non H1
theorem pe_exinit {e : Expr} {es : List Expr} {ta : TA} {p1 p2 pos : Pos} {pl : Sem Bool} (hg : Gl X "Exception") (hm : X.mg "Exception" = none) (vE : ExB X.K) (ha : PA X (e :: es) ta)
    (hc : eval (.Call (.Attribute (.Name "Exception" p1) "__init__" p2) (e :: es) [] pos) X.env = (do
      let ov ← eval (.Name "Exception" p1) X.env
      standAt p2.atName
      let (f, first) ← holding [ov] (getMethod ov "__init__" pl)
      callWith pos f first (backTo pos (starEach (e :: es) X.env)) (backToKw pos (keywordEach [] X.env))) := by rfl)
    (he : starEach (e :: es) X.env = (false, eval e X.env) :: starEach es X.env := by rfl) (hpl : (backTo pos (starEach es X.env)).any (·.1) = false := by rfl) :
    PE X (.Call (.Attribute (.Name "Exception" p1) "__init__" p2) (e :: es) [] pos) (tExI X.K R ta) := by
  refine ⟨fun pins s σ H Q I h => ?_⟩
  refine PySem.W.methodCall_KW (ld_blt I hg hm PyProof.Rows.Boot.«Exception» ?_ (by decide) (by decide)) hc
  obtain ⟨m, fr⟩ := I.fr
  refine PySem.W.method_type fr I.ok.mod.kin typ_E (by decide +kernel) vE (by decide +kernel) ?_
  show wpAny _ _ (callWith pos (Value.builtin "Exception.__init__") [] (backTo pos (starEach (e :: es) X.env)) []) _ _ _
  refine PyProof.Rows.callWith_method1 (thn (ha.run pos pins _ σ H _ (I.tok _) h) fun us s1 ⟨vs, H1, I1, r1, a, C, ws, ev, hl, T, ea, q⟩ => ?_) he hpl
  subst ev
  cases r1 with
  | @cons _ u0 _ ur ra rw' =>
    obtain rfl : u0 = Value.ref a := ra
    refine own_base T I1 ea ?_ fun s' J => ⟨.non, H1, J, rfl, q⟩
    rw [← Paired.length rw', sizeLine_eq]
    omega
def tCode (K : PySem.W.Frag) (R : Addr) (to te : TE) : TS := fun D σ H => te σ H fun y H1 => to σ H1 fun x H2 => ∃ a C : Addr, x = .ref a ∧ Own K C R ∧ H2 a = some (exo a C none) ∧
  ∀ dx, H2 dx = none → dx ≠ a → D.nx σ (upd (upd H2 dx (exd dx [("code", y)])) a (exo a C (some dx)))
theorem ps_code {o e : Expr} {to te : TE} {p' pos : Pos} (ho : PE X o to) (he : PE X e te) (hs : swapsWith e (some (.Attribute o "code" p')) pos.line X.env = pure false := by rfl) :
    PS X (.Assign [.Attribute o "code" p'] e pos) (tCode X.K R to te) := by
  refine ⟨fun pins s σ H D I h => ?_⟩
  refine plainObj_wpAny_Assign_Attribute (thn (he.run pins s σ H _ I h) fun v s1 ⟨y, H1, I1, r1, q1⟩ => thn (ho.run pins s1 σ H1 _ I1 q1) fun u s2 ⟨x, H2, I2, r2, a, C, ex, T, ea, q⟩ => ?_) hs
  subst ex
  obtain rfl : u = Value.ref a := r2
  exact own_field T I2 ea r1 fun dx s' n ne J => ⟨σ, _, J, q dx n ne⟩
theorem pe_up {x : Str} {CX : CXT} {k : Nat} {fR : Addr} {mc : Value} {fd : FuncData} {ps : List Str} {sp : Sp} {E : XK} {e : Expr} {es : List Expr} {t : TA} {p1 p2 pos : Pos} {pl : Sem Bool} (hg : Gl X x) (hm : X.mg x = some (.ref R)) (r : Up X.K R fR mc)
    (F : FnOk X.prog X.w X.K X.mg X.base CX k fR fd ps sp) (hk : PySem.W.keepIn X.K (.ref fR) = true) (hr : Room k X.A) (hb : Binds X.K fd ps []) (hx : Passes CX X E) (ha : PA X (e :: es) t)
    (hdb : (x == ("__debug__" : Str)) = false := by decide)
    (ht : eval (.Call (.Attribute (.Name x p1) "__init__" p2) (e :: es) [] pos) X.env = (do
      let ov ← eval (.Name x p1) X.env
      standAt p2.atName
      let (f, first) ← holding [ov] (getMethod ov "__init__" pl)
      callWith pos f first (backTo pos (starEach (e :: es) X.env)) (backToKw pos (keywordEach [] X.env))) := by rfl)
    (he : starEach (e :: es) X.env = (false, eval e X.env) :: starEach es X.env := by rfl) (hpl : (backTo pos (starEach es X.env)).any (·.1) = false := by rfl) :
    PE X (.Call (.Attribute (.Name x p1) "__init__" p2) (e :: es) [] pos) (tCall sp [] E t) := by
  refine ⟨fun pins s σ H Q I h => ?_⟩
  refine PySem.W.methodCall_KW (pl := pl) (ld_glob I hg hm ?_ hdb) ht
  refine PySem.W.method_cls I.kIn r.ga (PySem.W.cls_value I.kIn r.rd r.at_ rfl ?_)
  refine PySem.W.callWith_K (first := []) (h₀ := X.base) I.ok.mod.kin hk (thn (ha.run pos pins _ σ H _ (I.tok _) h) fun us s1 ⟨vs, H1, I1, rv, q⟩ => ⟨I1.kIn, ?_⟩) he hpl
  exact run_fn F hr hb .nil hx I1 rv q
/-- C(): the whole of it -/
def tMk (C : Addr) (n : Int) : L2.St → Hp → XK → Prop := fun _ H Q => ∀ d, H d = none → Q (.ref C) (some d) (upd H d (.xd [("code", .int n)]))
theorem pmk_own0 {x : Str} {C fI : Addr} {k : Nat} {fd : FuncData} {n : Int} {p pos : Pos} (T : Own X.K C R) (iC : PySem.W.findIn X.K (.ref C) "__init__" = some (some (.ref fI))) (tI : PySem.W.typeIn X.K (.ref fI) = some (.type "function"))
    (F1 : FnOk X.prog X.w X.K X.mg X.base CX0 k fI fd ["self"] (spIC C n)) (hr : Room (k + 1) X.A) (hb : Binds X.K fd ["self"] []) (hg : Gl X x) (hm : X.mg x = some (.ref C))
    (hdb : (x == ("__debug__" : Str)) = false := by decide) : PMk X (.Call (.Name x p) [] [] pos) (tMk C n) := by
  intro pins s σ H Q I h
  obtain ⟨nm, q, N, bs, sn, sub, ab, col, dd, k0, k1, k2, k3, k5, hC⟩ := T.cls
  refine wpAny_Call_Name_kw (ld_glob I hg hm ?_ hdb)
  refine PySem.W.callWith_K0 I.kIn T.kC ?_
  show wpAny _ _ (call (.ref C) []) _ _ _
  obtain ⟨hp, g, dr, tk, os⟩ := s
  have hsz : hp.objs.size ≤ hp.objs.size + 1 := Nat.le_succ _
  have hn : H (hp.objs.size + 1) = none := I.hok.fresh hsz
  have kk : ∀ b o, hp.get? b = some o → ((hp.push (PySem.W.kdv_tup [])).push (PySem.HandSPX.excO C hp.objs.size)).get? b = some o := fun b o e => Heap.get?_push_of_some _ (Heap.get?_push_of_some _ e)
  have hget : ((hp.push (PySem.W.kdv_tup [])).push (PySem.HandSPX.excO C hp.objs.size)).get? (hp.objs.size + 1) = some (PySem.HandSPX.excO C hp.objs.size) := by heap_get
  have I2 := I.laid (t' := tk) (a := hp.objs.size + 1) (o := exo (hp.objs.size + 1) C none) (h' := (hp.push (PySem.W.kdv_tup [])).push (PySem.HandSPX.excO C hp.objs.size)) kk hsz (exo_ok hget)
  have hq : spIC C n [.ref (hp.objs.size + 1)] (upd H (hp.objs.size + 1) (exo (hp.objs.size + 1) C none)) (fun v H2 => v = .non ∧ ∃ d : Addr, H2 (hp.objs.size + 1) = some (exo (hp.objs.size + 1) C (some d)) ∧ H2 d = some (exd d [("code", .int n)]) ∧ H d = none ∧
      upd (del H2 (hp.objs.size + 1)) d (.xd [("code", .int n)]) = upd H d (.xd [("code", .int n)])) E0 := by
    refine ⟨_, rfl, upd_same, fun dx f1 f2 => ⟨rfl, dx, upd_same, ?_, ?_, ?_⟩⟩
    · rw [upd_ne f2, upd_same]
    · rw [upd_ne f2] at f1
      exact f1
    · funext b
      by_cases hb : b = dx
      · rw [hb, upd_same, upd_same]
      · rw [upd_ne hb, upd_ne hb]
        by_cases ha : b = hp.objs.size + 1
        · rw [ha, del_same, hn]
        · rw [del_ne ha, upd_ne ha, upd_ne hb, upd_ne ha]
  refine wpAny_call (PySem.HandSPX.call_own PySem.F.excBase_Exception (own_tail R) (I.kIn _ _ hC) (PySem.W.looks_findIn I.kIn iC) (fun self => PySem.W.bind_fn I.kIn self tI) (Nat.zero_le _)
    (codeAny_mono (F1.run _ X.stack _ _ ⟨Value.ref (hp.objs.size + 1) :: [], []⟩ [Value.ref (hp.objs.size + 1)] _ _ E0 (hr.make C [] []) (I2.env0.make C [] []) (hb _ [Value.ref (hp.objs.size + 1)] I2.kIn rfl) (show Vals [V.ref (hp.objs.size + 1)] [Value.ref (hp.objs.size + 1)] from .cons rfl .nil) hq) fun r s' hq' => ?_))
  cases r with
  | error er => exact hq'.elim
  | ok fl =>
    cases fl with
    | ret u =>
      obtain ⟨v, H2, os2, bare2, un2, hok2, rv, ev, d, ea, ed, hd1, eq⟩ := hq'
      subst ev
      obtain ⟨h2, g2, d2, t2, os'⟩ := s'
      refine ⟨rv, mk_end (raises_own T.exC T.tyC) I hsz kk un2 hok2 os2 bare2 ea ed hd1 ?_⟩
      rw [eq]
      exact h d hd1
    | next => exact False.elim hq'
    | brk => exact False.elim hq'
    | cont => exact False.elim hq'
end
end Rc

/-! ## Hz -/
set_option maxHeartbeats 4000000
namespace Rc
open PySem PySem.Spec PyProof.Rows L2
/-! ### the two kinds of __init__ -/
abbrev sIR : Stmt := inClass (top 1) 0
theorem scIR : FnScope ["self", "code"] ["self", "code"] (defScope sIR) := ⟨rfl, rfl, rfl, by decide +kernel, rfl, by decide +kernel, by decide +kernel⟩
section
variable {P : Program} {w : World} {K : PySem.W.Frag} {mg : Str → Option Value} {base : Heap} {R : Addr}
theorem ok_ir {f : Addr} {fd : FuncData} (F : Fun K "__init__" "Refusal.__init__" sIR f fd) (hm : mg "Exception" = none) (vE : ExB K) : FnOk P w K mg base CX0 1 f fd ["self", "code"] (spIR K R) := by
  refine F.ok scIR (fun vs H Q E h => ?_) (fun cdv A outer s H vs Q E hr h => ⟨_, pss_cons (ps_expr (pe_exinit (R := R) (by rfl) hm vE (pa_cons (pv 0) (pa_cons (pv 1) pa_nil))))
    (pss_one (ps_code (R := R) (pv 0) (pv 1))), ?_⟩)
  · obtain ⟨a, C, n, rfl, _⟩ := h
    rfl
  · obtain ⟨a, C, n, rfl, T, e, k⟩ := h
    exact ⟨_, rfl, _, rfl, a, C, _, rfl, (by show 1 ≤ 1000; decide), T, e, _, rfl, _, rfl, a, C, rfl, T, e, k⟩
/-- the error's class: its name, its number -/
structure Ec (P : Program) (w : World) (K : PySem.W.Frag) (mg : Str → Option Value) (base : Heap) (R : Addr) (x : Str) (n : Int) : Prop where
  ex : ∃ (C fI : Addr) (fd : FuncData), mg x = some (.ref C) ∧ Own K C R ∧ PySem.W.findIn K (.ref C) "__init__" = some (some (.ref fI)) ∧ PySem.W.typeIn K (.ref fI) = some (.type "function") ∧
    FnOk P w K mg base CX0 3 fI fd ["self"] (spIC C n) ∧ Binds K fd ["self"] []
theorem scIC1 : FnScope ["self"] ["self"] (defScope (inClass (top 2) 0)) := ⟨rfl, rfl, rfl, by decide +kernel, rfl, by decide +kernel, by decide +kernel⟩
theorem scIC2 : FnScope ["self"] ["self"] (defScope (inClass (top 3) 0)) := ⟨rfl, rfl, rfl, by decide +kernel, rfl, by decide +kernel, by decide +kernel⟩
theorem scIC3 : FnScope ["self"] ["self"] (defScope (inClass (top 4) 0)) := ⟨rfl, rfl, rfl, by decide +kernel, rfl, by decide +kernel, by decide +kernel⟩
theorem scIC4 : FnScope ["self"] ["self"] (defScope (inClass (top 5) 0)) := ⟨rfl, rfl, rfl, by decide +kernel, rfl, by decide +kernel, by decide +kernel⟩
/-- what Refusal.__init__ gives each class over it -/
structure Base (P : Program) (w : World) (K : PySem.W.Frag) (mg : Str → Option Value) (base : Heap) (R : Addr) : Prop where
  ex : ∃ (fR : Addr) (fdR : FuncData) (mc : Value), mg "Refusal" = some (.ref R) ∧ Up K R fR mc ∧ FnOk P w K mg base CX0 2 fR fdR ["self", "code"] (spIR K R) ∧ PySem.W.keepIn K (.ref fR) = true ∧ Binds K fdR ["self", "code"] []
theorem ok_ic1 {f C : Addr} {fd : FuncData} (F : Fun K "__init__" "NotCreated.__init__" (inClass (top 2) 0) f fd) (B : Base P w K mg base R) (T : Own K C R) : FnOk P w K mg base CX0 3 f fd ["self"] (spIC C (-11)) := by
  obtain ⟨fR, fdR, mc, hm, U, FR, kR, bR⟩ := B.ex
  refine F.ok scIC1 (fun vs H Q E h => ?_) (fun cdv A outer s H vs Q E hr h => ⟨_, pss_one (ps_expr (pe_up (by rfl) hm U FR kR hr bR pass0 (pa_cons (pv 0) (pa_cons (pe_un un_neg pe_int) pa_nil)))), ?_⟩)
  · obtain ⟨a, rfl, _⟩ := h
    rfl
  · obtain ⟨a, rfl, k⟩ := h
    exact ⟨_, rfl, _, rfl, a, C, _, rfl, T, k⟩
theorem ok_ic2 {f C : Addr} {fd : FuncData} (F : Fun K "__init__" "NoSuchSlot.__init__" (inClass (top 3) 0) f fd) (B : Base P w K mg base R) (T : Own K C R) : FnOk P w K mg base CX0 3 f fd ["self"] (spIC C (-2)) := by
  obtain ⟨fR, fdR, mc, hm, U, FR, kR, bR⟩ := B.ex
  refine F.ok scIC2 (fun vs H Q E h => ?_) (fun cdv A outer s H vs Q E hr h => ⟨_, pss_one (ps_expr (pe_up (by rfl) hm U FR kR hr bR pass0 (pa_cons (pv 0) (pa_cons (pe_un un_neg pe_int) pa_nil)))), ?_⟩)
  · obtain ⟨a, rfl, _⟩ := h
    rfl
  · obtain ⟨a, rfl, k⟩ := h
    exact ⟨_, rfl, _, rfl, a, C, _, rfl, T, k⟩
theorem ok_ic3 {f C : Addr} {fd : FuncData} (F : Fun K "__init__" "ZeroPolynomial.__init__" (inClass (top 4) 0) f fd) (B : Base P w K mg base R) (T : Own K C R) : FnOk P w K mg base CX0 3 f fd ["self"] (spIC C (-33)) := by
  obtain ⟨fR, fdR, mc, hm, U, FR, kR, bR⟩ := B.ex
  refine F.ok scIC3 (fun vs H Q E h => ?_) (fun cdv A outer s H vs Q E hr h => ⟨_, pss_one (ps_expr (pe_up (by rfl) hm U FR kR hr bR pass0 (pa_cons (pv 0) (pa_cons (pe_un un_neg pe_int) pa_nil)))), ?_⟩)
  · obtain ⟨a, rfl, _⟩ := h
    rfl
  · obtain ⟨a, rfl, k⟩ := h
    exact ⟨_, rfl, _, rfl, a, C, _, rfl, T, k⟩
theorem ok_ic4 {f C : Addr} {fd : FuncData} (F : Fun K "__init__" "OutOfRange.__init__" (inClass (top 5) 0) f fd) (B : Base P w K mg base R) (T : Own K C R) : FnOk P w K mg base CX0 3 f fd ["self"] (spIC C (-22)) := by
  obtain ⟨fR, fdR, mc, hm, U, FR, kR, bR⟩ := B.ex
  refine F.ok scIC4 (fun vs H Q E h => ?_) (fun cdv A outer s H vs Q E hr h => ⟨_, pss_one (ps_expr (pe_up (by rfl) hm U FR kR hr bR pass0 (pa_cons (pv 0) (pa_cons (pe_un un_neg pe_int) pa_nil)))), ?_⟩)
  · obtain ⟨a, rfl, _⟩ := h
    rfl
  · obtain ⟨a, rfl, k⟩ := h
    exact ⟨_, rfl, _, rfl, a, C, _, rfl, T, k⟩
end
section
variable {X : Cx} {R : Addr} {W : WX}
/-- raise C() -/
def tRz (K : PySem.W.Frag) (R : Addr) (n : Int) (W : WX) : TS := fun _ σ H => ∀ (C d : Addr), Own K C R → H d = none → W (.ref C) (some d) σ (upd H d (.xd [("code", .int n)]))
theorem ps_rz {x : Str} {n : Int} {p pos pos2 : Pos} (hc : X.calm = true) (tk : Takes X W) (D : Ec X.prog X.w X.K X.mg X.base R x n) (hr : Room 4 X.A) (hg : Gl X x := by rfl) (hdb : (x == ("__debug__" : Str)) = false := by decide) :
    PS X (.Raise (some (.Call (.Name x p) [] [] pos)) none pos2) (tRz X.K R n W) := by
  obtain ⟨C, fI, fd, hm, T, iC, tI, F1, hb⟩ := D.ex
  exact ⟨fun pins s σ H D I h => (ps_raise hc tk (pmk_own0 T iC tI F1 hr hb hg hm hdb)).run pins s σ H D I fun d hd => h C d T hd⟩
/-- refusal.code -/
def tGot (K : PySem.W.Frag) (R a : Addr) (cls : Value) (d : Option Addr) (te : TE) : TE := fun σ H Q => te σ H fun x H1 => x = .ref a ∧ ∃ (C dd : Addr) (v : V), cls = .ref C ∧ Own K C R ∧ d = some dd ∧ H1 dd = some (.xd [("code", v)]) ∧ Q v H1
theorem pe_got {a : Addr} {oe : Obj} {cls : Value} {d : Option Addr} {pn : List (Addr × Obj)} {e : Expr} {te : TE} {pos : Pos} (hz : Zc cls d oe) (hf : ∃ vs, oe.data = .fields vs) (he : PE (X.suite a ((a, oe) :: pn)) e te)
    (hb : attributeBase e "code" X.env (eval e X.env) = eval e X.env := by rfl) :
    PE (X.suite a ((a, oe) :: pn)) (.Attribute e "code" pos) (tGot X.K R a cls d te) := by
  refine ⟨fun pins s σ H Q I h => attr_of hb (thn (he.run pins s σ H _ I h) fun u s1 ⟨x, H1, I1, rx, ex, C, dd, v, ec, T, ed, ea, q⟩ => ?_)⟩
  subst ex
  subst ec
  subst ed
  obtain rfl : u = Value.ref a := rx
  have pin := (I1.pin (a, oe) (List.mem_append_left _ List.mem_cons_self)).1
  obtain ⟨fv, hd⟩ := hf
  have ob : ObjOk X.prog X.w H1 s1.heap dd (.xd [(("code" : Str), v)]) := I1.hok dd _ ea
  obtain ⟨mA, hns, rel⟩ := ob
  obtain ⟨od, ho, look⟩ := lookIn_ns hns
  have r0 := rel "code"
  rw [show List.lookup ("code" : Str) [(("code" : Str), v)] = some v by simp [List.lookup]] at r0
  obtain ⟨y, hy, ry⟩ := RelO.some_of r0
  have J : PySem.W.InstAt s1.heap a oe C (some od) := ⟨pin, hz.1, by unfold PySem.W.notCls; rw [hd] <;> rfl, by rw [hz.2]; exact ho⟩
  refine HandSPX.exc_get I1.kIn J T.ga T.gg T.exC (PySem.W.findObj_own T.hdC T.no rfl ?_) (handed_of ry) ⟨v, H1, I1.tok _, ry, q⟩
  rw [look, hy]
end
end Rc

/-! ## Ia -/
set_option maxHeartbeats 4000000
namespace Rc
open PySem PySem.Spec PyProof.Rows L2
/-- as Dn, for a def that may raise -/
structure DnX (P : Program) (w : World) (K : PySem.W.Frag) (mg : Str → Option Value) (base : Heap) (x : Str) (k : Nat) (ps : List Str) (sp : Sp) : Prop where
  ex : ∃ (f : Addr) (fd : FuncData), mg x = some (.ref f) ∧ PySem.W.keepIn K (.ref f) = true ∧ Binds K fd ps [] ∧ FnOk P w K mg base (L2.CX P w) k f fd ps sp
theorem pe_fnX {X : Cx} {x : Str} {k : Nat} {ps : List Str} {sp : Sp} {E : XK} {e : Expr} {es : List Expr} {t : TA} {p pos : Pos} (D : DnX X.prog X.w X.K X.mg X.base x k ps sp) (tk : Takes X fun cls d _ H => E cls d H) (hr : Room k X.A) (ha : PA X (e :: es) t) (hg : Gl X x := by rfl)
    (hdb : (x == ("__debug__" : Str)) = false := by decide) (he : starEach (e :: es) X.env = (false, eval e X.env) :: starEach es X.env := by rfl) (hpl : (backTo pos (starEach es X.env)).any (·.1) = false := by rfl) :
    PE X (.Call (.Name x p) (e :: es) [] pos) (tCall sp [] E t) := by
  obtain ⟨f, fd, h1, h2, h3, h4⟩ := D.ex
  exact pe_call h4 hr hg h1 h2 h3 .nil (passes_call tk fun _ _ _ _ h => h) ha hdb he hpl
/-- a constant of the module -/
theorem pe_cst {X : Cx} {x : Str} {v : V} {pos : Pos} (h : ∃ u, X.mg x = some u ∧ RelV v u) (hg : Gl X x := by rfl) (hd : (x == ("__debug__" : Str)) = false := by decide) : PE X (.Name x pos) (tC v) := by
  obtain ⟨u, hm, r⟩ := h
  exact pe_glob hg hm r hd
/-- what is wished of the error with the number n -/
def Er (K : PySem.W.Frag) (R : Addr) (E : XK) (H : Hp) (n : Int) : Prop := ∀ (H' : Hp) (C d : Addr), Own K C R → Same H H' → H' d = some (.xd [("code", .int n)]) → E (.ref C) (some d) H'
theorem Er.raise {K : PySem.W.Frag} {R : Addr} {E : XK} {H H1 : Hp} {n : Int} (h : Er K R E H n) (s : Same H H1) : ∀ (C d : Addr), Own K C R → H1 d = none → E (.ref C) (some d) (upd H1 d (.xd [("code", .int n)])) :=
  fun C d T hd => h _ C d T (s.trans (same_new hd)) upd_same
theorem Er.later {K : PySem.W.Frag} {R : Addr} {E : XK} {H H1 : Hp} {n : Int} (h : Er K R E H n) (s : Same H H1) : Er K R E H1 n := fun H' C d T s' e => h H' C d T (s.trans s') e
/-- the program's constants -/
structure Cs (mg : Str → Option Value) : Prop where
  slots : ∃ u, mg "SLOT_COUNT" = some u ∧ RelV (.int 4) u
  most : ∃ u, mg "MOST_COEFFICIENTS" = some u ∧ RelV (.int 9) u
  num : ∃ u, mg "GREATEST_NUMERATOR" = some u ∧ RelV (.int 1000000) u
  den : ∃ u, mg "GREATEST_DENOMINATOR" = some u ∧ RelV (.int 1000) u
  bits : ∃ u, mg "GREATEST_BITS" = some u ∧ RelV (.int 30) u
  power : ∃ u, mg "GREATEST_POWER" = some u ∧ RelV (.int 12) u
section
variable {P : Program} {w : World} {K : PySem.W.Frag} {mg : Str → Option Value} {base : Heap} {R : Addr}
/-! ### check_slot -/
abbrev sCs : Stmt := top 15
theorem scCs : FnScope ["slot"] ["slot"] (defScope sCs) := ⟨rfl, rfl, rfl, by decide +kernel, rfl, by decide +kernel, by decide +kernel⟩
def spCs (K : PySem.W.Frag) (R : Addr) : Sp := fun vs H Q E => ∃ z : Int, vs = [.int z] ∧ ((0 ≤ z ∧ z < 4) → Q .non H) ∧ (¬ (0 ≤ z ∧ z < 4) → Er K R E H (-2))
theorem ok_cs {f : Addr} {fd : FuncData} (F : Fun K "check_slot" "check_slot" sCs f fd) (C : Cs mg) (D : Ec P w K mg base R "NoSuchSlot" (-2)) : FnOk P w K mg base (L2.CX P w) 5 f fd ["slot"] (spCs K R) := by
  refine F.okX scCs (fun vs H Q E h => ?_) (fun cdv A outer s H vs Q E hr h => ⟨_, pss_one (ps_if (PW.pt (pw_or (pt_cmpR op_lt (pv 0) pe_int (nomark _)) (pw_or1 (pt_cmpR op_ge (pv 0) (pe_cst C.slots) (nomark _)))))
    (pss_one (ps_rz rfl (takes_of rfl rfl rfl rfl) D hr)) pss_nil), ?_⟩)
  · obtain ⟨z, rfl, _⟩ := h
    rfl
  · obtain ⟨z, rfl, k1, k2⟩ := h
    refine ⟨_, rfl, _, _, rfl, rfl, _, rfl, ?_⟩
    by_cases c : z < 0
    · refine if_true_of (by simpa using c) (if_true_of rfl ?_)
      exact (k2 (by omega)).raise (Same.refl H)
    · refine if_false_of (by simpa using c) ⟨_, rfl, _, _, rfl, rfl, _, rfl, ?_⟩
      by_cases d : 4 ≤ z
      · refine if_true_of (by simpa using d) ?_
        exact (k2 (by omega)).raise (Same.refl H)
      · refine if_false_of (by simpa using d) (k1 (by omega))
/-! ### check_numerator, check_denominator, check_argument -/
abbrev sCn : Stmt := top 16
theorem scCn : FnScope ["numerator"] ["numerator"] (defScope sCn) := ⟨rfl, rfl, rfl, by decide +kernel, rfl, by decide +kernel, by decide +kernel⟩
def NumOk (z : Int) : Prop := z.natAbs ≤ 1000000
def DenOk (z : Int) : Prop := 1 ≤ z ∧ z ≤ 1000
instance (z : Int) : Decidable (NumOk z) := inferInstanceAs (Decidable (_ ≤ _))
instance (z : Int) : Decidable (DenOk z) := inferInstanceAs (Decidable (_ ∧ _))
def spCn (K : PySem.W.Frag) (R : Addr) : Sp := fun vs H Q E => ∃ z : Int, vs = [.int z] ∧ (NumOk z → Q .non H) ∧ (¬ NumOk z → Er K R E H (-22))
theorem ok_cn {f : Addr} {fd : FuncData} (F : Fun K "check_numerator" "check_numerator" sCn f fd) (B : BI P mg base) (C : Cs mg) (D : Ec P w K mg base R "OutOfRange" (-22)) : FnOk P w K mg base (L2.CX P w) 5 f fd ["numerator"] (spCn K R) := by
  refine F.okX scCn (fun vs H Q E h => ?_) (fun cdv A outer s H vs Q E hr h => ⟨_, pss_one (ps_if (pt_cmpR op_gt (pe_callB call_abs (by rfl) B.abs (by decide +kernel) (pa_cons (pv 0) pa_nil)) (pe_cst C.num) (nomark _))
    (pss_one (ps_rz rfl (takes_of rfl rfl rfl rfl) D hr)) pss_nil), ?_⟩)
  · obtain ⟨z, rfl, _⟩ := h
    rfl
  · obtain ⟨z, rfl, k1, k2⟩ := h
    refine ⟨_, rfl, _, rfl, _, _, rfl, rfl, _, rfl, ?_⟩
    have e : (if z < 0 then -z else z) = (z.natAbs : Int) := by split <;> omega
    rw [e]
    by_cases c : NumOk z
    · have c' : z.natAbs ≤ 1000000 := c
      exact if_false_of (by simp; omega) (k1 c)
    · have c' : ¬ z.natAbs ≤ 1000000 := c
      exact if_true_of (by simp; omega) ((k2 c).raise (Same.refl H))
abbrev sCkd : Stmt := top 17
theorem scCkd : FnScope ["denominator"] ["denominator"] (defScope sCkd) := ⟨rfl, rfl, rfl, by decide +kernel, rfl, by decide +kernel, by decide +kernel⟩
def spCkd (K : PySem.W.Frag) (R : Addr) : Sp := fun vs H Q E => ∃ z : Int, vs = [.int z] ∧ (DenOk z → Q .non H) ∧ (¬ DenOk z → Er K R E H (-22))
theorem ok_ckd {f : Addr} {fd : FuncData} (F : Fun K "check_denominator" "check_denominator" sCkd f fd) (C : Cs mg) (D : Ec P w K mg base R "OutOfRange" (-22)) : FnOk P w K mg base (L2.CX P w) 5 f fd ["denominator"] (spCkd K R) := by
  refine F.okX scCkd (fun vs H Q E h => ?_) (fun cdv A outer s H vs Q E hr h => ⟨_, pss_one (ps_if (PW.pt (pw_or (pt_cmpR op_lt (pv 0) pe_int (nomark _)) (pw_or1 (pt_cmpR op_gt (pv 0) (pe_cst C.den) (nomark _)))))
    (pss_one (ps_rz rfl (takes_of rfl rfl rfl rfl) D hr)) pss_nil), ?_⟩)
  · obtain ⟨z, rfl, _⟩ := h
    rfl
  · obtain ⟨z, rfl, k1, k2⟩ := h
    refine ⟨_, rfl, _, _, rfl, rfl, _, rfl, ?_⟩
    by_cases c : z < 1
    · refine if_true_of (by simpa using c) (if_true_of rfl ?_)
      exact (k2 (fun h => absurd h.1 (by omega))).raise (Same.refl H)
    · refine if_false_of (by simpa using c) ⟨_, rfl, _, _, rfl, rfl, _, rfl, ?_⟩
      by_cases d : 1000 < z
      · refine if_true_of (by simpa using d) ?_
        exact (k2 (fun h => absurd h.2 (by omega))).raise (Same.refl H)
      · refine if_false_of (by simpa using d) (k1 ⟨by omega, by omega⟩)
abbrev sCa : Stmt := top 18
theorem scCa : FnScope ["numerator", "denominator"] ["numerator", "denominator"] (defScope sCa) := ⟨rfl, rfl, rfl, by decide +kernel, rfl, by decide +kernel, by decide +kernel⟩
def spCa (K : PySem.W.Frag) (R : Addr) : Sp := fun vs H Q E => ∃ z d : Int, vs = [.int z, .int d] ∧ ((NumOk z ∧ DenOk d) → Q .non H) ∧ (¬ (NumOk z ∧ DenOk d) → Er K R E H (-22))
theorem ok_ca {f : Addr} {fd : FuncData} (F : Fun K "check_argument" "check_argument" sCa f fd) (D1 : DnX P w K mg base "check_numerator" 5 ["numerator"] (spCn K R)) (D2 : DnX P w K mg base "check_denominator" 5 ["denominator"] (spCkd K R)) :
    FnOk P w K mg base (L2.CX P w) 6 f fd ["numerator", "denominator"] (spCa K R) := by
  refine F.okX scCa (fun vs H Q E h => ?_) (fun cdv A outer s H vs Q E hr h => ⟨_, pss_cons (ps_expr (pe_fnX D1 (takes_of rfl rfl rfl rfl) hr (pa_cons (pv 0) pa_nil))) (pss_one (ps_expr (pe_fnX D2 (takes_of rfl rfl rfl rfl) hr (pa_cons (pv 1) pa_nil)))), ?_⟩)
  · obtain ⟨z, d, rfl, _⟩ := h
    rfl
  · obtain ⟨z, d, rfl, k1, k2⟩ := h
    refine ⟨_, rfl, z, rfl, fun c1 => ⟨_, rfl, d, rfl, fun c2 => k1 ⟨c1, c2⟩, fun c2 => k2 fun h => c2 h.2⟩, fun c1 => k2 fun h => c1 h.1⟩
/-! ### check_coefficients -/
abbrev sCc : Stmt := top 19
abbrev nCc : List Str := ["denominator", "coefficients", "numerator"]
theorem scCc : FnScope nCc ["denominator", "coefficients"] (defScope sCc) := ⟨rfl, rfl, rfl, by decide +kernel, rfl, by decide +kernel, by decide +kernel⟩
def CoOk (d : Int) (p : List Int) : Prop := p.length ≤ 9 ∧ DenOk d ∧ ∀ z ∈ p, NumOk z
def spCc (K : PySem.W.Frag) (R : Addr) : Sp := fun vs H Q E => ∃ (d : Int) (a : Addr) (p : List Int), vs = [.int d, .ref a] ∧ SqL K H a (LI p) ∧ (CoOk d p → Q .non H) ∧ (¬ CoOk d p → Er K R E H (-22))
theorem ok_cc {f : Addr} {fd : FuncData} (F : Fun K "check_coefficients" "check_coefficients" sCc f fd) (B : BI P mg base) (C : Cs mg) (D : Ec P w K mg base R "OutOfRange" (-22)) (D1 : DnX P w K mg base "check_numerator" 5 ["numerator"] (spCn K R))
    (D2 : DnX P w K mg base "check_denominator" 5 ["denominator"] (spCkd K R)) : FnOk P w K mg base (L2.CX P w) 6 f fd ["denominator", "coefficients"] (spCc K R) := by
  refine F.okX scCc (fun vs H Q E h => ?_) (fun cdv A outer s H vs Q E hr h => ⟨_, pss_cons (ps_if (pt_cmpR op_gt (pe_callB call_len_seq (by rfl) B.len (by decide +kernel) (pa_cons (pv 1) pa_nil)) (pe_cst C.most) (nomark _))
      (pss_one (ps_rz rfl (takes_of rfl rfl rfl rfl) D (hr.mono (by decide)))) pss_nil)
    (pss_cons (ps_expr (pe_fnX D2 (takes_of rfl rfl rfl rfl) hr (pa_cons (pv 0) pa_nil)))
    (pss_one (ps_for (passes_of rfl) rfl (pi_list (pv 1)) (pg_name (i := 2) scCc.nd rfl (Or.inl rfl)) (pss_one (ps_expr (pe_fnX D1 (takes_of rfl rfl rfl rfl) hr (pa_cons (pv 2) pa_nil))))))), ?_⟩)
  · obtain ⟨d, a, p, rfl, _⟩ := h
    rfl
  · obtain ⟨d, a, p, rfl, hS, k1, k2⟩ := h
    refine ⟨_, rfl, a, _, rfl, .inl hS, _, _, rfl, rfl, _, rfl, ?_⟩
    by_cases c : p.length ≤ 9
    · refine if_false_of (by simp; omega) ?_
      refine ⟨_, rfl, d, rfl, fun c2 => ?_, fun c2 => k2 fun h => c2 h.2.1⟩
      refine ⟨_, rfl, a, rfl, ⟨_, hS⟩, for_list (K := K) (a := a) (xs := LI p) (fun i σ H' => ∃ s2 : Option V, σ = [some (.int d), some (.ref a), s2] ∧ H' = H ∧ ∀ z ∈ p.take i, NumOk z) ⟨none, rfl, rfl, fun z hz => by simp at hz⟩ (fun i σ H' _ ⟨_, _, e, _⟩ => by rw [e]; exact hS) ?_ ?_⟩
      · rintro i x σ H' hi ⟨s2, rfl, rfl, q⟩
        obtain ⟨z, hz, rfl⟩ := li_get hi
        refine ⟨_, rfl, z, rfl, fun c3 => ⟨_, rfl, rfl, ?_⟩, fun c3 => k2 fun h => c3 (h.2.2 z (List.mem_of_getElem? hz))⟩
        intro y hy
        rw [take_more hz, List.mem_append] at hy
        rcases hy with hy | hy
        · exact q y hy
        · obtain rfl := List.mem_singleton.mp hy
          exact c3
      · rintro σ H' ⟨s2, rfl, rfl, q⟩
        rw [List.length_map, List.take_length] at q
        exact k1 ⟨c, c2, q⟩
    · exact if_true_of (by simp; omega) ((k2 fun h => c h.1).raise (Same.refl H))
/-! ### check_interval -/
abbrev sCv : Stmt := top 20
abbrev nCv : List Str := ["low_numerator", "low_denominator", "high_numerator", "high_denominator"]
theorem scCv : FnScope nCv nCv (defScope sCv) := ⟨rfl, rfl, rfl, by decide +kernel, rfl, by decide +kernel, by decide +kernel⟩
def IvOk (a b c d : Int) : Prop := (NumOk a ∧ DenOk b) ∧ (NumOk c ∧ DenOk d) ∧ a * d < c * b
def spCv (K : PySem.W.Frag) (R : Addr) : Sp := fun vs H Q E => ∃ a b c d : Int, vs = [.int a, .int b, .int c, .int d] ∧ (IvOk a b c d → Q .non H) ∧ (¬ IvOk a b c d → Er K R E H (-22))
theorem ok_cv {f : Addr} {fd : FuncData} (F : Fun K "check_interval" "check_interval" sCv f fd) (D : Ec P w K mg base R "OutOfRange" (-22)) (D1 : DnX P w K mg base "check_argument" 6 ["numerator", "denominator"] (spCa K R)) :
    FnOk P w K mg base (L2.CX P w) 7 f fd nCv (spCv K R) := by
  refine F.okX scCv (fun vs H Q E h => ?_) (fun cdv A outer s H vs Q E hr h => ⟨_, pss_cons (ps_expr (pe_fnX D1 (takes_of rfl rfl rfl rfl) hr (pa_cons (pv 0) (pa_cons (pv 1) pa_nil))))
    (pss_cons (ps_expr (pe_fnX D1 (takes_of rfl rfl rfl rfl) hr (pa_cons (pv 2) (pa_cons (pv 3) pa_nil))))
    (pss_one (ps_if (pt_cmpR op_le (pe_op op_mulX (pv 2) (pv 1)) (pe_op op_mulX (pv 0) (pv 3)) (nomark _)) (pss_one (ps_rz rfl (takes_of rfl rfl rfl rfl) D (hr.mono (by decide)))) pss_nil))), ?_⟩)
  · obtain ⟨a, b, c, d, rfl, _⟩ := h
    rfl
  · obtain ⟨a, b, c, d, rfl, k1, k2⟩ := h
    refine ⟨_, rfl, _, rfl, a, b, rfl, fun c1 => ?_, fun c1 => k2 fun h => c1 h.1⟩
    refine ⟨_, rfl, _, rfl, c, d, rfl, fun c2 => ?_, fun c2 => k2 fun h => c2 h.2.1⟩
    have na : ∀ {z : Int}, NumOk z → z.natAbs < 2 ^ 20 := fun h => Nat.lt_of_le_of_lt h (by decide)
    have nd : ∀ {z : Int}, DenOk z → z.natAbs < 2 ^ 20 := fun {z} h => Nat.lt_of_le_of_lt (show z.natAbs ≤ 1000 by have := h.1; have := h.2; omega) (by decide)
    refine ⟨_, rfl, _, rfl, _, _, rfl, rfl, mulx_ok (na c2.1) (nd c1.2) (by decide), _, rfl, _, rfl, _, _, rfl, rfl, mulx_ok (na c1.1) (nd c2.2) (by decide), _, _, rfl, rfl, _, rfl, ?_⟩
    by_cases c3 : a * d < c * b
    · exact if_false_of (by simp; omega) (k1 ⟨c1, c2, c3⟩)
    · exact if_true_of (by simp; omega) ((k2 fun h => c3 h.2.2).raise (Same.refl H))
end
end Rc

/-! ## Ib -/
set_option maxHeartbeats 4000000
namespace Rc
open PySem PySem.Spec PyProof.Rows L2 RcF RcG RcH RcI RcJ RcK
/-- the slots at S: none before create -/
def Slots (H : Hp) (S : Addr) : Option (List (List Rat)) → Prop
  | none => H S = some (.lst [])
  | some l => ∃ rs : List Addr, H S = some (.lst (RI rs)) ∧ rs.length = 4 ∧ l.length = 4 ∧ ∀ (i : Nat) (r : Addr), rs[i]? = some r → r ≠ S ∧ ∃ q, l[i]? = some q ∧ PolyAt H r q ∧ Small q
theorem Slots.same {H H1 : Hp} {S : Addr} {st : Option (List (List Rat))} (h : Slots H S st) (k : Same H H1) : Slots H1 S st := by
  cases st with
  | none => exact k _ _ h
  | some l =>
    obtain ⟨rs, h1, h2, h3, h4⟩ := h
    refine ⟨rs, k _ _ h1, h2, h3, fun i r e => ?_⟩
    obtain ⟨n, q, e1, e2, e3⟩ := h4 i r e
    exact ⟨n, q, e1, e2.same k, e3⟩
section
variable {X : Cx}
theorem pe_fn0 {x : Str} {k : Nat} {sp : Sp} {p pos : Pos} (D : Dn X.prog X.w X.K X.mg X.base x k [] sp) (hr : Room k X.A) (hg : Gl X x := by rfl) (hdb : (x == ("__debug__" : Str)) = false := by decide) :
    PE X (.Call (.Name x p) [] [] pos) (tCall sp [] E0 tNil) := by
  obtain ⟨f, fd, h1, h2, h3, h4⟩ := D.ex
  exact pe_call0 h4 hr hg h1 h2 h3 .nil pass0 hdb
end
section
variable {P : Program} {w : World} {K : PySem.W.Frag} {mg : Str → Option Value} {base : Heap} {R : Addr}
/-! ### the far points -/
def spPt (n : Int) : Sp := fun vs H Q _ => vs = [] ∧ ∀ r, H r = none → Q (.ref r) (upd H r (.tup [.int n, .int 0]))
theorem scPb : FnScope [] [] (defScope (top 63)) := ⟨rfl, rfl, rfl, by decide +kernel, rfl, by decide +kernel, by decide +kernel⟩
theorem scPa : FnScope [] [] (defScope (top 64)) := ⟨rfl, rfl, rfl, by decide +kernel, rfl, by decide +kernel, by decide +kernel⟩
theorem ok_pb {f : Addr} {fd : FuncData} (F : Fun K "point_below_all" "point_below_all" (top 63) f fd) : FnOk P w K mg base CX0 1 f fd [] (spPt (-1)) := by
  refine F.ok scPb (fun vs H Q E h => ?_) (fun cdv A outer s H vs Q E hr h => ⟨_, pss_one (ps_ret (pe_tup (pa_cons (pe_un un_neg pe_int) (pa_cons pe_int pa_nil)))), ?_⟩)
  · rw [h.1]; rfl
  · exact ⟨_, rfl, by show 2 ≤ sizeLine; decide, fun r hr => h.2 r hr⟩
theorem ok_pa {f : Addr} {fd : FuncData} (F : Fun K "point_above_all" "point_above_all" (top 64) f fd) : FnOk P w K mg base CX0 1 f fd [] (spPt 1) := by
  refine F.ok scPa (fun vs H Q E h => ?_) (fun cdv A outer s H vs Q E hr h => ⟨_, pss_one (ps_ret (pe_tup (pa_cons pe_int (pa_cons pe_int pa_nil)))), ?_⟩)
  · rw [h.1]; rfl
  · exact ⟨by show 2 ≤ sizeLine; decide, fun r hr => h.2 r hr⟩
/-! ### stored_polynomial -/
abbrev sSp : Stmt := top 78
theorem scSp : FnScope ["slots", "slot"] ["slots", "slot"] (defScope sSp) := ⟨rfl, rfl, rfl, by decide +kernel, rfl, by decide +kernel, by decide +kernel⟩
/-- the polynomial at a number -/
def Got (H : Hp) (l : List (List Rat)) (z : Int) (r : Addr) (q : List Rat) : Prop := l[z.toNat]? = some q ∧ PolyAt H r q ∧ Small q
def spSt (K : PySem.W.Frag) (R : Addr) : Sp := fun vs H Q E => ∃ (S : Addr) (z : Int) (l : List (List Rat)), vs = [.ref S, .int z] ∧ Slots H S (some l) ∧ 0 ≤ z ∧ (z < 4 → ∀ r q, Got H l z r q → Q (.ref r) H) ∧ (¬ z < 4 → Er K R E H (-2))
theorem ok_st {f : Addr} {fd : FuncData} (F : Fun K "stored_polynomial" "stored_polynomial" sSp f fd) (D1 : DnX P w K mg base "check_slot" 5 ["slot"] (spCs K R)) : FnOk P w K mg base (L2.CX P w) 6 f fd ["slots", "slot"] (spSt K R) := by
  refine F.okX scSp (fun vs H Q E h => ?_) (fun cdv A outer s H vs Q E hr h => ⟨_, pss_cons (ps_expr (pe_fnX D1 (takes_of rfl rfl rfl rfl) hr (pa_cons (pv 1) pa_nil))) (pss_one (ps_ret (pe_ix ix_list (pv 0) (pv 1) (fun _ _ => rfl)))), ?_⟩)
  · obtain ⟨S, z, l, rfl, _⟩ := h
    rfl
  · obtain ⟨S, z, l, rfl, ⟨rs, h1, h2, h3, h4⟩, hz, k1, k2⟩ := h
    refine ⟨_, rfl, z, rfl, fun c => ?_, fun c => k2 fun h => c ⟨hz, h⟩⟩
    obtain ⟨r, hr1⟩ : ∃ r, rs[z.toNat]? = some r := ⟨rs[z.toNat]'(by omega), by rw [List.getElem?_eq_getElem]⟩
    obtain ⟨n, q, e1, e2, e3⟩ := h4 _ r hr1
    refine ⟨_, rfl, _, rfl, S, RI rs, z, .ref r, rfl, rfl, seq_lst h1, ?_, k1 c.2 r q ⟨e1, e2, e3⟩⟩
    have := atI_nat (xs := RI rs) (j := z.toNat) (v := V.ref r) (by rw [List.getElem?_map, hr1]; rfl)
    rw [show ((z.toNat : Nat) : Int) = z by omega] at this
    exact this
/-! ### nonzero_polynomial -/
abbrev sNz : Stmt := top 79
abbrev nNz : List Str := ["slots", "slot", "polynomial"]
theorem scNz : FnScope nNz ["slots", "slot"] (defScope sNz) := ⟨rfl, rfl, rfl, by decide +kernel, rfl, by decide +kernel, by decide +kernel⟩
def spNz (K : PySem.W.Frag) (R : Addr) : Sp := fun vs H Q E => ∃ (S : Addr) (z : Int) (l : List (List Rat)), vs = [.ref S, .int z] ∧ Slots H S (some l) ∧ 0 ≤ z ∧ (z < 4 → ∀ r q, Got H l z r q → q ≠ [] → Q (.ref r) H) ∧ (z < 4 → l[z.toNat]? = some [] → Er K R E H (-33)) ∧ (¬ z < 4 → Er K R E H (-2))
theorem ok_nz {f : Addr} {fd : FuncData} (F : Fun K "nonzero_polynomial" "nonzero_polynomial" sNz f fd) (D1 : DnX P w K mg base "stored_polynomial" 6 ["slots", "slot"] (spSt K R)) (D : Ec P w K mg base R "ZeroPolynomial" (-33)) : FnOk P w K mg base (L2.CX P w) 7 f fd ["slots", "slot"] (spNz K R) := by
  refine F.okX scNz (fun vs H Q E h => ?_) (fun cdv A outer s H vs Q E hr h => ⟨_, pss_cons (ps_set (i := 2) scNz.nd rfl (Or.inl rfl) (pe_fnX D1 (takes_of rfl rfl rfl rfl) hr (pa_cons (pv 0) (pa_cons (pv 1) pa_nil))))
    (pss_cons (ps_if (pt_not (pt_truth (pv 2) (fun _ => rfl))) (pss_one (ps_rz rfl (takes_of rfl rfl rfl rfl) D (hr.mono (by decide)))) pss_nil)
    (pss_one (ps_ret (pv 2)))), ?_⟩)
  · obtain ⟨S, z, l, rfl, _⟩ := h
    rfl
  · obtain ⟨S, z, l, rfl, hS, hz, k1, k2, k3⟩ := h
    refine ⟨_, rfl, _, rfl, S, z, l, rfl, hS, hz, fun c r q g => ?_, k3⟩
    obtain ⟨g1, ⟨rs, a1, a2⟩, g3⟩ := id g
    refine ⟨_, rfl, _, .inl ⟨_, seq_lst a1, rfl⟩, ?_⟩
    cases q with
    | nil =>
      have : rs = [] := List.length_eq_zero_iff.mp a2.len
      subst this
      exact if_true_of (by rfl) ((k2 c g1).raise (Same.refl H))
    | cons x q =>
      obtain ⟨r0, rs, rfl⟩ : ∃ r0 rs', rs = r0 :: rs' := by
        cases rs with
        | nil => exact a2.elim
        | cons r0 rs => exact ⟨_, _, rfl⟩
      exact if_false_of (by rfl) ⟨_, rfl, k1 c r _ g (by simp)⟩
/-! ### count_all -/
abbrev sAl : Stmt := top 80
theorem scAl : FnScope ["polynomial"] ["polynomial"] (defScope sAl) := ⟨rfl, rfl, rfl, by decide +kernel, rfl, by decide +kernel, by decide +kernel⟩
/-- the two counts of an interval, as the answers have them -/
abbrev CI (q : List Rat) (s t : Kqg1.Point) : List V := [.int (Kqg1.countDistinct q s t : Nat), .int (Kqg1.countRoots q s t : Nat)]
def spAl : Sp := fun vs H Q _ => ∃ (a : Addr) (q : List Rat), vs = [.ref a] ∧ PolyAt H a q ∧ Small q ∧ RetT H Q (CI q .minusInfinity .plusInfinity)
theorem count_pair {q : List Rat} (hs : Small q) {ln ld hn hd : Int} {s t : Kqg1.Point} (h1 : Pt ln ld s) (h2 : Pt hn hd t) (hb : RcE.Before s t) :
    ([.int ((icounts (wm q) ln ld hn hd).headD 0), .int (icounts (wm q) ln ld hn hd).sum] : List V) = CI q s t := by
  obtain ⟨e1, e2⟩ := counts_is (rl_wm hs.1) h1 h2 hb
  rw [e1, e2]
theorem ok_al {f : Addr} {fd : FuncData} (F : Fun K "count_all" "count_all" sAl f fd) (D1 : Dn P w K mg base "whole_multiple" 43 ["polynomial"] spWm) (D2 : Dn P w K mg base "point_below_all" 1 [] (spPt (-1))) (D3 : Dn P w K mg base "point_above_all" 1 [] (spPt 1))
    (D4 : Dn P w K mg base "count_in_interval" 47 ["polynomial", "low", "high"] (spCi K)) : FnOk P w K mg base CX0 48 f fd ["polynomial"] spAl := by
  refine F.ok scAl (fun vs H Q E h => ?_) (fun cdv A outer s H vs Q E hr h => ⟨_, pss_one (ps_ret (pe_fn D4 hr (pa_cons (pe_fn D1 (hr.mono (by decide)) (pa_cons (pv 0) pa_nil)) (pa_cons (pe_fn0 D2 (hr.mono (by decide))) (pa_cons (pe_fn0 D3 (hr.mono (by decide))) pa_nil))))), ?_⟩)
  · obtain ⟨a, q, rfl, _⟩ := h
    rfl
  · obtain ⟨a, q, rfl, ha, hs, k⟩ := h
    refine ⟨_, rfl, a, q, rfl, ha, hs, fun H1 t s1 ht et => ?_⟩
    refine ⟨rfl, fun b hb => ⟨rfl, fun c hc => ?_⟩⟩
    have s2 := same_new (o := .tup [.int (-1), .int 0]) hb
    have s3 := same_new (o := .tup [.int 1, .int 0]) hc
    refine ⟨t, b, c, wm q, -1, 0, 1, 0, 2, rfl, s3 _ _ (s2 _ _ et), .inl (.inl (s3 _ _ upd_same)), .inl (.inl upd_same), ok_wm hs.1, by rw [wm_len]; exact hs.2.1, sz_wm hs, by decide, by decide, by decide, by decide, by decide, fun H2 r s4 hr er => ?_⟩
    have s5 := (s1.trans s2).trans s3
    refine k H2 r (s5.trans s4) (s5.free hr) ?_
    rw [er, count_pair hs (s := .minusInfinity) (t := .plusInfinity) ⟨rfl, rfl⟩ ⟨rfl, rfl⟩ True.intro]
end
end Rc

/-! ## Ic -/
set_option maxHeartbeats 4000000
namespace Rc
open PySem PySem.Spec PyProof.Rows L2 RcF RcG RcH RcI RcJ RcK
/-- the calls that are asked, by their numbers -/
inductive Asked : Nat → List (List Int) → Prop
  | create : Asked 0 [[0]]
  | set (x d : Int) (row : List Int) (h1 : 0 ≤ x) (h2 : 0 ≤ d) (h3 : row.length ≤ 60) : Asked 1 [[1, x, d], row]
  | get (x : Int) (h1 : 0 ≤ x) : Asked 2 [[2, x]]
  | degree (x : Int) (h1 : 0 ≤ x) : Asked 3 [[3, x]]
  | evaluate (x n d : Int) (h1 : 0 ≤ x) (h2 : 0 ≤ d) : Asked 4 [[4, x, n, d]]
  | distinct (x : Int) (h1 : 0 ≤ x) : Asked 5 [[5, x]]
  | roots (x : Int) (h1 : 0 ≤ x) : Asked 6 [[6, x]]
  | real (x : Int) (h1 : 0 ≤ x) : Asked 7 [[7, x]]
  | between (x a b c d : Int) (h1 : 0 ≤ x) (h2 : 0 ≤ b) (h3 : 0 ≤ d) : Asked 8 [[8, x, a, b, c, d]]
  | upto (x n d : Int) (h1 : 0 ≤ x) (h2 : 0 ≤ d) : Asked 9 [[9, x, n, d]]
  | mult (x n d : Int) (h1 : 0 ≤ x) (h2 : 0 ≤ d) : Asked 10 [[10, x, n, d]]
  | floor (x k b : Int) (h1 : 0 ≤ x) (h2 : 0 ≤ k) (h3 : 0 ≤ b) : Asked 11 [[11, x, k, b]]
  | bound (x : Int) (h1 : 0 ≤ x) : Asked 12 [[12, x]]
  | sqf (x y : Int) (h1 : 0 ≤ x) (h2 : 0 ≤ y) : Asked 13 [[13, x, y]]
  | gcd (x y z : Int) (h1 : 0 ≤ x) (h2 : 0 ≤ y) (h3 : 0 ≤ z) : Asked 14 [[14, x, y, z]]
  | der (x y : Int) (h1 : 0 ≤ x) (h2 : 0 ≤ y) : Asked 15 [[15, x, y]]
  | mul (x y z : Int) (h1 : 0 ≤ x) (h2 : 0 ≤ y) (h3 : 0 ≤ z) : Asked 16 [[16, x, y, z]]
  | sums (x k : Int) (h1 : 0 ≤ x) (h2 : 0 ≤ k) : Asked 17 [[17, x, k]]
  | inertia (x : Int) (h1 : 0 ≤ x) : Asked 18 [[18, x]]
  | newton (x : Int) (h1 : 0 ≤ x) : Asked 19 [[19, x]]
  | largest (b : Int) (h1 : 0 ≤ b) : Asked 20 [[20, b]]
  | summary : Asked 21 [[21]]
theorem n32 {z : Int} (h : Kqg1Neutral.nat32 z = true) : 0 ≤ z := by
  unfold Kqg1Neutral.nat32 at h
  rw [Bool.and_eq_true] at h
  exact of_decide_eq_true h.1
theorem asked_of {c : List (List Int)} (h : Kqg1Neutral.asked1 c = true) : ∃ n, Asked n c := by
  unfold Kqg1Neutral.asked1 at h
  split at h <;> (try simp only [Bool.and_eq_true] at h)
  · exact ⟨_, .create⟩
  · exact ⟨_, .set _ _ _ (n32 h.1.1) (n32 h.1.2) (by have := h.2; unfold Kqg1Neutral.list32 at this; rw [Bool.and_eq_true] at this; exact of_decide_eq_true this.2)⟩
  · exact ⟨_, .get _ (n32 h)⟩
  · exact ⟨_, .degree _ (n32 h)⟩
  · exact ⟨_, .evaluate _ _ _ (n32 h.1.1) (n32 h.2)⟩
  · exact ⟨_, .distinct _ (n32 h)⟩
  · exact ⟨_, .roots _ (n32 h)⟩
  · exact ⟨_, .real _ (n32 h)⟩
  · exact ⟨_, .between _ _ _ _ _ (n32 h.1.1.1.1) (n32 h.1.1.2) (n32 h.2)⟩
  · exact ⟨_, .upto _ _ _ (n32 h.1.1) (n32 h.2)⟩
  · exact ⟨_, .mult _ _ _ (n32 h.1.1) (n32 h.2)⟩
  · exact ⟨_, .floor _ _ _ (n32 h.1.1) (n32 h.1.2) (n32 h.2)⟩
  · exact ⟨_, .bound _ (n32 h)⟩
  · exact ⟨_, .sqf _ _ (n32 h.1) (n32 h.2)⟩
  · exact ⟨_, .gcd _ _ _ (n32 h.1.1) (n32 h.1.2) (n32 h.2)⟩
  · exact ⟨_, .der _ _ (n32 h.1) (n32 h.2)⟩
  · exact ⟨_, .mul _ _ _ (n32 h.1.1) (n32 h.1.2) (n32 h.2)⟩
  · exact ⟨_, .sums _ _ (n32 h.1) (n32 h.2)⟩
  · exact ⟨_, .inertia _ (n32 h)⟩
  · exact ⟨_, .newton _ (n32 h)⟩
  · exact ⟨_, .largest _ (n32 h)⟩
  · exact ⟨_, .summary⟩
  · cases h
/-- the arguments of a call, as they are handed to its operation -/
def Args (H : Hp) (a : Addr) : List (List Int) → Prop
  | [_ :: xs] => H a = some (.lst (LI xs))
  | [_ :: xs, row] => ∃ b, H a = some (.lst (LI xs ++ [.ref b])) ∧ H b = some (.lst (LI row))
  | _ => False
/-- all but S stands -/
def After (H : Hp) (S : Addr) (H' : Hp) : Prop := ∀ b o, b ≠ S → H b = some o → H' b = some o
theorem After.of_same {H H' : Hp} {S : Addr} (s : Same H H') : After H S H' := fun b o _ e => s b o e
abbrev St := Option (List (List Rat))
/-- what is wished of the operation of the call c at st: its answer, or the error that says the same -/
def Ans (K : PySem.W.Frag) (R : Addr) (H : Hp) (S : Addr) (Q : VK) (E : XK) (st : St) (c : List (List Int)) : Prop :=
  (∀ (H' : Hp) (l : Addr), After H S H' → Slots H' S (Kqg1Neutral.step st c).1 → H l = none → H' l = some (.lst (LI (Kqg1Neutral.step st c).2)) → Q (.ref l) H') ∧ (∀ z, Kqg1Neutral.step st c = (st, [z]) → Er K R E H z)
section
variable {K : PySem.W.Frag} {R : Addr} {H : Hp} {S : Addr} {Q : VK} {E : XK} {st : St} {c : List (List Int)}
theorem Ans.give {xs : List Int} (h : Ans K R H S Q E st c) (hs : Slots H S st) (e : Kqg1Neutral.step st c = (st, xs)) : RetL H Q xs := fun H' l s hl el =>
  h.1 H' l (.of_same s) (by rw [e]; exact hs.same s) hl (by rw [e]; exact el)
end
def spOp (K : PySem.W.Frag) (R : Addr) (n : Nat) : Sp := fun vs H Q E => ∃ (S a : Addr) (c : List (List Int)) (st : St), vs = [.ref S, .ref a] ∧ Slots H S st ∧ Args H a c ∧ Asked n c ∧ (n = 0 ∨ ∃ l, st = some l) ∧ Ans K R H S Q E st c
abbrev nOp : List Str := ["slots", "arguments"]
theorem spOp_len {K : PySem.W.Frag} {R : Addr} {n : Nat} (vs : List V) (H : Hp) (Q : VK) (E : XK) (h : spOp K R n vs H Q E) : vs.length = nOp.length := by
  obtain ⟨S, a, c, st, rfl, _⟩ := h
  rfl
open Kqg1 Kqg1Neutral in
theorem of_nz (l : List (List Rat)) {x : Int} (h : 0 ≤ x) (k : List Rat → Kqg1.Result) : (¬ x < 4 → ofNonzero (some l) l (nat x) k = (some l, .value (-2))) ∧ (x < 4 → l[x.toNat]? = some [] → ofNonzero (some l) l (nat x) k = (some l, .value (-33))) ∧
    (∀ q, x < 4 → l[x.toNat]? = some q → q ≠ [] → ofNonzero (some l) l (nat x) k = (some l, k q)) := by
  have e : ∀ q, l[x.toNat]? = some q → polynomialIn l (nat x) = q := fun q hq => by
    unfold polynomialIn nat
    rw [List.getD_eq_getElem?_getD, hq]
    rfl
  have d : x < 4 → ¬ slotCount ≤ nat x := fun h => by
    unfold slotCount nat
    omega
  unfold ofNonzero
  refine ⟨fun g => ?_, fun g hq => ?_, fun q g hq hn => ?_⟩
  · rw [if_pos (by unfold slotCount nat; omega)]
  · rw [if_neg (d g), if_pos (e _ hq)]
  · rw [if_neg (d g), e _ hq, if_neg hn]
end Rc

/-! ## Id -/
set_option maxHeartbeats 4000000
namespace Rc
open PySem PySem.Spec PyProof.Rows L2 RcF RcG RcH RcI RcJ RcK
theorem small_nil : Small ([] : List Rat) := ⟨rfl, by decide, fun x hx => by simp at hx⟩
section
variable {P : Program} {w : World} {K : PySem.W.Frag} {mg : Str → Option Value} {base : Heap} {R : Addr}
/-! ### create -/
abbrev sOp0 : Stmt := top 82
abbrev nOp0 : List Str := ["slots", "arguments", "slot"]
theorem scOp0 : FnScope nOp0 nOp (defScope sOp0) := ⟨rfl, rfl, rfl, by decide +kernel, rfl, by decide +kernel, by decide +kernel⟩
theorem ok_op0 {f : Addr} {fd : FuncData} (F : Fun K "create" "create" sOp0 f fd) (B : BI P mg base) (C : Cs mg) : FnOk P w K mg base (L2.CX P w) 60 f fd nOp (spOp K R 0) := by
  refine F.okX scOp0 spOp_len (fun cdv A outer s H vs Q E hr h => ⟨_, pss_cons (ps_expr (pe_bm0 PySem.F.plainAttrs_list PySem.F.slot_list_clear PySem.F.type_list_clear mt_clear (pv 0)))
    (pss_cons (ps_expr (pe_bm PySem.F.plainAttrs_list PySem.F.slot_list_extend PySem.F.type_list_extend mt_extend (pv 0) (pa_cons
      (pe_lc (own := [("slot", 2)]) (g := gName 2) (tt := tYes) rfl scOp0.nd (pi_range1 (by rfl) B.range (pa_cons (pe_cst C.slots) pa_nil)) (blkOk_by (N := nOp0) (sc := defScope sOp0) (by decide +kernel))
        (fun _ _ _ _ _ => pg_name (i := 2) scOp0.nd rfl (Or.inl rfl)) (fun _ _ _ _ _ => pts_nil) (fun _ _ _ _ _ => pe_lst pa_nil)) pa_nil)))
    (pss_one (ps_ret (pe_lst (pa_cons pe_int pa_nil))))), ?_⟩)
  obtain ⟨S, a, c, st, rfl, hS, hA, hc, hst, k⟩ := h
  cases hc
  obtain ⟨xs, hx⟩ : ∃ xs, H S = some (.lst xs) := by
    cases st with
    | none => exact ⟨_, hS⟩
    | some l => obtain ⟨rs, h1, _⟩ := hS; exact ⟨_, h1⟩
  refine ⟨_, rfl, .inl ⟨rfl, _, seq_lst hx⟩, S, xs, rfl, rfl, hx, ?_⟩
  refine ⟨_, rfl, .inl ⟨rfl, _, seq_lst upd_same⟩, ?_⟩
  have hn : H ≠ fun _ => none := fun z => by rw [z] at hx; cases hx
  refine ⟨4, rfl, by decide, by decide, fun D hD => lc_it walk_range (fun i H2 => ∃ rs : List Addr, H2 D = some (.lst (RI rs)) ∧ rs.length = i ∧ (∀ r ∈ rs, H2 r = some (.lst []) ∧ r ≠ S ∧ r ≠ D) ∧ Same (upd H S (.lst [])) H2) ⟨[], upd_same, rfl, (fun r hr => by simp at hr), same_new hD⟩ (fun _ _ _ _ => True.intro) ?_ ?_⟩
  · rintro i x H1 H2 hi ⟨rs, q1, q2, q3, q4⟩ ⟨rfl, rfl⟩
    refine ⟨rfl, ?_⟩
    refine ⟨by show 0 ≤ sizeLine; exact Nat.zero_le _, fun r hr => ?_⟩
    have nD : D ≠ r := ne_of_none q1 hr
    have nS : r ≠ S := fun z => by
      rw [z, q4 S _ upd_same] at hr
      cases hr
    refine ⟨_, by rw [upd_ne nD]; exact q1, small1000 (by rw [ri_len]; omega), rs ++ [r], by rw [upd_same, ri_snoc], by rw [List.length_append, q2]; rfl, ?_, same_upd (q4.trans (same_new hr)) hD⟩
    intro y hy
    rcases List.mem_append.mp hy with hy | hy
    · obtain ⟨e1, e2, e3⟩ := q3 y hy
      rw [upd_ne e3, upd_ne (ne_of_none e1 hr)]
      exact ⟨e1, e2, e3⟩
    · obtain rfl := List.mem_singleton.mp hy
      rw [upd_ne nD.symm, upd_same]
      exact ⟨rfl, nS, nD.symm⟩
  · rintro H2 ⟨rs, q1, q2, q3, q4⟩
    have nDS : D ≠ S := fun z => by
      rw [z, upd_same] at hD
      cases hD
    refine ⟨S, D, [], RI rs, rfl, rfl, q4 _ _ upd_same, q1, by rw [ri_len, q2]; decide, ?_⟩
    refine ⟨by show 1 ≤ sizeLine; decide, fun l hl => ?_⟩
    have lS : l ≠ S := fun z => by
      rw [z, upd_same] at hl
      cases hl
    rw [upd_ne lS] at hl
    have hl0 : H l = none := by
      cases e : H l with
      | none => rfl
      | some o =>
        have := q4 l o (by rw [upd_ne lS]; exact e)
        rw [hl] at this
        cases this
    refine k.1 _ l (fun b o hb e => ?_) ?_ hl0 upd_same
    · rw [upd_ne (ne_of_none e hl0), upd_ne hb]
      exact q4 b o (by rw [upd_ne hb]; exact e)
    · refine ⟨rs, by rw [upd_ne lS.symm, upd_same]; rfl, q2, rfl, fun i r hr => ?_⟩
      obtain ⟨e1, e2, e3⟩ := q3 r (List.mem_of_getElem? hr)
      have hi : i < 4 := by
        have := (List.getElem?_eq_some_iff.mp hr).1
        omega
      refine ⟨e2, [], ?_, ⟨[], ?_, True.intro⟩, small_nil⟩
      · show (List.replicate 4 ([] : List Rat))[i]? = some []
        rw [List.getElem?_replicate, if_pos hi]
      · rw [upd_ne (ne_of_none e1 hl), upd_ne e2]
        exact e1
end
end Rc

/-! ## Ie -/
set_option maxHeartbeats 4000000
namespace Rc
open PySem PySem.Spec PyProof.Rows L2 RcF RcG RcH RcI RcJ RcK
theorem After.frs {H H1 : Hp} {S : Addr} {xs : List V} (k : After H S H1) (hS : H S = some (.lst xs)) {rs : List Addr} {q : List Rat} (h : Frs H rs q) : Frs H1 rs q := h.keep fun b ys e => k b _ (fun z => by rw [z, hS] at e; cases e) e
theorem After.poly {H H1 : Hp} {S : Addr} {xs : List V} (k : After H S H1) (hS : H S = some (.lst xs)) {r : Addr} {q : List Rat} (hr : r ≠ S) (h : PolyAt H r q) : PolyAt H1 r q := by
  obtain ⟨rs, h1, h2⟩ := h
  exact ⟨rs, k _ _ hr h1, k.frs hS h2⟩
theorem after_upd (H : Hp) (S : Addr) (o : HO) : After H S (upd H S o) := fun b u hb e => by rw [upd_ne hb]; exact e
theorem After.trans {H H1 H2 : Hp} {S : Addr} (a : After H S H1) (b : After H1 S H2) : After H S H2 := fun c o hc h => b c o hc (a c o hc h)
theorem After.free {H H1 : Hp} {S : Addr} {xs : List V} (a : After H S H1) (hS : H1 S = some (.lst xs)) {l : Addr} (h : H1 l = none) : H l = none := by
  cases e : H l with
  | none => rfl
  | some o =>
    have : l ≠ S := fun z => by rw [z, hS] at h; cases h
    rw [a l o this e] at h
    cases h
/-- a polynomial is stored -/
theorem slots_set {H : Hp} {S : Addr} {l : List (List Rat)} {z : Int} {r : Addr} {q : List Rat} (h : Slots H S (some l)) (h0 : 0 ≤ z) (h4 : z < 4) (hp : PolyAt H r q) (hs : Small q) (hr : r ≠ S) :
    ∃ rs : List Addr, H S = some (.lst (RI rs)) ∧ ixN (RI rs).length z = some z.toNat ∧ (RI rs).set z.toNat (.ref r) = RI (rs.set z.toNat r) ∧ (RI (rs.set z.toNat r))[z.toNat]? = some (.ref r) ∧ (RI (rs.set z.toNat r)).length = 4 ∧ Slots (upd H S (.lst (RI (rs.set z.toNat r)))) S (some (l.set z.toNat q)) := by
  obtain ⟨rs, h1, h2, h3, k⟩ := h
  have hz : z.toNat < 4 := by omega
  have ps : ∀ {y : Addr} {p : List Rat}, y ≠ S → PolyAt H y p → PolyAt (upd H S (.lst (RI (rs.set z.toNat r)))) y p := fun hy e => (after_upd H S _).poly h1 hy e
  refine ⟨rs, h1, ?_, (List.map_set ..).symm, ?_, by rw [ri_len, List.length_set, h2], rs.set z.toNat r, upd_same, by rw [List.length_set, h2], by rw [List.length_set, h3], fun i y hy => ?_⟩
  · unfold ixN
    rw [if_pos h0, if_pos (by rw [ri_len]; omega)]
  · rw [List.getElem?_map, List.getElem?_set_self (by omega)]
    rfl
  · by_cases e : z.toNat = i
    · subst e
      rw [List.getElem?_set_self (by omega)] at hy
      obtain rfl := Option.some.inj hy
      exact ⟨hr, q, by rw [List.getElem?_set_self (by omega)], ps hr hp, hs⟩
    · rw [List.getElem?_set_ne e] at hy
      obtain ⟨n, p, e1, e2, e3⟩ := k i y hy
      exact ⟨n, p, by rw [List.getElem?_set_ne e]; exact e1, ps n e2, e3⟩
theorem isSmall_iff (p : List Rat) : Kqg1.isSmall p = true ↔ p.length ≤ 9 ∧ ∀ x ∈ p, x.num.natAbs ≤ 10 ^ 30 ∧ x.den ≤ 10 ^ 30 := by
  unfold Kqg1.isSmall Kqg1.maxDegree Kqg1.maxCoefficient
  rw [Bool.and_eq_true, List.all_eq_true]
  constructor
  · rintro ⟨h1, h2⟩
    refine ⟨of_decide_eq_true h1, fun x hx => ?_⟩
    have := h2 x hx
    rw [Bool.and_eq_true] at this
    exact ⟨of_decide_eq_true this.1, of_decide_eq_true this.2⟩
  · rintro ⟨h1, h2⟩
    refine ⟨decide_eq_true h1, fun x hx => ?_⟩
    obtain ⟨a, b⟩ := h2 x hx
    rw [Bool.and_eq_true]
    exact ⟨decide_eq_true a, decide_eq_true b⟩
theorem small_iff {p : List Rat} (h : RcA.Tr p) : Small p ↔ Kqg1.isSmall p = true := by
  rw [isSmall_iff]
  exact ⟨fun x => x.2, fun x => ⟨h, x⟩⟩
theorem fdiv_bounds {a g : Int} (hg : 0 < g) : (a.fdiv g).natAbs ≤ a.natAbs := by
  rw [Int.fdiv_eq_ediv_of_nonneg _ (by omega)]
  exact Int.natAbs_ediv_le_natAbs a g
theorem frac_size (n : Int) {d : Int} (hd : 0 < d) : ((n : Rat) / (d : Rat)).num.natAbs ≤ n.natAbs ∧ ((n : Rat) / (d : Rat)).den ≤ d.natAbs := by
  obtain ⟨e1, e2⟩ := frac_num n hd
  have g0 : 0 < ((Int.gcd n d : Nat) : Int) := by
    have := gcd_ne (n := n) hd
    omega
  refine ⟨by rw [e1]; exact fdiv_bounds g0, ?_⟩
  have := fdiv_bounds (a := d) g0
  rw [← e2] at this
  omega
theorem trim_mem {q : List Rat} {x : Rat} (h : x ∈ Kqg1.trim q) : x ∈ q := by
  unfold Kqg1.trim at h
  rw [List.mem_reverse] at h
  have := (List.dropWhile_suffix (fun c : Rat => c == 0) (l := q.reverse)).subset h
  rwa [List.mem_reverse] at this
theorem trim_len_le (q : List Rat) : (Kqg1.trim q).length ≤ q.length := by
  unfold Kqg1.trim
  rw [List.length_reverse]
  have := (List.dropWhile_suffix (fun c : Rat => c == 0) (l := q.reverse)).length_le
  rwa [List.length_reverse] at this
theorem set_small {d : Int} {p : List Int} (h : CoOk d p) : Small (Kqg1.trim (p.map fun (x : Int) => (x : Rat) / (d : Rat))) := by
  obtain ⟨h1, ⟨h2, h3⟩, h4⟩ := h
  refine ⟨RcA.tr_trim _, Nat.le_trans (trim_len_le _) (by rw [List.length_map]; exact h1), fun x hx => ?_⟩
  obtain ⟨n, hn, rfl⟩ := List.mem_map.mp (trim_mem hx)
  obtain ⟨b1, b2⟩ := frac_size n (d := d) (by omega)
  have : n.natAbs ≤ 1000000 := h4 n hn
  exact ⟨Nat.le_trans b1 (Nat.le_trans this (by decide)), Nat.le_trans b2 (Nat.le_trans (show d.natAbs ≤ 1000 by omega) (by decide))⟩
end Rc

/-! ## If -/
set_option maxHeartbeats 4000000
namespace Rc
open PySem PySem.Spec PyProof.Rows L2 RcF RcG RcH RcI RcJ RcK
/-! ### what is due of set_polynomial -/
theorem cast_nat {d : Int} (h : 0 ≤ d) : ((Kqg1Neutral.nat d : Nat) : Rat) = ((d : Int) : Rat) := by
  rw [← Rat.intCast_natCast]
  congr 1
  unfold Kqg1Neutral.nat
  omega
theorem co_cond {d : Int} {row : List Int} (hd : 0 ≤ d) : (Kqg1.maxDegree + 1 < row.length ∨ Kqg1Neutral.nat d < 1 ∨ 1000 < Kqg1Neutral.nat d ∨ row.any (fun x => decide (1000000 < x.natAbs)) = true) ↔ ¬ CoOk d row := by
  unfold CoOk DenOk NumOk Kqg1.maxDegree Kqg1Neutral.nat
  rw [List.any_eq_true]
  constructor
  · rintro (h | h | h | ⟨x, hx, h⟩) ⟨a, b, c⟩
    · omega
    · omega
    · omega
    · have := c x hx
      have := of_decide_eq_true h
      omega
  · intro h
    by_cases h1 : row.length ≤ 9
    · by_cases h2 : 1 ≤ d ∧ d ≤ 1000
      · refine .inr (.inr (.inr (Classical.byContradiction fun g => h ⟨h1, h2, fun z hz => Classical.byContradiction fun k => g ⟨z, hz, decide_eq_true (by omega)⟩⟩)))
      · omega
    · omega
theorem counted_is (q : List Rat) : Kqg1Neutral.fields (Kqg1.polynomialResult q) = counted q := rfl
theorem step_set (l : List (List Rat)) {x d : Int} {row : List Int} (hx : 0 ≤ x) (hd : 0 ≤ d) :
    (¬ x < 4 → Kqg1Neutral.step (some l) [[1, x, d], row] = (some l, [-2])) ∧ (x < 4 → ¬ CoOk d row → Kqg1Neutral.step (some l) [[1, x, d], row] = (some l, [-22])) ∧
    (x < 4 → CoOk d row → Kqg1Neutral.step (some l) [[1, x, d], row] = (some (l.set x.toNat (Kqg1.trim (row.map fun (c : Int) => (c : Rat) / (d : Rat)))), counted (Kqg1.trim (row.map fun (c : Int) => (c : Rat) / (d : Rat))))) := by
  have e : Kqg1Neutral.step (some l) [[1, x, d], row] = (let r := (if Kqg1.slotCount ≤ Kqg1Neutral.nat x then (some l, Kqg1.Result.value (-2)) else if Kqg1.maxDegree + 1 < row.length ∨ Kqg1Neutral.nat d < 1 ∨ 1000 < Kqg1Neutral.nat d ∨ row.any (fun x => decide (1000000 < x.natAbs)) = true then (some l, Kqg1.Result.value (-22))
      else Kqg1.store l (Kqg1Neutral.nat x) (Kqg1.trim (row.map fun (c : Int) => ((c : Rat) / ((Kqg1Neutral.nat d : Nat) : Rat))))); (r.1, Kqg1Neutral.fields r.2)) := rfl
  have d4 : x < 4 → ¬ Kqg1.slotCount ≤ Kqg1Neutral.nat x := fun h => by unfold Kqg1.slotCount Kqg1Neutral.nat; omega
  refine ⟨fun h => ?_, fun h1 h2 => ?_, fun h1 h2 => ?_⟩
  · rw [e, if_pos (by unfold Kqg1.slotCount Kqg1Neutral.nat; omega)]
    rfl
  · rw [e, if_neg (d4 h1), if_pos ((co_cond hd).mpr h2)]
    rfl
  · rw [e, if_neg (d4 h1), if_neg (fun z => (co_cond hd).mp z h2), cast_nat hd]
    unfold Kqg1.store
    rw [if_pos ((small_iff (RcA.tr_trim _)).mp (set_small h2))]
    rfl
section
variable {P : Program} {w : World} {K : PySem.W.Frag} {mg : Str → Option Value} {base : Heap} {R : Addr}
/-! ### set_polynomial -/
abbrev sOp1 : Stmt := top 83
abbrev nOp1 : List Str := ["slots", "arguments", "slot", "denominator", "coefficients"]
theorem scOp1 : FnScope nOp1 nOp (defScope sOp1) := ⟨rfl, rfl, rfl, by decide +kernel, rfl, by decide +kernel, by decide +kernel⟩
theorem ok_op1 {f : Addr} {fd : FuncData} (F : Fun K "set_polynomial" "set_polynomial" sOp1 f fd) (B : BI P mg base) (D1 : DnX P w K mg base "check_slot" 5 ["slot"] (spCs K R)) (D2 : DnX P w K mg base "check_coefficients" 6 ["denominator", "coefficients"] (spCc K R))
    (D3 : Dn P w K mg base "over_denominator" 43 ["coefficients", "denominator"] (spOd K)) (D4 : Dn P w K mg base "counted_pairs" 1 ["pairs"] spCo) : FnOk P w K mg base (L2.CX P w) 60 f fd nOp (spOp K R 1) := by
  refine F.okX scOp1 spOp_len (fun cdv A outer s H vs Q E hr h => ⟨_, pss_cons (ps_asg (pv 1) (pg_unl rfl (pgs_cons (pg_name (i := 2) scOp1.nd rfl (Or.inl rfl)) (pgs_cons (pg_name (i := 3) scOp1.nd rfl (Or.inl rfl)) (pgs_cons (pg_name (i := 4) scOp1.nd rfl (Or.inl rfl)) pgs_nil)))))
    (pss_cons (ps_expr (pe_fnX D1 (takes_of rfl rfl rfl rfl) (hr.mono (by decide)) (pa_cons (pv 2) pa_nil)))
    (pss_cons (ps_expr (pe_fnX D2 (takes_of rfl rfl rfl rfl) (hr.mono (by decide)) (pa_cons (pv 3) (pa_cons (pv 4) pa_nil))))
    (pss_cons (ps_asg (pe_fn D3 (hr.mono (by decide)) (pa_cons (pv 4) (pa_cons (pv 3) pa_nil))) (pg_sub (pv 0) (pv 2) set_list))
    (pss_one (ps_ret (pe_fn D4 (hr.mono (by decide)) (pa_cons (pe_ix ix_list (pv 0) (pv 2) (fun _ _ => rfl)) pa_nil))))))), ?_⟩)
  obtain ⟨S, a, c, st, rfl, hS, hA, hc, hst, k⟩ := h
  cases hc with
  | set x d row h1 h2 h3 =>
  obtain ⟨l, rfl⟩ := hst.resolve_left (by decide)
  obtain ⟨e1, e2, e3⟩ := step_set l (row := row) h1 h2
  obtain ⟨b, hA, hb⟩ := hA
  refine ⟨_, rfl, a, _, rfl, seq_lst hA, rfl, _, _, rfl, _, _, rfl, _, _, rfl, rfl, ?_⟩
  refine ⟨_, rfl, x, rfl, fun c1 => ?_, fun c1 => k.2 _ (e1 fun h => c1 ⟨h1, h⟩)⟩
  have e2 := e2 c1.2
  have e3 := e3 c1.2
  refine ⟨_, rfl, _, rfl, d, b, row, rfl, seq_lst hb, fun c2 => ?_, fun c2 => k.2 _ (e2 c2)⟩
  have e3 := e3 c2
  have d0 : 0 < d := by have := c2.2.1.1; omega
  have hq := set_is row d0
  have sm := set_small c2
  have k1 := k.1
  rw [e3] at k1
  generalize Kqg1.trim (row.map fun (c : Int) => (c : Rat) / (d : Rat)) = q at *
  refine ⟨_, rfl, _, rfl, b, row, d, rfl, seq_lst hb, d0, by omega, fun H1 r s1 hr1 hp => ?_⟩
  rw [hq] at hp
  have hS1 := hS.same s1
  have rS : r ≠ S := fun z => by
    obtain ⟨rs, h, _⟩ := hS
    rw [z, h] at hr1
    cases hr1
  obtain ⟨rs, g1, g2, g3, g4, g5, g6⟩ := slots_set hS1 h1 c1.2 hp sm rS
  refine ⟨_, rfl, _, rfl, S, _, x, x.toNat, rfl, rfl, g1, g2, ?_⟩
  rw [g3]
  have ps := (after_upd H1 S (.lst (RI (rs.set x.toNat r)))).poly g1 rS hp
  refine ⟨_, rfl, _, rfl, S, _, x, .ref r, rfl, rfl, seq_lst upd_same, ?_, r, q, rfl, ps, Nat.le_trans sm.2.1 (by decide), fun H' l' s' hl' el' => ?_⟩
  · have := atI_nat (v := V.ref r) g4
    rwa [show ((x.toNat : Nat) : Int) = x by omega] at this
  · have hl0 : H l' = none := s1.free ((after_upd H1 S _).free upd_same hl')
    exact k1 H' l' ((After.of_same s1).trans ((after_upd H1 S _).trans (.of_same s'))) (g6.same s') hl0 el'
end
end Rc

/-! ## Ig -/
set_option maxHeartbeats 4000000
namespace Rc
open PySem PySem.Spec PyProof.Rows L2 RcF RcG RcH RcI RcJ RcK
theorem lt_frac (a b c d : Int) (hb : 0 < b) (hd : 0 < d) : ((a : Rat) / (b : Rat) < (c : Rat) / (d : Rat)) ↔ a * d < c * b := by
  have hb' : (0 : Rat) < (b : Rat) := by rw [← Rat.intCast_zero]; exact Rat.intCast_lt_intCast.mpr hb
  have hd' : (0 : Rat) < (d : Rat) := by rw [← Rat.intCast_zero]; exact Rat.intCast_lt_intCast.mpr hd
  rw [Rat.div_lt_iff hb', show (c : Rat) / (d : Rat) * (b : Rat) = (c : Rat) * (b : Rat) / (d : Rat) by rw [Rat.div_def, Rat.div_def]; grind, Rat.lt_div_iff hd', ← Rat.intCast_mul, ← Rat.intCast_mul, Rat.intCast_lt_intCast]
theorem arg_iff {a b : Int} (hb : 0 ≤ b) : Kqg1.isArgument a (Kqg1Neutral.nat b) = true ↔ NumOk a ∧ DenOk b := by
  unfold Kqg1.isArgument NumOk DenOk Kqg1Neutral.nat
  rw [Bool.and_eq_true, Bool.and_eq_true, decide_eq_true_iff, decide_eq_true_iff, decide_eq_true_iff]
  omega
theorem arg_false {a b : Int} (hb : 0 ≤ b) : Kqg1.isArgument a (Kqg1Neutral.nat b) = false ↔ ¬ (NumOk a ∧ DenOk b) := by
  rw [← arg_iff hb]
  simp
theorem rational_is {a b : Int} (hb : 0 ≤ b) : Kqg1.rational a (Kqg1Neutral.nat b) = (a : Rat) / (b : Rat) := by
  unfold Kqg1.rational
  rw [cast_nat hb]
theorem iv_cond {a b c d : Int} (hb : 0 ≤ b) (hd : 0 ≤ d) : (Kqg1.isArgument a (Kqg1Neutral.nat b) = false ∨ Kqg1.isArgument c (Kqg1Neutral.nat d) = false ∨ Kqg1.rational c (Kqg1Neutral.nat d) ≤ Kqg1.rational a (Kqg1Neutral.nat b)) ↔ ¬ IvOk a b c d := by
  rw [arg_false hb, arg_false hd, rational_is hb, rational_is hd]
  unfold IvOk
  by_cases h1 : NumOk a ∧ DenOk b
  · by_cases h2 : NumOk c ∧ DenOk d
    · have := lt_frac a b c d (by have := h1.2.1; omega) (by have := h2.2.1; omega)
      rw [← this, ← Rat.not_lt]
      constructor
      · rintro (h | h | h) ⟨_, _, g⟩
        · exact h h1
        · exact h h2
        · exact h g
      · exact fun h => .inr (.inr fun g => h ⟨h1, h2, g⟩)
    · exact ⟨fun _ h => h2 h.2.1, fun _ => .inr (.inl h2)⟩
  · exact ⟨fun _ h => h1 h.1, fun _ => .inl h1⟩
/-- the three ways of an operation that wants a polynomial that is not zero -/
theorem step_nz {l : List (List Rat)} {x : Int} {c : List (List Int)} {k : List Rat → Kqg1.Result} (hx : 0 ≤ x) (e : Kqg1Neutral.step (some l) c = (let r := Kqg1.ofNonzero (some l) l (Kqg1Neutral.nat x) k; (r.1, Kqg1Neutral.fields r.2))) :
    (¬ x < 4 → Kqg1Neutral.step (some l) c = (some l, [-2])) ∧ (x < 4 → l[x.toNat]? = some [] → Kqg1Neutral.step (some l) c = (some l, [-33])) ∧
    (∀ q, x < 4 → l[x.toNat]? = some q → q ≠ [] → Kqg1Neutral.step (some l) c = (some l, Kqg1Neutral.fields (k q))) := by
  obtain ⟨h1, h2, h3⟩ := of_nz l hx k
  refine ⟨fun h => ?_, fun h g => ?_, fun q h g n => ?_⟩
  · rw [e, h1 h]; rfl
  · rw [e, h2 h g]; rfl
  · rw [e, h3 q h g n]
/-- .. and of one that takes any polynomial -/
theorem step_any {l : List (List Rat)} {x : Int} {c : List (List Int)} {k : List Rat → Kqg1.Result} (hx : 0 ≤ x) (e : Kqg1Neutral.step (some l) c = (some l, Kqg1Neutral.fields (if Kqg1.slotCount ≤ Kqg1Neutral.nat x then .value (-2) else k (Kqg1.polynomialIn l (Kqg1Neutral.nat x))))) :
    (¬ x < 4 → Kqg1Neutral.step (some l) c = (some l, [-2])) ∧ (∀ q, x < 4 → l[x.toNat]? = some q → Kqg1Neutral.step (some l) c = (some l, Kqg1Neutral.fields (k q))) := by
  refine ⟨fun h => ?_, fun q h g => ?_⟩
  · rw [e, if_pos (by unfold Kqg1.slotCount Kqg1Neutral.nat; omega)]; rfl
  · rw [e, if_neg (by unfold Kqg1.slotCount Kqg1Neutral.nat; omega)]
    unfold Kqg1.polynomialIn Kqg1Neutral.nat
    rw [List.getD_eq_getElem?_getD, g]
    rfl
section
variable {P : Program} {w : World} {K : PySem.W.Frag} {mg : Str → Option Value} {base : Heap} {R : Addr}
/-! ### get_polynomial -/
abbrev sOp2 : Stmt := top 84
theorem scOp2 : FnScope nOp nOp (defScope sOp2) := ⟨rfl, rfl, rfl, by decide +kernel, rfl, by decide +kernel, by decide +kernel⟩
theorem ok_op2 {f : Addr} {fd : FuncData} (F : Fun K "get_polynomial" "get_polynomial" sOp2 f fd) (D1 : DnX P w K mg base "stored_polynomial" 6 ["slots", "slot"] (spSt K R)) (D2 : Dn P w K mg base "counted_pairs" 1 ["pairs"] spCo) : FnOk P w K mg base (L2.CX P w) 60 f fd nOp (spOp K R 2) := by
  refine F.okX scOp2 spOp_len (fun cdv A outer s H vs Q E hr h => ⟨_, pss_one (ps_ret (pe_fn D2 (hr.mono (by decide)) (pa_cons (pe_fnX D1 (takes_of rfl rfl rfl rfl) (hr.mono (by decide)) (pa_cons (pv 0) (pa_cons (pe_ix ix_list (pv 1) pe_int (fun _ _ => rfl)) pa_nil))) pa_nil))), ?_⟩)
  obtain ⟨S, a, c, st, rfl, hS, hA, hc, hst, k⟩ := h
  cases hc with
  | get x h1 =>
  obtain ⟨l, rfl⟩ := hst.resolve_left (by decide)
  obtain ⟨e1, e2⟩ := step_any (c := [[2, x]]) (k := fun q => Kqg1.polynomialResult q) h1 rfl
  refine ⟨_, rfl, _, rfl, a, _, 0, .int x, rfl, rfl, seq_lst hA, atI_nat (j := 0) rfl, S, x, l, rfl, hS, h1, fun c1 r q g => ?_, fun c1 => k.2 _ (e1 c1)⟩
  exact ⟨r, q, rfl, g.2.1, Nat.le_trans g.2.2.2.1 (by decide), k.give hS (e2 q c1 g.1)⟩
/-! ### degree -/
abbrev sOp3 : Stmt := top 85
theorem scOp3 : FnScope nOp nOp (defScope sOp3) := ⟨rfl, rfl, rfl, by decide +kernel, rfl, by decide +kernel, by decide +kernel⟩
theorem ok_op3 {f : Addr} {fd : FuncData} (F : Fun K "degree" "degree" sOp3 f fd) (B : BI P mg base) (D1 : DnX P w K mg base "nonzero_polynomial" 7 ["slots", "slot"] (spNz K R)) : FnOk P w K mg base (L2.CX P w) 60 f fd nOp (spOp K R 3) := by
  refine F.okX scOp3 spOp_len (fun cdv A outer s H vs Q E hr h => ⟨_, pss_one (ps_ret (pe_lst (pa_cons (pe_op op_sub (pe_callB call_len_seq (by rfl) B.len (by decide +kernel) (pa_cons (pe_fnX D1 (takes_of rfl rfl rfl rfl) (hr.mono (by decide)) (pa_cons (pv 0) (pa_cons (pe_ix ix_list (pv 1) pe_int (fun _ _ => rfl)) pa_nil))) pa_nil)) pe_int) pa_nil))), ?_⟩)
  obtain ⟨S, a, c, st, rfl, hS, hA, hc, hst, k⟩ := h
  cases hc with
  | degree x h1 =>
  obtain ⟨l, rfl⟩ := hst.resolve_left (by decide)
  obtain ⟨e1, e2, e3⟩ := step_nz (c := [[3, x]]) (k := fun p => .value (Kqg1.degree p)) h1 rfl
  refine ⟨_, rfl, _, rfl, a, _, 0, .int x, rfl, rfl, seq_lst hA, atI_nat (j := 0) rfl, S, x, l, rfl, hS, h1, fun c1 r q g qn => ?_, fun c1 g => k.2 _ (e2 c1 g), fun c1 => k.2 _ (e1 c1)⟩
  have e := e3 q c1 g.1 qn
  obtain ⟨rs, a1, a2⟩ := g.2.1
  refine ⟨r, _, rfl, .inl (seq_lst a1), _, _, rfl, rfl, by show 1 ≤ sizeLine; decide, fun l' hl => ?_⟩
  have z : ((RI rs).length : Int) - 1 = ((Kqg1.degree q : Nat) : Int) := by
    have := List.length_pos_iff.mpr qn
    rw [ri_len, a2.len]
    unfold Kqg1.degree
    omega
  show Q (.ref l') (upd H l' (.lst [V.int (((RI rs).length : Int) - 1)]))
  rw [z]
  exact (k.give hS e).new hl
/-! ### evaluate -/
abbrev sOp4 : Stmt := top 86
abbrev nOp4 : List Str := ["slots", "arguments", "slot", "numerator", "denominator", "polynomial", "value_numerator", "value_denominator"]
theorem scOp4 : FnScope nOp4 nOp (defScope sOp4) := ⟨rfl, rfl, rfl, by decide +kernel, rfl, by decide +kernel, by decide +kernel⟩
theorem ok_op4 {f : Addr} {fd : FuncData} (F : Fun K "evaluate" "evaluate" sOp4 f fd) (D1 : DnX P w K mg base "stored_polynomial" 6 ["slots", "slot"] (spSt K R)) (D2 : DnX P w K mg base "check_argument" 6 ["numerator", "denominator"] (spCa K R))
    (D3 : Dn P w K mg base "value_at" 44 ["polynomial", "numerator", "denominator"] spVa) : FnOk P w K mg base (L2.CX P w) 60 f fd nOp (spOp K R 4) := by
  refine F.okX scOp4 spOp_len (fun cdv A outer s H vs Q E hr h => ⟨_, pss_cons (ps_asg (pv 1) (pg_unl rfl (pgs_cons (pg_name (i := 2) scOp4.nd rfl (Or.inl rfl)) (pgs_cons (pg_name (i := 3) scOp4.nd rfl (Or.inl rfl)) (pgs_cons (pg_name (i := 4) scOp4.nd rfl (Or.inl rfl)) pgs_nil)))))
    (pss_cons (ps_set (i := 5) scOp4.nd rfl (Or.inl rfl) (pe_fnX D1 (takes_of rfl rfl rfl rfl) (hr.mono (by decide)) (pa_cons (pv 0) (pa_cons (pv 2) pa_nil))))
    (pss_cons (ps_expr (pe_fnX D2 (takes_of rfl rfl rfl rfl) (hr.mono (by decide)) (pa_cons (pv 3) (pa_cons (pv 4) pa_nil))))
    (pss_cons (ps_asg (pe_fn D3 (hr.mono (by decide)) (pa_cons (pv 5) (pa_cons (pv 3) (pa_cons (pv 4) pa_nil)))) (pg_tup rfl (pgs_cons (pg_name (i := 6) scOp4.nd rfl (Or.inl rfl)) (pgs_cons (pg_name (i := 7) scOp4.nd rfl (Or.inl rfl)) pgs_nil))))
    (pss_one (ps_ret (pe_lst (pa_cons pe_int (pa_cons (pv 6) (pa_cons (pv 7) pa_nil))))))))), ?_⟩)
  obtain ⟨S, a, c, st, rfl, hS, hA, hc, hst, k⟩ := h
  cases hc with
  | evaluate x n d h1 h2 =>
  obtain ⟨l, rfl⟩ := hst.resolve_left (by decide)
  obtain ⟨e1, e2⟩ := step_any (c := [[4, x, n, d]]) (k := fun q => if Kqg1.isArgument n (Kqg1Neutral.nat d) = false then .value (-22) else .values 0 (Kqg1.fraction (Kqg1.evaluate q (Kqg1.rational n (Kqg1Neutral.nat d))))) h1 rfl
  refine ⟨_, rfl, a, _, rfl, seq_lst hA, rfl, _, _, rfl, _, _, rfl, _, _, rfl, rfl, ?_⟩
  refine ⟨_, rfl, _, rfl, S, x, l, rfl, hS, h1, fun c1 r q g => ?_, fun c1 => k.2 _ (e1 c1)⟩
  have e := e2 q c1 g.1
  refine ⟨_, rfl, _, rfl, n, d, rfl, fun c2 => ?_, fun c2 => ?_⟩
  · rw [if_neg (by rw [arg_false h2]; exact fun h => h c2), rational_is h2] at e
    have b1 : n.natAbs < 2 ^ 20 := Nat.lt_of_le_of_lt c2.1 (by decide)
    have b2 : d.natAbs < 2 ^ 20 := Nat.lt_of_le_of_lt (show d.natAbs ≤ 1000 by have := c2.2.2; omega) (by decide)
    have d0 : 0 < d := by have := c2.2.1; omega
    refine ⟨_, rfl, _, rfl, _, rfl, r, q, n, d, 20, rfl, g.2.1, g.2.2, d0, b1, b2, by decide, fun H1 t s1 ht et => ?_⟩
    refine ⟨t, _, rfl, .inl (.inl et), rfl, _, _, rfl, _, _, rfl, rfl, ?_⟩
    refine ⟨_, rfl, _, rfl, by show 3 ≤ sizeLine; decide, fun l' hl => ?_⟩
    exact (k.give hS e).later s1 (same_new hl) hl upd_same
  · rw [if_pos ((arg_false h2).mpr c2)] at e
    exact k.2 _ e
/-! ### the counts over the whole line -/
abbrev nOpC : List Str := ["slots", "arguments", "distinct", "total"]
abbrev sOp5 : Stmt := top 87
theorem scOp5 : FnScope nOpC nOp (defScope sOp5) := ⟨rfl, rfl, rfl, by decide +kernel, rfl, by decide +kernel, by decide +kernel⟩
theorem ok_op5 {f : Addr} {fd : FuncData} (F : Fun K "count_distinct_roots" "count_distinct_roots" sOp5 f fd) (D1 : DnX P w K mg base "nonzero_polynomial" 7 ["slots", "slot"] (spNz K R)) (D2 : Dn P w K mg base "count_all" 48 ["polynomial"] spAl) : FnOk P w K mg base (L2.CX P w) 60 f fd nOp (spOp K R 5) := by
  refine F.okX scOp5 spOp_len (fun cdv A outer s H vs Q E hr h => ⟨_, pss_cons (ps_asg (pe_fn D2 (hr.mono (by decide)) (pa_cons (pe_fnX D1 (takes_of rfl rfl rfl rfl) (hr.mono (by decide)) (pa_cons (pv 0) (pa_cons (pe_ix ix_list (pv 1) pe_int (fun _ _ => rfl)) pa_nil))) pa_nil))
      (pg_tup rfl (pgs_cons (pg_name (i := 2) scOp5.nd rfl (Or.inl rfl)) (pgs_cons (pg_name (i := 3) scOp5.nd rfl (Or.inl rfl)) pgs_nil))))
    (pss_one (ps_ret (pe_lst (pa_cons (pv 2) pa_nil)))), ?_⟩)
  obtain ⟨S, a, c, st, rfl, hS, hA, hc, hst, k⟩ := h
  cases hc with
  | distinct x h1 =>
  obtain ⟨l, rfl⟩ := hst.resolve_left (by decide)
  obtain ⟨e1, e2, e3⟩ := step_nz (c := [[5, x]]) (k := fun p => .value (Kqg1.countDistinct p .minusInfinity .plusInfinity)) h1 rfl
  refine ⟨_, rfl, _, rfl, a, _, 0, .int x, rfl, rfl, seq_lst hA, atI_nat (j := 0) rfl, S, x, l, rfl, hS, h1, fun c1 r q g qn => ?_, fun c1 g => k.2 _ (e2 c1 g), fun c1 => k.2 _ (e1 c1)⟩
  refine ⟨r, q, rfl, g.2.1, g.2.2, fun H1 t s1 ht et => ?_⟩
  refine ⟨t, _, rfl, .inl (.inl et), rfl, _, _, rfl, _, _, rfl, rfl, ?_⟩
  refine ⟨_, rfl, by show 1 ≤ sizeLine; decide, fun l' hl => ?_⟩
  exact (k.give hS (e3 q c1 g.1 qn)).later s1 (same_new hl) hl upd_same
abbrev sOp6 : Stmt := top 88
theorem scOp6 : FnScope nOpC nOp (defScope sOp6) := ⟨rfl, rfl, rfl, by decide +kernel, rfl, by decide +kernel, by decide +kernel⟩
theorem ok_op6 {f : Addr} {fd : FuncData} (F : Fun K "count_roots" "count_roots" sOp6 f fd) (D1 : DnX P w K mg base "nonzero_polynomial" 7 ["slots", "slot"] (spNz K R)) (D2 : Dn P w K mg base "count_all" 48 ["polynomial"] spAl) : FnOk P w K mg base (L2.CX P w) 60 f fd nOp (spOp K R 6) := by
  refine F.okX scOp6 spOp_len (fun cdv A outer s H vs Q E hr h => ⟨_, pss_cons (ps_asg (pe_fn D2 (hr.mono (by decide)) (pa_cons (pe_fnX D1 (takes_of rfl rfl rfl rfl) (hr.mono (by decide)) (pa_cons (pv 0) (pa_cons (pe_ix ix_list (pv 1) pe_int (fun _ _ => rfl)) pa_nil))) pa_nil))
      (pg_tup rfl (pgs_cons (pg_name (i := 2) scOp6.nd rfl (Or.inl rfl)) (pgs_cons (pg_name (i := 3) scOp6.nd rfl (Or.inl rfl)) pgs_nil))))
    (pss_one (ps_ret (pe_lst (pa_cons (pv 3) pa_nil)))), ?_⟩)
  obtain ⟨S, a, c, st, rfl, hS, hA, hc, hst, k⟩ := h
  cases hc with
  | roots x h1 =>
  obtain ⟨l, rfl⟩ := hst.resolve_left (by decide)
  obtain ⟨e1, e2, e3⟩ := step_nz (c := [[6, x]]) (k := fun p => .value (Kqg1.realRootCount p)) h1 rfl
  refine ⟨_, rfl, _, rfl, a, _, 0, .int x, rfl, rfl, seq_lst hA, atI_nat (j := 0) rfl, S, x, l, rfl, hS, h1, fun c1 r q g qn => ?_, fun c1 g => k.2 _ (e2 c1 g), fun c1 => k.2 _ (e1 c1)⟩
  refine ⟨r, q, rfl, g.2.1, g.2.2, fun H1 t s1 ht et => ?_⟩
  refine ⟨t, _, rfl, .inl (.inl et), rfl, _, _, rfl, _, _, rfl, rfl, ?_⟩
  refine ⟨_, rfl, by show 1 ≤ sizeLine; decide, fun l' hl => ?_⟩
  exact (k.give hS (e3 q c1 g.1 qn)).later s1 (same_new hl) hl upd_same
abbrev sOp7 : Stmt := top 89
abbrev nOp7 : List Str := ["slots", "arguments", "polynomial", "distinct", "total"]
theorem scOp7 : FnScope nOp7 nOp (defScope sOp7) := ⟨rfl, rfl, rfl, by decide +kernel, rfl, by decide +kernel, by decide +kernel⟩
theorem real_is {q : List Rat} (h : q ≠ []) : (if Kqg1.isRealRooted q then (1 : Int) else 0) = if ((Kqg1.countRoots q .minusInfinity .plusInfinity : Nat) : Int) = (q.length : Int) - 1 then 1 else 0 := by
  have hp := List.length_pos_iff.mpr h
  have e : (Kqg1.isRealRooted q = true) ↔ ((Kqg1.countRoots q .minusInfinity .plusInfinity : Nat) : Int) = (q.length : Int) - 1 := by
    unfold Kqg1.isRealRooted Kqg1.degree
    rw [Bool.and_eq_true, bne_iff_ne, beq_iff_eq]
    constructor
    · rintro ⟨_, g⟩
      omega
    · exact fun g => ⟨h, by omega⟩
  by_cases c : Kqg1.isRealRooted q = true
  · rw [if_pos c, if_pos (e.mp c)]
  · rw [if_neg c, if_neg fun z => c (e.mpr z)]
theorem ok_op7 {f : Addr} {fd : FuncData} (F : Fun K "is_real_rooted" "is_real_rooted" sOp7 f fd) (B : BI P mg base) (D1 : DnX P w K mg base "nonzero_polynomial" 7 ["slots", "slot"] (spNz K R)) (D2 : Dn P w K mg base "count_all" 48 ["polynomial"] spAl) : FnOk P w K mg base (L2.CX P w) 60 f fd nOp (spOp K R 7) := by
  refine F.okX scOp7 spOp_len (fun cdv A outer s H vs Q E hr h => ⟨_, pss_cons (ps_set (i := 2) scOp7.nd rfl (Or.inl rfl) (pe_fnX D1 (takes_of rfl rfl rfl rfl) (hr.mono (by decide)) (pa_cons (pv 0) (pa_cons (pe_ix ix_list (pv 1) pe_int (fun _ _ => rfl)) pa_nil))))
    (pss_cons (ps_asg (pe_fn D2 (hr.mono (by decide)) (pa_cons (pv 2) pa_nil)) (pg_tup rfl (pgs_cons (pg_name (i := 3) scOp7.nd rfl (Or.inl rfl)) (pgs_cons (pg_name (i := 4) scOp7.nd rfl (Or.inl rfl)) pgs_nil))))
    (pss_one (ps_ret (pe_lst (pa_cons (pe_ifExp (pt_cmpR op_eq (pv 4) (pe_op op_sub (pe_callB call_len_seq (by rfl) B.len (by decide +kernel) (pa_cons (pv 2) pa_nil)) pe_int) (nomark _)) pe_int pe_int) pa_nil))))), ?_⟩)
  obtain ⟨S, a, c, st, rfl, hS, hA, hc, hst, k⟩ := h
  cases hc with
  | real x h1 =>
  obtain ⟨l, rfl⟩ := hst.resolve_left (by decide)
  obtain ⟨e1, e2, e3⟩ := step_nz (c := [[7, x]]) (k := fun p => .value (if Kqg1.isRealRooted p then 1 else 0)) h1 rfl
  refine ⟨_, rfl, _, rfl, a, _, 0, .int x, rfl, rfl, seq_lst hA, atI_nat (j := 0) rfl, S, x, l, rfl, hS, h1, fun c1 r q g qn => ?_, fun c1 g => k.2 _ (e2 c1 g), fun c1 => k.2 _ (e1 c1)⟩
  have e := e3 q c1 g.1 qn
  rw [real_is qn] at e
  refine ⟨_, rfl, r, q, rfl, g.2.1, g.2.2, fun H1 t s1 ht et => ?_⟩
  obtain ⟨rs, a1, a2⟩ := g.2.1
  refine ⟨t, _, rfl, .inl (.inl et), rfl, _, _, rfl, _, _, rfl, rfl, ?_⟩
  refine ⟨_, rfl, _, rfl, r, _, rfl, .inl (seq_lst (s1 _ _ a1)), _, _, rfl, rfl, rfl, _, rfl, ?_⟩
  show (if decide (V.int _ = V.int (((RI rs).length : Int) - 1)) = true then _ else _)
  rw [ri_len, a2.len]
  by_cases c2 : ((Kqg1.countRoots q .minusInfinity .plusInfinity : Nat) : Int) = (q.length : Int) - 1
  · rw [if_pos c2] at e
    refine if_true_of (by simpa using c2) ?_
    exact ⟨by show 1 ≤ sizeLine; decide, fun l' hl => (k.give hS e).later s1 (same_new hl) hl upd_same⟩
  · rw [if_neg c2] at e
    refine if_false_of (by simpa using c2) ?_
    exact ⟨by show 1 ≤ sizeLine; decide, fun l' hl => (k.give hS e).later s1 (same_new hl) hl upd_same⟩
end
end Rc

/-! ## Ih -/
set_option maxHeartbeats 4000000
namespace Rc
open PySem PySem.Spec PyProof.Rows L2 RcF RcG RcH RcI RcJ RcK
theorem num20 {a : Int} (h : NumOk a) : a.natAbs < 2 ^ 20 := Nat.lt_of_le_of_lt h (by decide)
theorem den20 {d : Int} (h : DenOk d) : d.natAbs < 2 ^ 20 := Nat.lt_of_le_of_lt (show d.natAbs ≤ 1000 by have := h.1; have := h.2; omega) (by decide)
section
variable {P : Program} {w : World} {K : PySem.W.Frag} {mg : Str → Option Value} {base : Heap} {R : Addr}
/-! ### count_roots_between -/
abbrev sOp8 : Stmt := top 90
abbrev nOp8 : List Str := ["slots", "arguments", "slot", "low_numerator", "low_denominator", "high_numerator", "high_denominator", "polynomial", "low", "high"]
theorem scOp8 : FnScope nOp8 nOp (defScope sOp8) := ⟨rfl, rfl, rfl, by decide +kernel, rfl, by decide +kernel, by decide +kernel⟩
theorem ok_op8 {f : Addr} {fd : FuncData} (F : Fun K "count_roots_between" "count_roots_between" sOp8 f fd) (B : BI P mg base) (D1 : DnX P w K mg base "nonzero_polynomial" 7 ["slots", "slot"] (spNz K R)) (D2 : DnX P w K mg base "check_interval" 7 nCv (spCv K R))
    (D3 : Dn P w K mg base "whole_multiple" 43 ["polynomial"] spWm) (D4 : Dn P w K mg base "count_in_interval" 47 ["polynomial", "low", "high"] (spCi K)) : FnOk P w K mg base (L2.CX P w) 60 f fd nOp (spOp K R 8) := by
  refine F.okX scOp8 spOp_len (fun cdv A outer s H vs Q E hr h => ⟨_, pss_cons (ps_asg (pv 1) (pg_unl rfl (pgs_cons (pg_name (i := 2) scOp8.nd rfl (Or.inl rfl)) (pgs_cons (pg_name (i := 3) scOp8.nd rfl (Or.inl rfl)) (pgs_cons (pg_name (i := 4) scOp8.nd rfl (Or.inl rfl)) (pgs_cons (pg_name (i := 5) scOp8.nd rfl (Or.inl rfl)) (pgs_cons (pg_name (i := 6) scOp8.nd rfl (Or.inl rfl)) pgs_nil)))))))
    (pss_cons (ps_set (i := 7) scOp8.nd rfl (Or.inl rfl) (pe_fnX D1 (takes_of rfl rfl rfl rfl) (hr.mono (by decide)) (pa_cons (pv 0) (pa_cons (pv 2) pa_nil))))
    (pss_cons (ps_expr (pe_fnX D2 (takes_of rfl rfl rfl rfl) (hr.mono (by decide)) (pa_cons (pv 3) (pa_cons (pv 4) (pa_cons (pv 5) (pa_cons (pv 6) pa_nil))))))
    (pss_cons (ps_set (i := 8) scOp8.nd rfl (Or.inl rfl) (pe_tup (pa_cons (pv 3) (pa_cons (pv 4) pa_nil))))
    (pss_cons (ps_set (i := 9) scOp8.nd rfl (Or.inl rfl) (pe_tup (pa_cons (pv 5) (pa_cons (pv 6) pa_nil))))
    (pss_one (ps_ret (pe_callTy call_list_of (by rfl) B.list (by decide +kernel) (pa_cons (pe_fn D4 (hr.mono (by decide)) (pa_cons (pe_fn D3 (hr.mono (by decide)) (pa_cons (pv 7) pa_nil)) (pa_cons (pv 8) (pa_cons (pv 9) pa_nil)))) pa_nil)))))))), ?_⟩)
  obtain ⟨S, a, c, st, rfl, hS, hA, hc, hst, k⟩ := h
  cases hc with
  | between x n1 d1 n2 d2 h1 h2 h3 =>
  obtain ⟨l, rfl⟩ := hst.resolve_left (by decide)
  obtain ⟨e1, e2, e3⟩ := step_nz (c := [[8, x, n1, d1, n2, d2]]) (k := fun p => if Kqg1.isArgument n1 (Kqg1Neutral.nat d1) = false ∨ Kqg1.isArgument n2 (Kqg1Neutral.nat d2) = false ∨ Kqg1.rational n2 (Kqg1Neutral.nat d2) ≤ Kqg1.rational n1 (Kqg1Neutral.nat d1) then .value (-22)
    else .values (Kqg1.countDistinct p (.at (Kqg1.rational n1 (Kqg1Neutral.nat d1))) (.at (Kqg1.rational n2 (Kqg1Neutral.nat d2)))) [(Kqg1.countRoots p (.at (Kqg1.rational n1 (Kqg1Neutral.nat d1))) (.at (Kqg1.rational n2 (Kqg1Neutral.nat d2))) : Int)]) h1 rfl
  refine ⟨_, rfl, a, _, rfl, seq_lst hA, rfl, _, _, rfl, _, _, rfl, _, _, rfl, _, _, rfl, _, _, rfl, rfl, ?_⟩
  refine ⟨_, rfl, _, rfl, S, x, l, rfl, hS, h1, fun c1 r q g qn => ?_, fun c1 g => k.2 _ (e2 c1 g), fun c1 => k.2 _ (e1 c1)⟩
  have e := e3 q c1 g.1 qn
  refine ⟨_, rfl, _, rfl, _, rfl, _, rfl, n1, d1, n2, d2, rfl, fun c2 => ?_, fun c2 => ?_⟩
  · rw [if_neg (fun z => (iv_cond h2 h3).mp z c2), rational_is h2, rational_is h3] at e
    have o1 : 0 < d1 := by have := c2.1.2.1; omega
    have o2 : 0 < d2 := by have := c2.2.1.2.1; omega
    refine ⟨_, rfl, _, rfl, by show 2 ≤ sizeLine; decide, fun t1 ht1 => ?_⟩
    refine ⟨_, rfl, _, rfl, by show 2 ≤ sizeLine; decide, fun t2 ht2 => ?_⟩
    have s1 := same_new (o := .tup [.int n1, .int d1]) ht1
    have s2 := same_new (o := .tup [.int n2, .int d2]) ht2
    have s12 := s1.trans s2
    refine ⟨_, rfl, r, q, rfl, g.2.1.same s12, g.2.2, fun H1 t s3 ht et => ?_⟩
    have sm := g.2.2
    refine ⟨_, rfl, _, rfl, t, t1, t2, wm q, n1, d1, n2, d2, 20, rfl, et, .inl (.inl (s3 _ _ (s2 _ _ upd_same))), .inl (.inl (s3 _ _ upd_same)), ok_wm sm.1, by rw [wm_len]; exact sm.2.1, sz_wm sm, num20 c2.1.1, den20 c2.1.2, num20 c2.2.1.1, den20 c2.2.1.2, by decide, fun H2 u s4 hu eu => ?_⟩
    have s5 := (s12.trans s3).trans s4
    rw [count_pair sm (s := .at ((n1 : Rat) / (d1 : Rat))) (t := .at ((n2 : Rat) / (d2 : Rat))) ⟨o1, rfl⟩ ⟨o2, rfl⟩ (Rat.le_of_lt ((lt_frac n1 d1 n2 d2 o1 o2).mpr c2.2.2))] at eu
    exact ⟨u, _, rfl, .inr (.inl (.inl eu)), fun l' hl => (k.give hS e).later s5 (same_new hl) hl upd_same⟩
  · rw [if_pos ((iv_cond h2 h3).mpr c2)] at e
    exact k.2 _ e
/-! ### count_roots_up_to -/
abbrev sOp9 : Stmt := top 91
abbrev nOp9 : List Str := ["slots", "arguments", "slot", "numerator", "denominator", "polynomial", "high", "distinct", "total"]
theorem scOp9 : FnScope nOp9 nOp (defScope sOp9) := ⟨rfl, rfl, rfl, by decide +kernel, rfl, by decide +kernel, by decide +kernel⟩
theorem ok_op9 {f : Addr} {fd : FuncData} (F : Fun K "count_roots_up_to" "count_roots_up_to" sOp9 f fd) (D1 : DnX P w K mg base "nonzero_polynomial" 7 ["slots", "slot"] (spNz K R)) (D2 : DnX P w K mg base "check_argument" 6 ["numerator", "denominator"] (spCa K R))
    (D3 : Dn P w K mg base "whole_multiple" 43 ["polynomial"] spWm) (D4 : Dn P w K mg base "count_in_interval" 47 ["polynomial", "low", "high"] (spCi K)) (D5 : Dn P w K mg base "point_below_all" 1 [] (spPt (-1))) : FnOk P w K mg base (L2.CX P w) 60 f fd nOp (spOp K R 9) := by
  refine F.okX scOp9 spOp_len (fun cdv A outer s H vs Q E hr h => ⟨_, pss_cons (ps_asg (pv 1) (pg_unl rfl (pgs_cons (pg_name (i := 2) scOp9.nd rfl (Or.inl rfl)) (pgs_cons (pg_name (i := 3) scOp9.nd rfl (Or.inl rfl)) (pgs_cons (pg_name (i := 4) scOp9.nd rfl (Or.inl rfl)) pgs_nil)))))
    (pss_cons (ps_set (i := 5) scOp9.nd rfl (Or.inl rfl) (pe_fnX D1 (takes_of rfl rfl rfl rfl) (hr.mono (by decide)) (pa_cons (pv 0) (pa_cons (pv 2) pa_nil))))
    (pss_cons (ps_expr (pe_fnX D2 (takes_of rfl rfl rfl rfl) (hr.mono (by decide)) (pa_cons (pv 3) (pa_cons (pv 4) pa_nil))))
    (pss_cons (ps_set (i := 6) scOp9.nd rfl (Or.inl rfl) (pe_tup (pa_cons (pv 3) (pa_cons (pv 4) pa_nil))))
    (pss_cons (ps_asg (pe_fn D4 (hr.mono (by decide)) (pa_cons (pe_fn D3 (hr.mono (by decide)) (pa_cons (pv 5) pa_nil)) (pa_cons (pe_fn0 D5 (hr.mono (by decide))) (pa_cons (pv 6) pa_nil))))
      (pg_tup rfl (pgs_cons (pg_name (i := 7) scOp9.nd rfl (Or.inl rfl)) (pgs_cons (pg_name (i := 8) scOp9.nd rfl (Or.inl rfl)) pgs_nil))))
    (pss_one (ps_ret (pe_lst (pa_cons (pv 8) pa_nil)))))))), ?_⟩)
  obtain ⟨S, a, c, st, rfl, hS, hA, hc, hst, k⟩ := h
  cases hc with
  | upto x n d h1 h2 =>
  obtain ⟨l, rfl⟩ := hst.resolve_left (by decide)
  obtain ⟨e1, e2, e3⟩ := step_nz (c := [[9, x, n, d]]) (k := fun p => if Kqg1.isArgument n (Kqg1Neutral.nat d) = false then .value (-22) else .value (Kqg1.countRoots p .minusInfinity (.at (Kqg1.rational n (Kqg1Neutral.nat d))))) h1 rfl
  refine ⟨_, rfl, a, _, rfl, seq_lst hA, rfl, _, _, rfl, _, _, rfl, _, _, rfl, rfl, ?_⟩
  refine ⟨_, rfl, _, rfl, S, x, l, rfl, hS, h1, fun c1 r q g qn => ?_, fun c1 g => k.2 _ (e2 c1 g), fun c1 => k.2 _ (e1 c1)⟩
  have e := e3 q c1 g.1 qn
  refine ⟨_, rfl, _, rfl, n, d, rfl, fun c2 => ?_, fun c2 => ?_⟩
  · rw [if_neg (by rw [arg_false h2]; exact fun h => h c2), rational_is h2] at e
    have d0 : 0 < d := by have := c2.2.1; omega
    refine ⟨_, rfl, _, rfl, by show 2 ≤ sizeLine; decide, fun t1 ht1 => ?_⟩
    have s1 := same_new (o := .tup [.int n, .int d]) ht1
    refine ⟨_, rfl, r, q, rfl, g.2.1.same s1, g.2.2, fun H1 t s3 ht et => ?_⟩
    refine ⟨rfl, fun t2 ht2 => ?_⟩
    have s2 := same_new (o := .tup [.int (-1), .int 0]) ht2
    have sm := g.2.2
    refine ⟨_, rfl, t, t2, t1, wm q, -1, 0, n, d, 20, rfl, s2 _ _ et, .inl (.inl upd_same), .inl (.inl (s2 _ _ (s3 _ _ upd_same))), ok_wm sm.1, by rw [wm_len]; exact sm.2.1, sz_wm sm, by decide, by decide, num20 c2.1, den20 c2.2, by decide, fun H2 u s4 hu eu => ?_⟩
    have s5 := ((s1.trans s3).trans s2).trans s4
    rw [count_pair sm (s := .minusInfinity) (t := .at ((n : Rat) / (d : Rat))) ⟨rfl, rfl⟩ ⟨d0, rfl⟩ True.intro] at eu
    refine ⟨u, _, rfl, .inl (.inl eu), rfl, _, _, rfl, _, _, rfl, rfl, ?_⟩
    exact ⟨_, rfl, by show 1 ≤ sizeLine; decide, fun l' hl => (k.give hS e).later s5 (same_new hl) hl upd_same⟩
  · rw [if_pos ((arg_false h2).mpr c2)] at e
    exact k.2 _ e
/-! ### multiplicity -/
abbrev sOp10 : Stmt := top 92
abbrev nOp10 : List Str := ["slots", "arguments", "slot", "numerator", "denominator", "polynomial"]
theorem scOp10 : FnScope nOp10 nOp (defScope sOp10) := ⟨rfl, rfl, rfl, by decide +kernel, rfl, by decide +kernel, by decide +kernel⟩
theorem ok_op10 {f : Addr} {fd : FuncData} (F : Fun K "multiplicity" "multiplicity" sOp10 f fd) (D1 : DnX P w K mg base "nonzero_polynomial" 7 ["slots", "slot"] (spNz K R)) (D2 : DnX P w K mg base "check_argument" 6 ["numerator", "denominator"] (spCa K R))
    (D3 : Dn P w K mg base "whole_multiple" 43 ["polynomial"] spWm) (D4 : Dn P w K mg base "multiplicity_at" 46 ["polynomial", "numerator", "denominator"] spMa) : FnOk P w K mg base (L2.CX P w) 60 f fd nOp (spOp K R 10) := by
  refine F.okX scOp10 spOp_len (fun cdv A outer s H vs Q E hr h => ⟨_, pss_cons (ps_asg (pv 1) (pg_unl rfl (pgs_cons (pg_name (i := 2) scOp10.nd rfl (Or.inl rfl)) (pgs_cons (pg_name (i := 3) scOp10.nd rfl (Or.inl rfl)) (pgs_cons (pg_name (i := 4) scOp10.nd rfl (Or.inl rfl)) pgs_nil)))))
    (pss_cons (ps_set (i := 5) scOp10.nd rfl (Or.inl rfl) (pe_fnX D1 (takes_of rfl rfl rfl rfl) (hr.mono (by decide)) (pa_cons (pv 0) (pa_cons (pv 2) pa_nil))))
    (pss_cons (ps_expr (pe_fnX D2 (takes_of rfl rfl rfl rfl) (hr.mono (by decide)) (pa_cons (pv 3) (pa_cons (pv 4) pa_nil))))
    (pss_one (ps_ret (pe_lst (pa_cons (pe_fn D4 (hr.mono (by decide)) (pa_cons (pe_fn D3 (hr.mono (by decide)) (pa_cons (pv 5) pa_nil)) (pa_cons (pv 3) (pa_cons (pv 4) pa_nil)))) pa_nil)))))), ?_⟩)
  obtain ⟨S, a, c, st, rfl, hS, hA, hc, hst, k⟩ := h
  cases hc with
  | mult x n d h1 h2 =>
  obtain ⟨l, rfl⟩ := hst.resolve_left (by decide)
  obtain ⟨e1, e2, e3⟩ := step_nz (c := [[10, x, n, d]]) (k := fun p => if Kqg1.isArgument n (Kqg1Neutral.nat d) = false then .value (-22) else .value (Kqg1.multiplicity p (Kqg1.rational n (Kqg1Neutral.nat d)))) h1 rfl
  refine ⟨_, rfl, a, _, rfl, seq_lst hA, rfl, _, _, rfl, _, _, rfl, _, _, rfl, rfl, ?_⟩
  refine ⟨_, rfl, _, rfl, S, x, l, rfl, hS, h1, fun c1 r q g qn => ?_, fun c1 g => k.2 _ (e2 c1 g), fun c1 => k.2 _ (e1 c1)⟩
  have e := e3 q c1 g.1 qn
  refine ⟨_, rfl, _, rfl, n, d, rfl, fun c2 => ?_, fun c2 => ?_⟩
  · rw [if_neg (by rw [arg_false h2]; exact fun h => h c2), rational_is h2] at e
    have d0 : 0 < d := by have := c2.2.1; omega
    have sm := g.2.2
    refine ⟨_, rfl, r, q, rfl, g.2.1, sm, fun H1 t s1 ht et => ?_⟩
    refine ⟨_, rfl, _, rfl, t, wm q, n, d, 20, rfl, et, ok_wm sm.1, by rw [wm_len]; exact sm.2.1, sz_wm sm, num20 c2.1, den20 c2.2, by decide, fun H2 s2 => ?_⟩
    rw [mult_is (rl_wm sm.1) d0]
    exact ⟨by show 1 ≤ sizeLine; decide, fun l' hl => (k.give hS e).later (s1.trans s2) (same_new hl) hl upd_same⟩
  · rw [if_pos ((arg_false h2).mpr c2)] at e
    exact k.2 _ e
end
end Rc

/-! ## Ja -/
set_option maxHeartbeats 2000000
namespace Rc
open PySem PySem.Spec PyProof.Rows L2 RcF RcG RcH RcI RcJ RcK
/-- a list is handed back, old or new -/
def RetO (H : Hp) (Q : VK) (p : List Int) : Prop := ∀ (H' : Hp) (r : Addr), Same H H' → H' r = some (.lst (LI p)) → Q (.ref r) H'
section
variable {P : Program} {w : World} {K : PySem.W.Frag} {mg : Str → Option Value} {base : Heap}
/-! ### with_positive_lead -/
abbrev sWp : Stmt := top 30
abbrev nWp : List Str := ["polynomial", "coefficient"]
theorem scWp : FnScope nWp ["polynomial"] (defScope sWp) := ⟨rfl, rfl, rfl, by decide +kernel, rfl, by decide +kernel, by decide +kernel⟩
def spWp : Sp := fun vs H Q _ => ∃ (a : Addr) (p : List Int), vs = [.ref a] ∧ H a = some (.lst (LI p)) ∧ p ≠ [] ∧ p.length ≤ 1000 ∧ RetO H Q (RcR.ipos p)
theorem ok_wp {f : Addr} {fd : FuncData} (F : Fun K "with_positive_lead" "with_positive_lead" sWp f fd) (B : BI P mg base) : FnOk P w K mg base CX0 1 f fd ["polynomial"] spWp := by
  refine F.ok scWp (fun vs H Q E h => ?_) (fun cdv A outer s H vs Q E hr h => ⟨_, pss_cons (ps_if (pt_cmpR op_gt (pe_ix ix_list (pv 0) (pe_un un_neg pe_int) (fun _ _ => rfl)) pe_int (nomark _)) (pss_one (ps_ret (pv 0))) pss_nil)
    (pss_one (ps_ret (pe_lc (own := [("coefficient", 1)]) (g := gName 1) (tt := tYes) rfl scWp.nd (pi_list (pv 0)) (blkOk_by (N := nWp) (sc := defScope sWp) (by decide +kernel))
      (fun _ _ _ _ _ => pg_name (i := 1) scWp.nd rfl (Or.inl rfl)) (fun _ _ _ _ _ => pts_nil) (fun _ _ _ _ _ => pe_un un_neg (pv 1))))), ?_⟩)
  · obtain ⟨a, p, rfl, _⟩ := h
    rfl
  · obtain ⟨a, p, rfl, hS, hn, hl, k⟩ := h
    refine ⟨_, rfl, _, rfl, a, _, _, _, rfl, rfl, seq_lst hS, li_last hn, _, _, rfl, rfl, _, rfl, ?_⟩
    by_cases c : ilast p > 0
    · refine if_true_of (by simpa using c) ⟨_, rfl, ?_⟩
      refine k H a (Same.refl H) ?_
      unfold RcR.ipos
      rw [if_pos c]
      exact hS
    · refine if_false_of (by simpa using c) ⟨_, rfl, a, rfl, ⟨_, seq_lst hS⟩, fun D hD => lc_list (K := K) (a := a) (xs := LI p) (fun i H1 => H1 = upd H D (.lst (LI ((ineg p).take i)))) rfl (fun i H1 _ e => by rw [e]; exact (same_new hD).seq (seq_lst hS)) ?_ ?_⟩
      · rintro i x H1 hi rfl
        obtain ⟨z, hz, rfl⟩ := li_get hi
        refine ⟨rfl, ?_⟩
        refine ⟨_, rfl, _, rfl, _, upd_same, small1000 (by rw [li_len, List.length_take, ineg_len]; omega), ?_⟩
        rw [upd_upd]
        congr 2
        have e : (ineg p)[i]? = some (-z) := by
          unfold ineg
          rw [List.getElem?_map, hz]
          rfl
        rw [take_more e, li_snoc]
      · rintro H1 rfl
        rw [li_len, List.take_of_length_le (by rw [ineg_len]; exact Nat.le_refl _)]
        refine k _ D (same_new hD) ?_
        unfold RcR.ipos
        rw [if_neg c, upd_same]
        rfl
/-! ### squarefree_part -/
abbrev sSq : Stmt := top 37
theorem scSq : FnScope ["polynomial"] ["polynomial"] (defScope sSq) := ⟨rfl, rfl, rfl, by decide +kernel, rfl, by decide +kernel, by decide +kernel⟩
def spSq : Sp := fun vs H Q _ => ∃ (a : Addr) (p : List Int), vs = [.ref a] ∧ H a = some (.lst (LI p)) ∧ Ok p ∧ p ≠ [] ∧ p.length ≤ 9 ∧ Sz 1000 p ∧ RetL H Q (RcR.isqf p)
theorem sqf_facts {p : List Int} (ho : Ok p) (hn : p ≠ []) (h9 : p.length ≤ 9) (hs : Sz 1000 p) : ilast (igcd p (ider p)) ≠ 0 ∧ (igcd p (ider p)).length ≤ p.length ∧ Sz 1091 (igcd p (ider p)) := by
  have pl := List.length_pos_iff.mpr hn
  by_cases h2 : 2 ≤ p.length
  · obtain ⟨f1, f2, f3, f4, f5, f6, f7, f8⟩ := layer_facts ho h2 h9 hs
    exact ⟨f1.resolve_left f2, by omega, f4⟩
  · obtain ⟨z, rfl⟩ : ∃ z, p = [z] := by
      match p, pl, h2 with
      | [z], _, _ => exact ⟨z, rfl⟩
      | _ :: _ :: _, _, h => simp at h
    have e : igcd [z] (ider [z]) = prim [z] := rfl
    rw [e]
    have op := ok_prim ho
    have ne : prim [z] ≠ [] := fun y => by have := prim_len [z]; rw [y] at this; simp at this
    exact ⟨op.resolve_left ne, by rw [prim_len]; exact Nat.le_refl _, (sz_prim hs).mono (by decide)⟩
theorem cf_bears {p : List Int} (hn : p ≠ []) (h9 : p.length ≤ 9) : Bears 1004 p (ider p) := by
  have pl := List.length_pos_iff.mpr hn
  refine .inl ⟨by rw [ider_len]; omega, ?_⟩
  rw [ider_len]
  have g1 : gf p.length (p.length - 1) = 3 ^ p.length := by unfold gf; rw [if_neg (by omega)]
  have g2 : 3 ^ p.length ≤ 3 ^ 9 := Nat.pow_le_pow_right (by decide) (by omega)
  rw [g1]
  exact Nat.le_trans (Nat.mul_le_mul_left _ g2) (by decide)
theorem ok_sq {f : Addr} {fd : FuncData} (F : Fun K "squarefree_part" "squarefree_part" sSq f fd) (D1 : Dn P w K mg base "whole_derivative" 1 ["polynomial"] (spDer K)) (D2 : Dn P w K mg base "common_factor" 44 ["first", "second"] (spCf K))
    (D3 : Dn P w K mg base "exact_quotient" 42 ["dividend", "divisor"] (spEq K)) : FnOk P w K mg base CX0 45 f fd ["polynomial"] spSq := by
  refine F.ok scSq (fun vs H Q E h => ?_) (fun cdv A outer s H vs Q E hr h => ⟨_, pss_one (ps_ret (pe_fn D3 (hr.mono (by decide)) (pa_cons (pv 0) (pa_cons (pe_fn D2 hr (pa_cons (pv 0) (pa_cons (pe_fn D1 (hr.mono (by decide)) (pa_cons (pv 0) pa_nil)) pa_nil))) pa_nil)))), ?_⟩)
  · obtain ⟨a, p, rfl, _⟩ := h
    rfl
  · obtain ⟨a, p, rfl, hS, ho, hn, h9, hs, k⟩ := h
    refine ⟨_, rfl, _, rfl, _, rfl, a, p, rfl, seq_lst hS, by omega, fun H1 d s1 hd ed => ?_⟩
    refine ⟨a, d, p, ider p, 1004, rfl, seq_lst (s1 _ _ hS), seq_lst ed, ho, ok_ider ho, hn, by omega, by rw [ider_len]; omega, hs.mono (by decide), sz_ider hs h9, cf_bears hn h9, fun H2 g s2 hg eg => ?_⟩
    obtain ⟨q1, q2, q3⟩ := sqf_facts ho hn h9 hs
    refine ⟨a, g, p, igcd p (ider p), 1000, 1091, rfl, seq_lst (s2 _ _ (s1 _ _ hS)), seq_lst eg, q1, q2, by omega, hs, q3, ?_, fun H3 r s3 hr3 er => ?_⟩
    · exact Nat.le_trans (Nat.add_le_add_left (Nat.mul_le_mul (show p.length + 1 ≤ 10 by omega) (Nat.le_refl _)) _) (by decide)
    · exact k.later (s1.trans s2) s3 hr3 er
/-! ### whole_product -/
abbrev sWr : Stmt := top 32
abbrev nWr : List Str := ["first", "second", "product", "low", "factor", "high", "coefficient"]
theorem scWr : FnScope nWr ["first", "second"] (defScope sWr) := ⟨rfl, rfl, rfl, by decide +kernel, rfl, by decide +kernel, by decide +kernel⟩
def prodL (p g : List Int) : Nat → List Int
  | 0 => List.replicate (p.length + g.length - 1) 0
  | i + 1 => isub (prodL p g i) i (-ic p i) g
theorem prodL_len (p g : List Int) : ∀ i, (prodL p g i).length = p.length + g.length - 1
  | 0 => List.length_replicate ..
  | i + 1 => by rw [prodL, isub_lenF, prodL_len p g i]
theorem isum_cut {f : Nat → Int} {n k : Nat} (h : ∀ i, n ≤ i → i < k → f i = 0) (hn : n ≤ k) : RcP.isumTo f k = RcP.isumTo f n := by
  induction k with
  | zero => rw [Nat.le_zero.mp hn]
  | succ k ih =>
    by_cases e : n = k + 1
    · rw [e]
    · rw [RcP.isumTo, ih (fun i h1 h2 => h i h1 (by omega)) (by omega), h k (by omega) (by omega), Int.add_zero]
theorem isum_congr {f g : Nat → Int} {n : Nat} (h : ∀ i, i < n → f i = g i) : RcP.isumTo f n = RcP.isumTo g n := by
  induction n with
  | zero => rfl
  | succ n ih => rw [RcP.isumTo, RcP.isumTo, ih fun i hi => h i (by omega), h n (by omega)]
theorem prodL_ic (p g : List Int) : ∀ i, i ≤ p.length → ∀ k, k < p.length + g.length - 1 → ic (prodL p g i) k = RcP.isumTo (fun a => if a ≤ k then ic p a * ic g (k - a) else 0) i := by
  intro i
  induction i with
  | zero =>
    intro _ k hk
    rw [prodL, ic_lt _ _ (by rw [List.length_replicate]; exact hk), List.getElem_replicate]
    rfl
  | succ i ih =>
    intro hi k hk
    rw [prodL, RcP.isumTo, ← ih (by omega) k hk]
    have : ic (isub (prodL p g i) i (-ic p i) g) k = ic (prodL p g i) k - if i ≤ k then -ic p i * ic g (k - i) else 0 := by
      rw [ic_lt _ _ (by rw [isub_lenF, prodL_len]; exact hk)]
      unfold isub
      rw [List.getElem_map, List.getElem_range]
    rw [this]
    by_cases c : i ≤ k
    · rw [if_pos c, if_pos c, Int.neg_mul]; omega
    · rw [if_neg c, if_neg c]; omega
theorem prodL_is (p g : List Int) : prodL p g p.length = RcR.iprod p g := by
  refine List.ext_getElem? fun k => ?_
  by_cases hk : k < p.length + g.length - 1
  · rw [List.getElem?_eq_getElem (by rw [prodL_len]; exact hk), ← ic_lt, prodL_ic p g _ (Nat.le_refl _) k hk]
    unfold RcR.iprod
    rw [List.getElem?_map, List.getElem?_range hk]
    refine congrArg some ?_
    show _ = RcP.isumTo (fun j => ic p j * ic g (k - j)) (k + 1)
    by_cases c : k + 1 ≤ p.length
    · rw [isum_cut (n := k + 1) (fun i h1 h2 => if_neg (by omega)) c]
      exact isum_congr fun i hi => if_pos (by omega)
    · rw [isum_cut (f := fun j => ic p j * ic g (k - j)) (n := p.length) (k := k + 1) (fun i h1 h2 => by rw [ic_ge p i h1, Int.zero_mul]) (by omega)]
      exact isum_congr fun i hi => if_pos (by omega)
  · rw [List.getElem?_eq_none (by rw [prodL_len]; omega), List.getElem?_eq_none (by simp [RcR.iprod]; omega)]
def spWr (K : PySem.W.Frag) : Sp := fun vs H Q _ => ∃ (a b : Addr) (p g : List Int) (A : Nat), vs = [.ref a, .ref b] ∧ SqL K H a (LI p) ∧ SqL K H b (LI g) ∧ p ≠ [] ∧ g ≠ [] ∧ p.length ≤ 400 ∧ g.length ≤ 400 ∧ Sz A p ∧ Sz A g ∧ A ≤ 1000000 ∧ RetL H Q (RcR.iprod p g)
theorem ok_wr {f : Addr} {fd : FuncData} (F : Fun K "whole_product" "whole_product" sWr f fd) (B : BI P mg base) : FnOk P w K mg base CX0 1 f fd ["first", "second"] (spWr K) := by
  refine F.ok scWr (fun vs H Q E h => ?_) (fun cdv A outer s H vs Q E hr h => ⟨_, pss_cons (ps_set (i := 2) scWr.nd rfl (Or.inl rfl) (pe_op op_rep (pe_lst (pa_cons pe_int pa_nil)) (pe_op op_sub (pe_op op_add (pe_callB call_len_seq (by rfl) B.len (by decide +kernel) (pa_cons (pv 0) pa_nil)) (pe_callB call_len_seq (by rfl) B.len (by decide +kernel) (pa_cons (pv 1) pa_nil))) pe_int)))
    (pss_cons (ps_for PassesOwn.never rfl (pi_enum (by rfl) B.enumerate (pa_cons (pv 0) pa_nil)) (pg_tup rfl (pgs_cons (pg_name (i := 3) scWr.nd rfl (Or.inl rfl)) (pgs_cons (pg_name (i := 4) scWr.nd rfl (Or.inl rfl)) pgs_nil)))
      (pss_one (ps_for PassesOwn.never rfl (pi_enum (by rfl) B.enumerate (pa_cons (pv 1) pa_nil)) (pg_tup rfl (pgs_cons (pg_name (i := 5) scWr.nd rfl (Or.inl rfl)) (pgs_cons (pg_name (i := 6) scWr.nd rfl (Or.inl rfl)) pgs_nil)))
        (pss_one (ps_augS (pv 2) (pe_op op_add (pv 3) (pv 5)) get_list (pe_op op_mulX (pv 4) (pv 6)) ip_add set_list)))))
    (pss_one (ps_ret (pv 2)))), ?_⟩)
  · obtain ⟨a, b, p, g, A, rfl, _⟩ := h
    rfl
  · obtain ⟨a, b, p, g, C, rfl, hSa, hSb, hpn, hgn, hpl, hgl, hA, hB, hC, k⟩ := h
    have pl := List.length_pos_iff.mpr hpn
    have gl := List.length_pos_iff.mpr hgn
    refine ⟨by show 1 ≤ sizeLine; decide, fun u hu => ?_⟩
    have s1 := same_new (o := .lst [V.int 0]) hu
    refine ⟨_, rfl, a, _, rfl, .inl (s1.seq hSa), _, rfl, b, _, rfl, .inl (s1.seq hSb), _, _, rfl, rfl, _, _, rfl, rfl, ?_⟩
    generalize hn : p.length + g.length - 1 = n
    refine ⟨u, (n : Int), [V.int 0], rfl, congrArg V.int (by rw [li_len, li_len]; omega), upd_same, by omega, by omega, by show 1 * (n : Int).toNat ≤ sizeLine; rw [Int.toNat_natCast, sizeLine_eq]; omega, fun q hq => ?_⟩
    rw [flat_rep, Int.toNat_natCast, li_rep]
    have s2 := s1.trans (same_new (o := .lst (LI (List.replicate n 0))) hq)
    have Hq : H q = none := s1.free hq
    refine ⟨_, rfl, a, _, rfl, s2.seq hSa, for_it (walk_enum (K := K) (a := a) (xs := LI p)) (fun i σ H3 => ∃ t3 t4 t5 t6 : Option V, σ = [some (.ref a), some (.ref b), some (.ref q), t3, t4, t5, t6] ∧ H3 q = some (.lst (LI (prodL p g i))) ∧ Same H H3) ⟨none, none, none, none, rfl, by rw [upd_same, prodL, hn], s2⟩ (fun i σ H3 _ ⟨_, _, _, _, _, _, z⟩ => z.seq hSa) ?_ ?_⟩
    · rintro i x σ H3 H4 hi ⟨t3, t4, t5, t6, rfl, q1, q2⟩ ⟨T, x', y', rfl, hT, rfl, h3, h4⟩
      obtain ⟨z, hz, rfl⟩ := li_get h4
      obtain rfl := Option.some.inj h3
      have hi' : i < p.length := by simpa using hi
      have nq : q ≠ T := fun w => by
        rw [← w, q1] at hT
        cases hT
      have zs : z.natAbs < 2 ^ C := hA z (List.mem_of_getElem? hz)
      have icz : ic p i = z := by
        obtain ⟨h5, h6⟩ := List.getElem?_eq_some_iff.mp hz
        rw [ic_lt _ _ h5, h6]
      refine ⟨T, _, rfl, .inl (.inl upd_same), rfl, _, _, rfl, _, _, rfl, rfl, ?_⟩
      have q2' := q2.trans (same_new (o := .tup [.int ((i : Nat) : Int), .int z]) hT)
      refine ⟨_, rfl, b, _, rfl, q2'.seq hSb, for_it (walk_enum (K := K) (a := b) (xs := LI g)) (fun j σ H5 => ∃ t5 t6 : Option V, σ = [some (.ref a), some (.ref b), some (.ref q), some (.int ((i : Nat) : Int)), some (.int z), t5, t6] ∧ H5 q = some (.lst (LI (subTo (prodL p g i) i (-ic p i) g j))) ∧ Same H H5) ⟨_, _, rfl, by rw [upd_ne nq, subTo_zero]; exact q1, q2'⟩ (fun j σ H5 _ ⟨_, _, _, _, z⟩ => z.seq hSb) ?_ ?_⟩
      · rintro j x σ H5 H6 hj ⟨t5, t6, rfl, w1, w2⟩ ⟨T2, x', y', rfl, hT2, rfl, h5, h6⟩
        obtain ⟨y, hy, rfl⟩ := li_get h6
        obtain rfl := Option.some.inj h5
        have hj' : j < g.length := by simpa using hj
        have nq2 : q ≠ T2 := fun w => by
          rw [← w, w1] at hT2
          cases hT2
        have ys : y.natAbs < 2 ^ C := hB y (List.mem_of_getElem? hy)
        have gj : ic g j = y := by
          obtain ⟨h7, h8⟩ := List.getElem?_eq_some_iff.mp hy
          rw [ic_lt _ _ h7, h8]
        have hki : i + j < (prodL p g i).length := by rw [prodL_len]; omega
        have at3 : (LI (subTo (prodL p g i) i (-ic p i) g j))[i + j]? = some (.int (ic (prodL p g i) (i + j))) := by
          rw [List.getElem?_map, subTo_get hki, if_neg (by omega), Int.sub_zero]
          rfl
        have w1' : (upd H5 T2 (.tup [.int ((j : Nat) : Int), .int y])) q = some (.lst (LI (subTo (prodL p g i) i (-ic p i) g j))) := by rw [upd_ne nq2]; exact w1
        refine ⟨T2, _, rfl, .inl (.inl upd_same), rfl, _, _, rfl, _, _, rfl, rfl, ?_⟩
        refine ⟨_, rfl, _, rfl, _, rfl, _, _, rfl, rfl, q, _, i + j, _, rfl, congrArg V.int (by omega), seq_lst w1', at3, _, rfl, _, rfl, _, _, rfl, rfl, mulx_ok zs ys (by omega), _, _, rfl, rfl, q, _, _, i + j, rfl, rfl, w1', ?_, _, _, rfl, ?_, ?_⟩
        · unfold ixN
          rw [li_len, subTo_len, if_pos (by omega), if_pos (by omega)]
          congr 1
        · have e : ic (prodL p g i) (i + j) + z * y = ic (prodL p g i) (i + j) - -z * y := by rw [Int.neg_mul]; omega
          rw [upd_same, ← subTo_set hki, gj, icz, li_set, ← e]
        · exact same_upd (w2.trans (same_new hT2)) Hq
      · rintro σ H5 ⟨t5, t6, rfl, w1, w2⟩
        rw [li_len, subTo_all] at w1
        exact ⟨_, _, _, _, rfl, w1, w2⟩
    · rintro σ H3 ⟨t3, t4, t5, t6, rfl, q1, q2⟩
      rw [li_len, prodL_is] at q1
      exact ⟨_, rfl, k H3 q q2 Hq q1⟩
end
end Rc

/-! ## Jb -/
set_option maxHeartbeats 2000000
namespace Rc
open PySem PySem.Spec PyProof.Rows L2 RcF RcG RcH RcI RcJ RcK
section
variable {P : Program} {w : World} {K : PySem.W.Frag} {mg : Str → Option Value} {base : Heap}
/-! ### monic -/
abbrev sMo : Stmt := top 57
theorem scMo : FnScope ["whole_polynomial", "polynomial"] ["whole_polynomial"] (defScope sMo) := ⟨rfl, rfl, rfl, by decide +kernel, rfl, by decide +kernel, by decide +kernel⟩
def imonic (p : List Int) : List Rat := (itrim (RcR.ipos p)).map fun (z : Int) => (z : Rat) / ((ilast (RcR.ipos p) : Int) : Rat)
def spMo : Sp := fun vs H Q _ => ∃ (a : Addr) (p : List Int), vs = [.ref a] ∧ H a = some (.lst (LI p)) ∧ p ≠ [] ∧ ilast p ≠ 0 ∧ p.length ≤ 1000 ∧ RetP H Q (imonic p)
theorem RetP.later {H H1 : Hp} {Q : VK} {q : List Rat} (k : RetP H Q q) (s : Same H H1) {H' : Hp} {r : Addr} (s' : Same H1 H') (hr : H1 r = none) (e : PolyAt H' r q) : Q (.ref r) H' := k H' r (s.trans s') (s.free hr) e
theorem ipos_facts {p : List Int} (hn : p ≠ []) (hl : ilast p ≠ 0) : RcR.ipos p ≠ [] ∧ 0 < ilast (RcR.ipos p) ∧ (RcR.ipos p).length = p.length := by
  unfold RcR.ipos
  by_cases c : ilast p > 0
  · rw [if_pos c]; exact ⟨hn, c, rfl⟩
  · rw [if_neg c]; exact ⟨by simpa using hn, by rw [RcR.ilast_neg]; omega, List.length_map _⟩
theorem ok_mo {f : Addr} {fd : FuncData} (F : Fun K "monic" "monic" sMo f fd) (D1 : Dn P w K mg base "with_positive_lead" 1 ["polynomial"] spWp) (D2 : Dn P w K mg base "over_denominator" 43 ["coefficients", "denominator"] (spOd K)) : FnOk P w K mg base CX0 44 f fd ["whole_polynomial"] spMo := by
  refine F.ok scMo (fun vs H Q E h => ?_) (fun cdv A outer s H vs Q E hr h => ⟨_, pss_cons (ps_set (i := 1) scMo.nd rfl (Or.inl rfl) (pe_fn D1 (hr.mono (by decide)) (pa_cons (pv 0) pa_nil)))
    (pss_one (ps_ret (pe_fn D2 hr (pa_cons (pv 1) (pa_cons (pe_ix ix_list (pv 1) (pe_un un_neg pe_int) (fun _ _ => rfl)) pa_nil))))), ?_⟩)
  · obtain ⟨a, p, rfl, _⟩ := h
    rfl
  · obtain ⟨a, p, rfl, hS, hn, hl, hlen, k⟩ := h
    obtain ⟨i1, i2, i3⟩ := ipos_facts hn hl
    refine ⟨_, rfl, a, p, rfl, hS, hn, hlen, fun H1 r s1 er => ?_⟩
    refine ⟨_, rfl, _, rfl, _, rfl, r, _, _, _, rfl, rfl, seq_lst er, li_last i1, ?_⟩
    exact ⟨r, RcR.ipos p, ilast (RcR.ipos p), rfl, seq_lst er, i2, by omega, fun H2 u s2 hu eu => k.later s1 s2 hu eu⟩
/-! ### derivative_of -/
abbrev sDo : Stmt := top 58
theorem scDo : FnScope ["polynomial"] ["polynomial"] (defScope sDo) := ⟨rfl, rfl, rfl, by decide +kernel, rfl, by decide +kernel, by decide +kernel⟩
def spDo : Sp := fun vs H Q _ => ∃ (a : Addr) (q : List Rat), vs = [.ref a] ∧ PolyAt H a q ∧ Small q ∧ RetP H Q (Kqg1.derivative q)
theorem ok_do {f : Addr} {fd : FuncData} (F : Fun K "derivative_of" "derivative_of" sDo f fd) (D1 : Dn P w K mg base "whole_multiple" 43 ["polynomial"] spWm) (D2 : Dn P w K mg base "whole_derivative" 1 ["polynomial"] (spDer K)) (D3 : Dn P w K mg base "common_denominator" 42 ["polynomial"] spCd)
    (D4 : Dn P w K mg base "over_denominator" 43 ["coefficients", "denominator"] (spOd K)) : FnOk P w K mg base CX0 44 f fd ["polynomial"] spDo := by
  refine F.ok scDo (fun vs H Q E h => ?_) (fun cdv A outer s H vs Q E hr h => ⟨_, pss_one (ps_ret (pe_fn D4 hr (pa_cons (pe_fn D2 (hr.mono (by decide)) (pa_cons (pe_fn D1 hr (pa_cons (pv 0) pa_nil)) pa_nil)) (pa_cons (pe_fn D3 (hr.mono (by decide)) (pa_cons (pv 0) pa_nil)) pa_nil)))), ?_⟩)
  · obtain ⟨a, q, rfl, _⟩ := h
    rfl
  · obtain ⟨a, q, rfl, ha, hs, k⟩ := h
    have c0 := cden_pos q
    have l9 := hs.2.1
    refine ⟨_, rfl, a, q, rfl, ha, hs, fun H1 t s1 ht et => ?_⟩
    refine ⟨t, wm q, rfl, seq_lst et, by rw [wm_len]; omega, fun H2 d s2 hd ed => ?_⟩
    refine ⟨_, rfl, a, q, rfl, ha.same (s1.trans s2), hs, ?_⟩
    refine ⟨d, ider (wm q), ((cden q : Nat) : Int), rfl, seq_lst ed, by omega, by rw [ider_len, wm_len]; omega, fun H3 r s3 hr3 er => ?_⟩
    rw [RcR.der_list hs.1] at er
    exact k.later (s1.trans s2) s3 hr3 er
/-! ### product_of -/
abbrev sPo : Stmt := top 59
abbrev nPo : List Str := ["first", "second", "denominator"]
theorem scPo : FnScope nPo ["first", "second"] (defScope sPo) := ⟨rfl, rfl, rfl, by decide +kernel, rfl, by decide +kernel, by decide +kernel⟩
def spPo : Sp := fun vs H Q _ => ∃ (a b : Addr) (p q : List Rat), vs = [.ref a, .ref b] ∧ PolyAt H a p ∧ PolyAt H b q ∧ Small p ∧ Small q ∧ RetP H Q (Kqg1.multiply p q)
theorem mul_nil_left (q : List Rat) : Kqg1.multiply [] q = [] := RcA.cf_ext (RcA.tr_multiply _ _) RcA.tr_nil fun i => by rw [RcA.cf_multiply, RcA.conv_nil, RcA.cf_nil]
theorem mul_nil_right (p : List Rat) : Kqg1.multiply p [] = [] := RcA.cf_ext (RcA.tr_multiply _ _) RcA.tr_nil fun i => by
  rw [RcA.cf_multiply, RcA.cf_nil]
  exact RcA.sum_zero _ _ fun j _ => by rw [RcA.cf_nil]; grind
/-- whether a stored polynomial is empty -/
theorem poly_truth {H : Hp} {a : Addr} {q : List Rat} (h : PolyAt H a q) : ∃ xs, H a = some (.lst xs) ∧ (!xs.isEmpty) = !decide (q = []) := by
  obtain ⟨rs, a1, a2⟩ := h
  refine ⟨_, a1, ?_⟩
  have := a2.len
  cases q with
  | nil => rw [List.length_eq_zero_iff.mp this]; rfl
  | cons x q => cases rs with
    | nil => simp at this
    | cons r rs => rfl
theorem ok_po {f : Addr} {fd : FuncData} (F : Fun K "product_of" "product_of" sPo f fd) (D1 : Dn P w K mg base "whole_multiple" 43 ["polynomial"] spWm) (D2 : Dn P w K mg base "whole_product" 1 ["first", "second"] (spWr K)) (D3 : Dn P w K mg base "common_denominator" 42 ["polynomial"] spCd)
    (D4 : Dn P w K mg base "over_denominator" 43 ["coefficients", "denominator"] (spOd K)) : FnOk P w K mg base CX0 44 f fd ["first", "second"] spPo := by
  refine F.ok scPo (fun vs H Q E h => ?_) (fun cdv A outer s H vs Q E hr h => ⟨_, pss_cons (ps_if (PW.pt (pw_or (pt_not (pt_truth (pv 0) (fun _ => rfl))) (pw_or1 (pt_not (pt_truth (pv 1) (fun _ => rfl)))))) (pss_one (ps_ret (pe_lst pa_nil))) pss_nil)
    (pss_cons (ps_set (i := 2) scPo.nd rfl (Or.inl rfl) (pe_op op_mulX (pe_fn D3 (hr.mono (by decide)) (pa_cons (pv 0) pa_nil)) (pe_fn D3 (hr.mono (by decide)) (pa_cons (pv 1) pa_nil))))
    (pss_one (ps_ret (pe_fn D4 hr (pa_cons (pe_fn D2 (hr.mono (by decide)) (pa_cons (pe_fn D1 hr (pa_cons (pv 0) pa_nil)) (pa_cons (pe_fn D1 hr (pa_cons (pv 1) pa_nil)) pa_nil))) (pa_cons (pv 2) pa_nil)))))), ?_⟩)
  · obtain ⟨a, b, p, q, rfl, _⟩ := h
    rfl
  · obtain ⟨a, b, p, q, rfl, ha, hb, hp, hq, k⟩ := h
    obtain ⟨xs, x1, x2⟩ := poly_truth ha
    obtain ⟨ys, y1, y2⟩ := poly_truth hb
    have empty : Kqg1.multiply p q = [] → ∀ l, H l = none → Q (.ref l) (upd H l (.lst [])) := fun e l hl => k _ l (same_new hl) hl (by rw [e]; exact ⟨[], upd_same, True.intro⟩)
    refine ⟨_, rfl, _, .inl ⟨_, seq_lst x1, rfl⟩, ?_⟩
    rw [x2]
    by_cases c1 : p = []
    · refine if_true_of (by simpa using c1) (if_true_of (by simpa using c1) ⟨by show 0 ≤ sizeLine; exact Nat.zero_le _, empty (by rw [c1]; exact mul_nil_left q)⟩)
    · refine if_false_of (by simpa using c1) ⟨_, rfl, _, .inl ⟨_, seq_lst y1, rfl⟩, ?_⟩
      rw [y2]
      by_cases c2 : q = []
      · exact if_true_of (by simpa using c2) ⟨by show 0 ≤ sizeLine; exact Nat.zero_le _, empty (by rw [c2]; exact mul_nil_right p)⟩
      · refine if_false_of (by simpa using c2) ?_
        have p0 := cden_pos p
        have q0 := cden_pos q
        have lp := hp.2.1
        have lq := hq.2.1
        refine ⟨_, rfl, a, p, rfl, ha, hp, _, rfl, b, q, rfl, hb, hq, _, _, rfl, rfl, mulx_ok (a := 900) (b := 900) (by rw [Int.natAbs_natCast]; exact cden_small hp) (by rw [Int.natAbs_natCast]; exact cden_small hq) (by decide), ?_⟩
        refine ⟨_, rfl, a, p, rfl, ha, hp, fun H1 t s1 ht et => ?_⟩
        refine ⟨_, rfl, b, q, rfl, hb.same s1, hq, fun H2 u s2 hu eu => ?_⟩
        have np : wm p ≠ [] := fun z => c1 ((rl_wm hp.1).nil.mp z)
        have nq : wm q ≠ [] := fun z => c2 ((rl_wm hq.1).nil.mp z)
        refine ⟨t, u, wm p, wm q, 1000, rfl, seq_lst (s2 _ _ et), seq_lst eu, np, nq, by rw [wm_len]; omega, by rw [wm_len]; omega, sz_wm hp, sz_wm hq, by decide, fun H3 v s3 hv ev => ?_⟩
        refine ⟨_, rfl, v, RcR.iprod (wm p) (wm q), ((cden p : Nat) : Int) * ((cden q : Nat) : Int), rfl, seq_lst ev, Int.mul_pos (by omega) (by omega), by simp [RcR.iprod, wm_len]; omega, fun H4 r s4 hr4 er => ?_⟩
        rw [RcR.prod_list hp.1 hq.1 c1 c2] at er
        exact k.later ((s1.trans s2).trans s3) s4 hr4 er
end
end Rc

/-! ## Jc -/
set_option maxHeartbeats 2000000
namespace Rc
open PySem PySem.Spec PyProof.Rows L2 RcF RcG RcH RcI RcJ RcK
section
variable {P : Program} {w : World} {K : PySem.W.Frag} {mg : Str → Option Value} {base : Heap}
/-! ### cauchy_bound -/
abbrev sCb : Stmt := top 73
abbrev nCb : List Str := ["polynomial", "greatest", "coefficient"]
theorem scCb : FnScope nCb ["polynomial"] (defScope sCb) := ⟨rfl, rfl, rfl, by decide +kernel, rfl, by decide +kernel, by decide +kernel⟩
def iabs (p : List Int) : List Int := p.map fun c => ((c.natAbs : Nat) : Int)
def spCb : Sp := fun vs H Q _ => ∃ (a : Addr) (p : List Int), vs = [.ref a] ∧ H a = some (.lst (LI p)) ∧ p ≠ [] ∧ ilast p ≠ 0 ∧ p.length ≤ 1000 ∧ ∀ G : Nat, (∃ z ∈ p, z.natAbs = G) → (∀ z ∈ p, z.natAbs ≤ G) → RetI H Q (1 - (-(G : Int)).fdiv ((ilast p).natAbs : Int))
theorem ok_cb {f : Addr} {fd : FuncData} (F : Fun K "cauchy_bound" "cauchy_bound" sCb f fd) (B : BI P mg base) : FnOk P w K mg base CX0 42 f fd ["polynomial"] spCb := by
  refine F.ok scCb (fun vs H Q E h => ?_) (fun cdv A outer s H vs Q E hr h => ⟨_, pss_cons (ps_set (i := 1) scCb.nd rfl (Or.inl rfl) (pe_callB (cr_max rfl) (by rfl) B.max (by decide +kernel) (pa_cons
      (pe_lc (own := [("coefficient", 2)]) (g := gName 2) (tt := tYes) rfl scCb.nd (pi_list (pv 0)) (blkOk_by (N := nCb) (sc := defScope sCb) (by decide +kernel))
        (fun _ _ _ _ _ => pg_name (i := 2) scCb.nd rfl (Or.inl rfl)) (fun _ _ _ _ _ => pts_nil) (fun _ _ _ _ _ => pe_callB call_abs (by rfl) B.abs (by decide +kernel) (pa_cons (pv 2) pa_nil))) pa_nil)))
    (pss_one (ps_ret (pe_op op_sub pe_int (pe_op (op_divX B.G ⟨_, _, rfl, rfl, rfl, rfl, rfl⟩ hr) (pe_un un_neg (pv 1)) (pe_callB call_abs (by rfl) B.abs (by decide +kernel) (pa_cons (pe_ix ix_list (pv 0) (pe_un un_neg pe_int) (fun _ _ => rfl)) pa_nil)))))), ?_⟩)
  · obtain ⟨a, p, rfl, _⟩ := h
    rfl
  · obtain ⟨a, p, rfl, hS, hn, hl, hlen, k⟩ := h
    have pl := List.length_pos_iff.mpr hn
    refine ⟨_, rfl, a, rfl, ⟨_, seq_lst hS⟩, fun D hD => lc_list (K := K) (a := a) (xs := LI p) (fun i H1 => H1 = upd H D (.lst (LI ((iabs p).take i)))) rfl (fun i H1 _ e => by rw [e]; exact (same_new hD).seq (seq_lst hS)) ?_ ?_⟩
    · rintro i x H1 hi rfl
      obtain ⟨z, hz, rfl⟩ := li_get hi
      refine ⟨rfl, ?_⟩
      refine ⟨_, rfl, _, rfl, _, upd_same, small1000 (by rw [li_len, List.length_take]; unfold iabs; rw [List.length_map]; omega), ?_⟩
      rw [upd_upd, abs_if]
      congr 2
      have e : (iabs p)[i]? = some ((z.natAbs : Nat) : Int) := by
        unfold iabs
        rw [List.getElem?_map, hz]
        rfl
      rw [take_more e, li_snoc]
    · rintro H1 rfl
      have al : (iabs p).length = p.length := by unfold iabs; rw [List.length_map]
      rw [li_len, List.take_of_length_le (by omega)]
      refine ⟨D, iabs p, rfl, seq_lst upd_same, by omega, fun m hm hle => ?_⟩
      obtain ⟨z, hz, rfl⟩ := List.mem_map.mp hm
      refine ⟨_, rfl, _, rfl, _, rfl, _, rfl, a, _, _, _, rfl, rfl, seq_lst (same_new hD _ _ hS), li_last hn, _, rfl, ?_⟩
      rw [abs_if]
      refine ⟨_, _, rfl, rfl, by omega, ?_⟩
      refine ⟨_, _, rfl, rfl, k z.natAbs ⟨z, hz, rfl⟩ (fun y hy => ?_) _ (same_new hD)⟩
      have := hle _ (List.mem_map.mpr ⟨y, hy, rfl⟩)
      omega
/-! ### count_below -/
abbrev sBl : Stmt := top 74
abbrev nBl : List Str := ["chains", "point", "count", "chain", "numerator", "denominator"]
theorem scBl : FnScope nBl ["chains", "point"] (defScope sBl) := ⟨rfl, rfl, rfl, by decide +kernel, rfl, by decide +kernel, by decide +kernel⟩
def below1 (n d : Int) (c : List (List Int)) : Int := ((ichanges c (-1) 0 : Nat) : Int) - ((ichanges c n d : Nat) : Int) - (if sval (c.headD []) n d = 0 then 1 else 0)
def spBl (K : PySem.W.Frag) : Sp := fun vs H Q _ => ∃ (l t : Addr) (rs : List Addr) (cs : List (List (List Int))) (n d : Int) (A : Nat), vs = [.ref l, .ref t] ∧ H l = some (.lst (RI rs)) ∧ Chs H rs cs ∧ Pair K H t n d ∧ (∀ c ∈ cs, c ≠ [] ∧ ∀ x ∈ c, Sz 40000000 x ∧ x.length ≤ 9) ∧
  n.natAbs < 2 ^ A ∧ d.natAbs < 2 ^ A ∧ 1 ≤ A ∧ A ≤ 1000000 ∧ RetI H Q ((cs.map (below1 n d)).sum)
theorem sum_snoc (l : List Int) (z : Int) : (l ++ [z]).sum = l.sum + z := by rw [List.sum_append]; simp
theorem ok_bl {f : Addr} {fd : FuncData} (F : Fun K "count_below" "count_below" sBl f fd) (D1 : Dn P w K mg base "count_on_chain" 3 ["chain", "low", "high"] (spCl K)) (D2 : Dn P w K mg base "point_below_all" 1 [] (spPt (-1)))
    (D3 : Dn P w K mg base "scaled_value" 1 ["polynomial", "numerator", "denominator"] (spVal K)) : FnOk P w K mg base CX0 4 f fd ["chains", "point"] (spBl K) := by
  refine F.ok scBl (fun vs H Q E h => ?_) (fun cdv A outer s H vs Q E hr h => ⟨_, pss_cons (ps_set (i := 2) scBl.nd rfl (Or.inl rfl) pe_int)
    (pss_cons (ps_for PassesOwn.never rfl (pi_list (pv 0)) (pg_name (i := 3) scBl.nd rfl (Or.inl rfl))
      (pss_cons (ps_asg (pv 1) (pg_tup rfl (pgs_cons (pg_name (i := 4) scBl.nd rfl (Or.inl rfl)) (pgs_cons (pg_name (i := 5) scBl.nd rfl (Or.inl rfl)) pgs_nil))))
      (pss_cons (ps_aug (i := 2) scBl.nd rfl (Or.inl rfl) (pe_fn D1 hr (pa_cons (pv 3) (pa_cons (pe_fn0 D2 (hr.mono (by decide))) (pa_cons (pv 1) pa_nil)))) ip_add)
      (pss_one (ps_if (pt_cmpR op_eq (pe_fn D3 (hr.mono (by decide)) (pa_cons (pe_ix ix_list (pv 3) pe_int (fun _ _ => rfl)) (pa_cons (pv 4) (pa_cons (pv 5) pa_nil)))) pe_int (nomark _)) (pss_one (ps_aug (i := 2) scBl.nd rfl (Or.inl rfl) pe_int ip_sub)) pss_nil)))))
    (pss_one (ps_ret (pv 2)))), ?_⟩)
  · obtain ⟨l, t, rs, cs, n, d, A, rfl, _⟩ := h
    rfl
  · obtain ⟨l, t, rs, cs, n, d, C, rfl, hl, hL, ht, hs, hn, hd, hC1, hC, k⟩ := h
    refine ⟨_, rfl, l, rfl, ⟨_, seq_lst hl⟩, for_list (K := K) (a := l) (xs := RI rs) (fun i σ H1 => ∃ s3 s4 s5 : Option V, σ = [some (.ref l), some (.ref t), some (.int (((cs.take i).map (below1 n d)).sum)), s3, s4, s5] ∧ Same H H1) ⟨none, none, none, rfl, Same.refl H⟩ (fun i σ H1 _ ⟨_, _, _, _, e⟩ => seq_lst (e _ _ hl)) ?_ ?_⟩
    · rintro i x σ H1 hi ⟨s3, s4, s5, rfl, e1⟩
      obtain ⟨r, hr1, rfl⟩ := ri_get hi
      obtain ⟨c, hc, qs, ec, hcL⟩ := (hL.keep e1).get hr1
      obtain ⟨hc1, hc2⟩ := hs c (List.mem_of_getElem? hc)
      refine ⟨_, rfl, t, _, rfl, pair_same e1 ht, rfl, _, _, rfl, _, _, rfl, rfl, ?_⟩
      refine ⟨_, rfl, _, rfl, rfl, fun b hb => ?_⟩
      have s2 := same_new (o := .tup [.int (-1), .int 0]) hb
      have a1 : ((-1 : Int)).natAbs < 2 ^ C := Nat.lt_of_lt_of_le (show 1 < 2 ^ 1 by decide) (Nat.pow_le_pow_right (by decide) hC1)
      refine ⟨_, rfl, r, b, t, qs, c, -1, 0, n, d, C, rfl, s2 _ _ ec, hcL.keep (fun b xs z => s2 _ _ z), .inl (.inl upd_same), pair_same (e1.trans s2) ht, hc2, a1, Nat.pow_pos (by decide), hn, hd, hC, ?_⟩
      refine ⟨_, _, rfl, rfl, ?_⟩
      obtain ⟨p, c', rfl⟩ : ∃ p c', c = p :: c' := by
        cases c with
        | nil => exact absurd rfl hc1
        | cons p c' => exact ⟨p, c', rfl⟩
      obtain ⟨rp, qs', rfl⟩ : ∃ rp qs', qs = rp :: qs' := by
        cases qs with
        | nil => exact hcL.elim
        | cons rp qs' => exact ⟨rp, qs', rfl⟩
      obtain ⟨hz, h9⟩ := hc2 p (by simp)
      have m1 : (C + 1) * (p.length + 1) ≤ 10000010 := Nat.le_trans (Nat.mul_le_mul (show C + 1 ≤ 1000001 by omega) (show p.length + 1 ≤ 10 by omega)) (by decide)
      refine ⟨_, rfl, r, _, _, _, rfl, rfl, seq_lst (s2 _ _ ec), atI_nat (j := 0) rfl, _, rfl, _, rfl, rp, p, n, d, 40000000, C, rfl, seq_lst (s2 _ _ hcL.1), hz, hn, hd, by omega, rfl, _, rfl, ?_⟩
      have fin : ∀ z : Int, z = below1 n d (p :: c') → (List.map (below1 n d) (cs.take i)).sum + z = (List.map (below1 n d) (cs.take (i + 1))).sum := by
        rintro z rfl
        rw [take_more hc, List.map_append]
        exact (sum_snoc _ _).symm
      by_cases g : sval p n d = 0
      · refine if_true_of (by simpa using g) ⟨_, rfl, _, _, rfl, rfl, some (.ref r), some (.int n), some (.int d), ?_, e1.trans s2⟩
        rw [← fin _ rfl]
        unfold below1
        rw [show (p :: c').headD [] = p from rfl, if_pos g, ← Int.add_sub_assoc]
        rfl
      · refine if_false_of (by simpa using g) ⟨some (.ref r), some (.int n), some (.int d), ?_, e1.trans s2⟩
        rw [← fin _ rfl]
        unfold below1
        rw [show (p :: c').headD [] = p from rfl, if_neg g, Int.sub_zero]
        rfl
    · rintro σ H1 ⟨s3, s4, s5, rfl, e1⟩
      rw [ri_len, hL.len, List.take_length]
      exact ⟨_, rfl, k H1 e1⟩
/-! ### power_of_two -/
abbrev sP2 : Stmt := top 75
abbrev nP2 : List Str := ["bits", "power", "step"]
theorem scP2 : FnScope nP2 ["bits"] (defScope sP2) := ⟨rfl, rfl, rfl, by decide +kernel, rfl, by decide +kernel, by decide +kernel⟩
def spP2 : Sp := fun vs H Q _ => ∃ b : Nat, vs = [.int (b : Int)] ∧ b ≤ 1000 ∧ Q (.int ((2 ^ b : Nat) : Int)) H
theorem ok_p2 {f : Addr} {fd : FuncData} (F : Fun K "power_of_two" "power_of_two" sP2 f fd) (B : BI P mg base) : FnOk P w K mg base CX0 1 f fd ["bits"] spP2 := by
  refine F.ok scP2 (fun vs H Q E h => ?_) (fun cdv A outer s H vs Q E hr h => ⟨_, pss_cons (ps_set (i := 1) scP2.nd rfl (Or.inl rfl) pe_int)
    (pss_cons (ps_for PassesOwn.never rfl (pi_range1 (by rfl) B.range (pa_cons (pv 0) pa_nil)) (pg_name (i := 2) scP2.nd rfl (Or.inl rfl)) (pss_one (ps_aug (i := 1) scP2.nd rfl (Or.inl rfl) pe_int ip_mulX)))
    (pss_one (ps_ret (pv 1)))), ?_⟩)
  · obtain ⟨b, rfl, _⟩ := h
    rfl
  · obtain ⟨b, rfl, hb, k⟩ := h
    refine ⟨_, rfl, (b : Int), rfl, by omega, by omega, for_range (n := b) (fun i σ H1 => ∃ s2 : Option V, σ = [some (.int (b : Int)), some (.int ((2 ^ i : Nat) : Int)), s2] ∧ H1 = H) ⟨none, rfl, rfl⟩ ?_ ?_⟩
    · rintro i σ H1 hi ⟨s2, rfl, rfl⟩
      refine ⟨_, rfl, _, _, rfl, rfl, mulx_ok (a := i + 1) (b := 2) (by rw [Int.natAbs_natCast]; exact Nat.pow_lt_pow_right (by decide) (by omega)) (by decide) (by omega), some (.int (0 + ((i : Nat) : Int))), ?_, rfl⟩
      have : ((2 ^ i : Nat) : Int) * 2 = ((2 ^ (i + 1) : Nat) : Int) := by rw [Nat.pow_succ]; omega
      rw [← this]
      rfl
    · rintro σ H1 ⟨s2, rfl, rfl⟩
      exact ⟨_, rfl, k⟩
end
end Rc

/-! ## Jd -/
set_option maxHeartbeats 2000000
namespace Rc
open PySem PySem.Spec PyProof.Rows L2 RcF RcG RcH RcI RcJ RcK
theorem ichain_ne (p : List Int) : ichain p ≠ [] := by
  unfold ichain
  rw [ichainL]
  split <;> simp
theorem max_ex : ∀ p : List Int, p ≠ [] → ∃ G : Nat, (∃ z ∈ p, z.natAbs = G) ∧ ∀ z ∈ p, z.natAbs ≤ G
  | [], h => absurd rfl h
  | [z], _ => ⟨z.natAbs, ⟨z, by simp, rfl⟩, fun y hy => by rw [List.mem_singleton.mp hy]; exact Nat.le_refl _⟩
  | z :: y :: p, _ => by
    obtain ⟨G, ⟨x, hx, e⟩, h⟩ := max_ex (y :: p) (by simp)
    by_cases c : z.natAbs ≤ G
    · refine ⟨G, ⟨x, List.mem_cons_of_mem _ hx, e⟩, fun w hw => ?_⟩
      rcases List.mem_cons.mp hw with rfl | hw
      · exact c
      · exact h w hw
    · refine ⟨z.natAbs, ⟨z, by simp, rfl⟩, fun w hw => ?_⟩
      rcases List.mem_cons.mp hw with rfl | hw
      · exact Nat.le_refl _
      · exact Nat.le_trans (h w hw) (by omega)
/-- the bound is no great number -/
theorem bound_small {q : List Rat} (hs : Small q) (hn : q ≠ []) : Kqg1.rootBound q < 2 ^ 1001 := by
  have r := rl_wm hs.1
  have wn : wm q ≠ [] := fun z => hn (r.nil.mp z)
  obtain ⟨G, h1, h2⟩ := max_ex (wm q) wn
  have e := RcP.cauchy_is r wn h1 h2
  obtain ⟨z, hz, rfl⟩ := h1
  have zs := sz_wm hs z hz
  have f := fdiv_le (-((z.natAbs : Nat) : Int)) ((ilast (wm q)).natAbs : Int)
  have p : (2 : Nat) ^ 1001 = 2 ^ 1000 * 2 := Nat.pow_succ 2 1000
  have g : 1 ≤ (2 : Nat) ^ 1000 := Nat.pow_pos (by decide)
  omega
section
variable {P : Program} {w : World} {K : PySem.W.Frag} {mg : Str → Option Value} {base : Heap}
/-! ### floor_of_root -/
abbrev sFl : Stmt := top 76
abbrev nFl : List Str := ["polynomial", "k", "bits", "chains", "scale", "high", "low", "middle"]
theorem scFl : FnScope nFl ["polynomial", "k", "bits"] (defScope sFl) := ⟨rfl, rfl, rfl, by decide +kernel, rfl, by decide +kernel, by decide +kernel⟩
def spFl : Sp := fun vs H Q _ => ∃ (a : Addr) (q : List Rat) (k b : Nat), vs = [.ref a, .int (k : Int), .int (b : Int)] ∧ H a = some (.lst (LI (wm q))) ∧ Small q ∧ q ≠ [] ∧ b ≤ 30 ∧ k < Kqg1.countRoots q .minusInfinity .plusInfinity ∧ RetI H Q (Kqg1.rootFloor q k b)
def FlInv (H : Hp) (a : Addr) (q : List Rat) (k b : Nat) (m : Nat) (σ : L2.St) (H1 : Hp) : Prop :=
  ∃ (l : Addr) (rs : List Addr) (hi lo : Int) (s7 : Option V), σ = [some (.ref a), some (.int (k : Int)), some (.int (b : Int)), some (.ref l), some (.int ((2 ^ b : Nat) : Int)), some (.int hi), some (.int lo), s7] ∧ Same H H1 ∧ H1 l = some (.lst (RI rs)) ∧ Chs H1 rs (iall (wm q)) ∧
    -((Kqg1.rootBound q * 2 ^ b : Nat) : Int) ≤ lo ∧ lo ≤ Kqg1.rootFloor q k b ∧ Kqg1.rootFloor q k b < hi ∧ hi ≤ ((Kqg1.rootBound q * 2 ^ b : Nat) : Int) ∧ (hi - lo).toNat = m
theorem ok_fl {f : Addr} {fd : FuncData} (F : Fun K "floor_of_root" "floor_of_root" sFl f fd) (B : BI P mg base) (D1 : Dn P w K mg base "layer_chains" 46 ["polynomial"] spLc) (D2 : Dn P w K mg base "power_of_two" 1 ["bits"] spP2) (D3 : Dn P w K mg base "cauchy_bound" 42 ["polynomial"] spCb)
    (D4 : Dn P w K mg base "count_below" 4 ["chains", "point"] (spBl K)) : FnOk P w K mg base CX0 47 f fd ["polynomial", "k", "bits"] spFl := by
  refine F.ok scFl (fun vs H Q E h => ?_) (fun cdv A outer s H vs Q E hr h => ⟨_, pss_cons (ps_set (i := 3) scFl.nd rfl (Or.inl rfl) (pe_fn D1 hr (pa_cons (pv 0) pa_nil)))
    (pss_cons (ps_set (i := 4) scFl.nd rfl (Or.inl rfl) (pe_fn D2 (hr.mono (by decide)) (pa_cons (pv 2) pa_nil)))
    (pss_cons (ps_set (i := 5) scFl.nd rfl (Or.inl rfl) (pe_op op_mulX (pe_fn D3 (hr.mono (by decide)) (pa_cons (pv 0) pa_nil)) (pv 4)))
    (pss_cons (ps_set (i := 6) scFl.nd rfl (Or.inl rfl) (pe_un un_neg (pv 5)))
    (pss_cons (ps_while PassesOwn.never (pt_cmpR op_gt (pe_op op_sub (pv 5) (pv 6)) pe_int (nomark _))
      (pss_cons (ps_set (i := 7) scFl.nd rfl (Or.inl rfl) (pe_op (op_divX B.G ⟨_, _, rfl, rfl, rfl, rfl, rfl⟩ hr) (pe_op op_add (pv 6) (pv 5)) pe_int))
      (pss_one (ps_if (pt_cmpR op_le (pe_fn D4 (hr.mono (by decide)) (pa_cons (pv 3) (pa_cons (pe_tup (pa_cons (pv 7) (pa_cons (pv 4) pa_nil))) pa_nil))) (pv 1) (nomark _)) (pss_one (ps_set (i := 6) scFl.nd rfl (Or.inl rfl) (pv 7))) (pss_one (ps_set (i := 5) scFl.nd rfl (Or.inl rfl) (pv 7)))))))
    (pss_one (ps_ret (pv 6))))))), ?_⟩)
  · obtain ⟨a, q, k, b, rfl, _⟩ := h
    rfl
  · obtain ⟨a, q, k, b, rfl, hS, hs, hn, hb, hk, kk⟩ := h
    have r := rl_wm hs.1
    have wn : wm q ≠ [] := fun z => hn (r.nil.mp z)
    have l9 : (wm q).length ≤ 9 := by rw [wm_len]; exact hs.2.1
    have bs := bound_small hs hn
    have b30 : 2 ^ b ≤ 2 ^ 30 := Nat.pow_le_pow_right (by decide) hb
    have big : Kqg1.rootBound q * 2 ^ b < 2 ^ 1040 := by
      refine Nat.lt_of_lt_of_le (Nat.mul_lt_mul_of_lt_of_le bs b30 (by decide)) ?_
      rw [← Nat.pow_add]
      exact Nat.pow_le_pow_right (by decide) (by decide)
    obtain ⟨f1, f2, f3⟩ := RcQ.floor_is r wn (bits := b) hk
    generalize hB : Kqg1.rootFloor q k b = Bv at f1 f2 f3 kk
    refine ⟨_, rfl, a, wm q, rfl, hS, ok_wm hs.1, l9, sz_wm hs, fun H1 l rs s1 hl el hL => ?_⟩
    refine ⟨_, rfl, b, rfl, by omega, ?_⟩
    refine ⟨_, rfl, a, wm q, rfl, s1 _ _ hS, wn, r.last_ne wn, by omega, fun G hG1 hG2 H2 s2 => ?_⟩
    rw [RcP.cauchy_is r wn hG1 hG2]
    refine ⟨_, rfl, _, _, rfl, rfl, mulx_ok (a := 1001) (b := 31) (by rw [Int.natAbs_natCast]; exact bs) (by rw [Int.natAbs_natCast]; exact Nat.lt_of_le_of_lt b30 (by decide)) (by decide), ?_⟩
    have em : ((Kqg1.rootBound q : Nat) : Int) * ((2 ^ b : Nat) : Int) = ((Kqg1.rootBound q * 2 ^ b : Nat) : Int) := (Int.natCast_mul _ _).symm
    dsimp only
    rw [em]
    refine ⟨_, rfl, _, rfl, ?_⟩
    refine ⟨FlInv H a q k b, ⟨_, l, rs, _, _, none, rfl, s1.trans s2, s2 _ _ el, hL.keep s2, Int.le_refl _, by rw [hB]; exact f1, by rw [hB]; exact f2, Int.le_refl _, rfl⟩, ?_⟩
    rintro m σ H3 ⟨l', rs', hi, lo, s7, rfl, e1, e2, e3, e4, e5, e6, e7, rfl⟩
    rw [hB] at e5 e6
    refine ⟨_, rfl, _, rfl, _, _, rfl, rfl, _, _, rfl, rfl, _, rfl, ?_⟩
    by_cases c : hi - lo > 1
    · refine if_true_of (by simpa using c) ⟨fun σ' H'' => ∃ m', m' < (hi - lo).toNat ∧ FlInv H a q k b m' σ' H'', fun _ _ h => h, ?_⟩
      refine ⟨_, rfl, _, rfl, _, _, rfl, rfl, _, _, rfl, rfl, (show (2 : Int) ≠ 0 by decide), ?_⟩
      have md : (lo + hi).fdiv 2 = (lo + hi) / 2 := Int.fdiv_eq_ediv_of_nonneg _ (by decide)
      dsimp only
      rw [md]
      generalize hmid : (lo + hi) / 2 = mid
      refine ⟨_, rfl, _, rfl, _, rfl, by show 2 ≤ sizeLine; decide, fun t ht => ?_⟩
      have s3 := same_new (o := .tup [.int mid, .int ((2 ^ b : Nat) : Int)]) ht
      refine ⟨l', t, rs', iall (wm q), mid, ((2 ^ b : Nat) : Int), 1100, rfl, s3 _ _ e2, e3.keep s3, .inl (.inl upd_same), fun cc hcc => ?_, ?_, ?_, by decide, by decide, fun H5 s5 => ?_⟩
      · obtain ⟨i, hi', he⟩ := List.getElem_of_mem hcc
        obtain ⟨p', _, rfl, _, _, _, _, o5⟩ := iall_get (ok_wm hs.1) l9 (sz_wm hs) (c := cc) (i := i) (by rw [List.getElem?_eq_getElem hi', he])
        exact ⟨ichain_ne p', o5⟩
      · exact Nat.lt_of_lt_of_le (show mid.natAbs < 2 ^ 1040 by omega) (Nat.pow_le_pow_right (by decide) (by decide))
      · rw [Int.natAbs_natCast]
        exact Nat.lt_of_le_of_lt b30 (Nat.pow_lt_pow_right (by decide) (by decide))
      · have cnd := f3 mid
        have e : ((iall (wm q)).map (below1 mid ((2 ^ b : Nat) : Int))).sum = RcQ.icb (wm q) mid ((2 ^ b : Nat) : Int) := rfl
        rw [e]
        refine ⟨_, rfl, _, _, rfl, rfl, _, rfl, ?_⟩
        by_cases d : RcQ.icb (wm q) mid ((2 ^ b : Nat) : Int) ≤ (k : Int)
        · have := cnd.mp d
          exact if_true_of (by simpa using d) ⟨_, rfl, (hi - mid).toNat, by omega, l', rs', hi, mid, _, rfl, (e1.trans s3).trans s5, s5 _ _ (s3 _ _ e2), (e3.keep s3).keep s5, by omega, by rw [hB]; exact this, by rw [hB]; exact e6, e7, rfl⟩
        · have : ¬ mid ≤ Bv := fun z => d (cnd.mpr z)
          exact if_false_of (by simpa using d) ⟨_, rfl, (mid - lo).toNat, by omega, l', rs', mid, lo, _, rfl, (e1.trans s3).trans s5, s5 _ _ (s3 _ _ e2), (e3.keep s3).keep s5, e4, by rw [hB]; exact e5, by rw [hB]; omega, by omega, rfl⟩
    · refine if_false_of (by simpa using c) ⟨_, rfl, ?_⟩
      have : lo = Bv := by omega
      rw [this]
      exact kk H3 e1
end
end Rc

/-! ## Je -/
set_option maxHeartbeats 2000000
namespace Rc
open PySem PySem.Spec PyProof.Rows L2 RcF RcG RcH RcI RcJ RcK
theorem cutV_front (xs : List V) : cutV xs none (some (-1)) = xs.dropLast := by
  unfold cutV
  rw [HT.sIx_none, List.drop_zero, List.dropLast_eq_take]
  congr 1
  have : HT.sIx xs.length xs.length (some (-1)) = ((-1 : Int) + (xs.length : Int)).toNat := by
    show (if (-1 : Int) < 0 then ((-1 : Int) + (xs.length : Int)).toNat else min (-1 : Int).toNat xs.length) = _
    exact if_pos (by decide)
  rw [this]
  omega
/-! ### sizes of the sums -/
theorem pow_lt' {x : Int} {a : Nat} (h : x.natAbs < 2 ^ a) : ∀ n : Nat, (x ^ n).natAbs ≤ 2 ^ (a * n)
  | 0 => by rw [Int.pow_zero, Nat.mul_zero]; decide
  | n + 1 => by
    rw [Int.pow_succ, Int.natAbs_mul, Nat.mul_succ, Nat.pow_add]
    exact Nat.mul_le_mul (pow_lt' h n) (Nat.le_of_lt h)
theorem dco_lt {p : List Int} (h9 : p.length ≤ 9) (hs : Sz 1000 p) {i : Nat} (hi : i ≤ 8) : (RcP.dco p i).natAbs < 2 ^ 8100 := by
  unfold RcP.dco
  by_cases c : i = 0
  · rw [if_pos c]; exact Nat.lt_of_lt_of_le (show 1 < 2 ^ 1 by decide) (Nat.pow_le_pow_right (by decide) (by decide))
  · rw [if_neg c, Int.natAbs_mul]
    refine Nat.lt_of_lt_of_le (Nat.mul_lt_mul_of_lt_of_le (hs.ic _) (pow_lt' hs.last (i - 1)) (Nat.pow_pos (by decide))) ?_
    rw [← Nat.pow_add]
    exact Nat.pow_le_pow_right (by decide) (by omega)
theorem isum_lt {f : Nat → Int} {X : Nat} : ∀ m : Nat, (∀ j, j < m → (f j).natAbs ≤ X) → (RcP.isumTo f m).natAbs ≤ m * X
  | 0, _ => by show (0 : Int).natAbs ≤ 0 * X; rw [Nat.zero_mul]; exact Nat.le_refl _
  | m + 1, h => by
    have h1 := isum_lt m fun j hj => h j (by omega)
    have h2 := h m (by omega)
    rw [RcP.isumTo, Nat.succ_mul]
    have := Int.natAbs_add_le (RcP.isumTo f m) (f m)
    omega
theorem sums_lt {p : List Int} (hn : p ≠ []) (h9 : p.length ≤ 9) (hs : Sz 1000 p) : ∀ k, k ≤ 14 → ∀ i, i ≤ k → ((RcP.isums p k).getD i 0).natAbs < 2 ^ (9000 * (i + 1)) := by
  intro k
  induction k with
  | zero =>
    intro _ i hi
    obtain rfl : i = 0 := by omega
    show (((p.length - 1 : Nat) : Int)).natAbs < _
    rw [Int.natAbs_natCast]
    exact Nat.lt_of_lt_of_le (show p.length - 1 < 2 ^ 4 by omega) (Nat.pow_le_pow_right (by decide) (by decide))
  | succ k ih =>
    intro hk i hi
    rw [RcP.isums, RcP.getD_snoc, RcP.isums_len]
    by_cases e : i < k + 1
    · rw [if_pos e]; exact ih (by omega) i (by omega)
    · obtain rfl : i = k + 1 := by omega
      rw [if_neg e, if_pos rfl, Int.natAbs_neg]
      have b1 : (RcP.isumTo (fun j => RcP.dco p (j + 1) * (RcP.isums p k).getD (k - j) 0) (min k (p.length - 1))).natAbs ≤ 2 ^ 3 * 2 ^ (8100 + 9000 * (k + 1)) := by
        refine Nat.le_trans (isum_lt _ fun j hj => ?_) (Nat.mul_le_mul_right _ (show min k (p.length - 1) ≤ 2 ^ 3 by omega))
        rw [Int.natAbs_mul, Nat.pow_add]
        refine Nat.mul_le_mul (Nat.le_of_lt (dco_lt h9 hs (by omega))) (Nat.le_of_lt (Nat.lt_of_lt_of_le (ih (by omega) (k - j) (by omega)) (Nat.pow_le_pow_right (by decide) (by omega))))
      have b2 : (if k + 1 ≤ p.length - 1 then ((k + 1 : Nat) : Int) * RcP.dco p (k + 1) else 0).natAbs ≤ 2 ^ 4 * 2 ^ (8100 + 9000 * (k + 1)) := by
        split
        · rw [Int.natAbs_mul, Int.natAbs_natCast]
          exact Nat.mul_le_mul (by omega) (Nat.le_trans (Nat.le_of_lt (dco_lt h9 hs (by omega))) (Nat.pow_le_pow_right (by decide) (by omega)))
        · exact Nat.zero_le _
      have b3 := Int.natAbs_add_le (if k + 1 ≤ p.length - 1 then ((k + 1 : Nat) : Int) * RcP.dco p (k + 1) else 0) (RcP.isumTo (fun j => RcP.dco p (j + 1) * (RcP.isums p k).getD (k - j) 0) (min k (p.length - 1)))
      have b4 : 2 ^ 5 * 2 ^ (8100 + 9000 * (k + 1)) ≤ 2 ^ (9000 * (k + 1 + 1)) := by
        rw [← Nat.pow_add]
        exact Nat.pow_le_pow_right (by decide) (by omega)
      have b5 : 0 < 2 ^ (8100 + 9000 * (k + 1)) := Nat.pow_pos (by decide)
      omega
section
variable {P : Program} {w : World} {K : PySem.W.Frag} {mg : Str → Option Value} {base : Heap}
/-! ### scaled_to_monic -/
abbrev sSm : Stmt := top 39
abbrev nSm : List Str := ["polynomial", "lead", "scale", "descending", "coefficient"]
theorem scSm : FnScope nSm ["polynomial"] (defScope sSm) := ⟨rfl, rfl, rfl, by decide +kernel, rfl, by decide +kernel, by decide +kernel⟩
def ides (p : List Int) : List Int := (List.range p.length).map (RcP.dco p)
theorem ides_len (p : List Int) : (ides p).length = p.length := by simp [ides]
theorem ides_get {p : List Int} {i : Nat} (h : i < p.length) : (ides p)[i]? = some (RcP.dco p i) := by
  unfold ides
  rw [List.getElem?_map, List.getElem?_range h]
  rfl
def spSm (K : PySem.W.Frag) : Sp := fun vs H Q _ => ∃ (a : Addr) (p : List Int), vs = [.ref a] ∧ SqL K H a (LI p) ∧ p ≠ [] ∧ p.length ≤ 9 ∧ Sz 1000 p ∧ RetL H Q (ides p)
theorem ok_sm {f : Addr} {fd : FuncData} (F : Fun K "scaled_to_monic" "scaled_to_monic" sSm f fd) (B : BI P mg base) : FnOk P w K mg base CX0 1 f fd ["polynomial"] (spSm K) := by
  refine F.ok scSm (fun vs H Q E h => ?_) (fun cdv A outer s H vs Q E hr h => ⟨_, pss_cons (ps_set (i := 1) scSm.nd rfl (Or.inl rfl) (pe_ix ix_list (pv 0) (pe_un un_neg pe_int) (fun _ _ => rfl)))
    (pss_cons (ps_set (i := 2) scSm.nd rfl (Or.inl rfl) pe_int)
    (pss_cons (ps_set (i := 3) scSm.nd rfl (Or.inl rfl) (pe_lst (pa_cons pe_int pa_nil)))
    (pss_cons (ps_for PassesOwn.never rfl (pi_reversed (by rfl) B.reversed (pa_cons (pe_slice sl_list (pv 0) po_none (po_some (pe_un un_neg pe_int))) pa_nil)) (pg_name (i := 4) scSm.nd rfl (Or.inl rfl))
      (pss_cons (ps_expr (pe_bm PySem.F.plainAttrs_list PySem.F.slot_list_append PySem.F.type_list_append mt_append (pv 3) (pa_cons (pe_op op_mulX (pv 4) (pv 2)) pa_nil)))
      (pss_one (ps_aug (i := 2) scSm.nd rfl (Or.inl rfl) (pv 1) ip_mulX))))
    (pss_one (ps_ret (pv 3)))))), ?_⟩)
  · obtain ⟨a, p, rfl, _⟩ := h
    rfl
  · obtain ⟨a, p, rfl, hS, hn, h9, hs, k⟩ := h
    have pl := List.length_pos_iff.mpr hn
    refine ⟨_, rfl, _, rfl, a, _, _, _, rfl, rfl, hS, li_last hn, ?_⟩
    refine ⟨by show 1 ≤ sizeLine; decide, fun l hl => ?_⟩
    have s1 := same_new (o := .lst [V.int 1]) hl
    refine ⟨_, rfl, _, rfl, _, rfl, a, _, rfl, s1.seq hS, fun u hu => ?_⟩
    rw [cutV_front]
    have ul : l ≠ u := ne_of_none upd_same hu
    have e0 : (LI p).dropLast = LI p.dropLast := by rw [← List.map_dropLast]
    rw [e0]
    have dl : (LI p.dropLast).length = p.length - 1 := by rw [li_len, List.length_dropLast]
    refine ⟨u, _, rfl, seq_lst upd_same, for_it (walk_rev (K := K) (a := u) (xs := LI p.dropLast)) (fun i σ H3 => ∃ s4 : Option V, σ = [some (.ref a), some (.int (ilast p)), some (.int (ilast p ^ i)), some (.ref l), s4] ∧ Same H H3 ∧ H3 l = some (.lst (LI ((ides p).take (i + 1)))) ∧ H3 u = some (.lst (LI p.dropLast)))
      ⟨none, by rw [Int.pow_zero]; rfl, s1.trans (same_new hu), ?_, upd_same⟩ (fun i σ H3 _ ⟨_, _, _, _, z⟩ => seq_lst z) ?_ ?_⟩
    · rw [upd_ne ul, upd_same]
      have : (ides p).take (0 + 1) = [1] := by
        have := take_more (ides_get (p := p) (i := 0) pl)
        rw [this]
        rfl
      rw [this]
      rfl
    · rintro i x σ H3 H4 hi ⟨s4, rfl, q1, q2, q3⟩ ⟨rfl, hx⟩
      obtain ⟨z, hz, rfl⟩ := li_get hx
      rw [dl] at hi hz
      have icz : z = ic p (p.length - 1 - (i + 1)) := by
        rw [List.getElem?_dropLast] at hz
        rw [if_pos (by omega)] at hz
        obtain ⟨h5, h6⟩ := List.getElem?_eq_some_iff.mp hz
        rw [← h6, ← ic_lt, show p.length - 1 - 1 - i = p.length - 1 - (i + 1) by omega]
      have zs : z.natAbs < 2 ^ 1000 := by rw [icz]; exact hs.ic _
      have ls := pow_lt' hs.last i
      have ls2 : (ilast p ^ i).natAbs < 2 ^ 8001 := Nat.lt_of_le_of_lt ls (Nat.pow_lt_pow_right (by decide) (by omega))
      refine ⟨_, rfl, .inl ⟨rfl, _, seq_lst q2⟩, _, rfl, _, rfl, _, _, rfl, rfl, mulx_ok zs ls2 (by decide), l, _, _, rfl, rfl, q2, small1000 (by rw [li_len, List.length_take, ides_len]; omega), ?_⟩
      refine ⟨_, rfl, _, rfl, _, _, rfl, rfl, mulx_ok ls2 hs.last (by decide), some (.int z), ?_, same_upd q1 hl, ?_, ?_⟩
      · rw [Int.pow_succ]
        rfl
      · have e := ides_get (p := p) (i := i + 1) (by omega)
        rw [upd_same, take_more e, li_snoc]
        have : RcP.dco p (i + 1) = z * ilast p ^ i := by
          unfold RcP.dco
          rw [if_neg (by omega), ← icz, Nat.add_sub_cancel]
        rw [this]
      · rw [upd_ne ul.symm]
        exact q3
    · rintro σ H3 ⟨s4, rfl, q1, q2, q3⟩
      rw [dl, List.take_of_length_le (by rw [ides_len]; omega)] at q2
      exact ⟨_, rfl, k H3 l q1 hl q2⟩
/-! ### scaled_power_sums -/
abbrev sSu : Stmt := top 40
abbrev nSu : List Str := ["polynomial", "max_power", "descending", "degree", "sums", "power", "total", "place"]
theorem scSu : FnScope nSu ["polynomial", "max_power"] (defScope sSu) := ⟨rfl, rfl, rfl, by decide +kernel, rfl, by decide +kernel, by decide +kernel⟩
def spSu (K : PySem.W.Frag) : Sp := fun vs H Q _ => ∃ (a : Addr) (p : List Int) (m : Int), vs = [.ref a, .int m] ∧ SqL K H a (LI p) ∧ p ≠ [] ∧ p.length ≤ 9 ∧ Sz 1000 p ∧ -2 ≤ m ∧ m ≤ 14 ∧ RetL H Q (RcP.isums p m.toNat)
theorem isums_get (p : List Int) : ∀ (k i : Nat), i ≤ k → (RcP.isums p k)[i]? = some ((RcP.isums p k).getD i 0) := fun k i h => by
  rw [List.getElem?_eq_getElem (by rw [RcP.isums_len]; omega), List.getD_eq_getElem?_getD, List.getElem?_eq_getElem (by rw [RcP.isums_len]; omega)]
  rfl
theorem first_ok {σ : L2.St} {H : Hp} {Q : VK} {d : Addr} {p : List Int} {i : Nat} (h5 : σ[5]? = some (some (.int (1 + (i : Int))))) (h3 : σ[3]? = some (some (.int ((p.length - 1 : Nat) : Int)))) (h2 : σ[2]? = some (some (.ref d))) (hS : SqL K H d (LI (ides p))) (h9 : p.length ≤ 9) (hs : Sz 1000 p) (pl : 0 < p.length) (hi : i ≤ 1000)
    (q : Q (.int (if i + 1 ≤ p.length - 1 then ((i + 1 : Nat) : Int) * RcP.dco p (i + 1) else 0)) H) :
    tIf (tTest (tOp (rI0 fun i j => V.bl (decide (i ≤ j))) (tVar 5) (tVar 3))) (tOp (rI CMulX fun i j => .int (i * j)) (tVar 5) (tOp (rIxL K) (tVar 2) (tVar 5))) (tC (V.int 0)) σ H Q := by
  refine ⟨_, h5, _, h3, _, _, rfl, rfl, _, rfl, ?_⟩
  by_cases c : i + 1 ≤ p.length - 1
  · rw [if_pos c] at q
    have at1 : atI (LI (ides p)) (1 + (i : Int)) = some (.int (RcP.dco p (i + 1))) := at_of (j := i + 1) (by omega) (by rw [List.getElem?_map, ides_get (by omega)]; rfl)
    have e : 1 + (i : Int) = ((i + 1 : Nat) : Int) := by omega
    refine if_true_of (by simp; omega) ⟨_, h5, _, h2, _, h5, d, _, _, _, rfl, rfl, hS, at1, _, _, rfl, rfl, mulx_ok (a := 20) (b := 8100) (by omega) (dco_lt h9 hs (by omega)) (by decide), ?_⟩
    dsimp only
    rw [e]
    exact q
  · rw [if_neg c] at q
    exact if_false_of (by simp; omega) q
theorem ok_su {f : Addr} {fd : FuncData} (F : Fun K "scaled_power_sums" "scaled_power_sums" sSu f fd) (B : BI P mg base) (D1 : Dn P w K mg base "scaled_to_monic" 1 ["polynomial"] (spSm K)) : FnOk P w K mg base CX0 2 f fd ["polynomial", "max_power"] (spSu K) := by
  refine F.ok scSu (fun vs H Q E h => ?_) (fun cdv A outer s H vs Q E hr h => ⟨_, pss_cons (ps_set (i := 2) scSu.nd rfl (Or.inl rfl) (pe_fn D1 hr (pa_cons (pv 0) pa_nil)))
    (pss_cons (ps_set (i := 3) scSu.nd rfl (Or.inl rfl) (pe_op op_sub (pe_callB call_len_seq (by rfl) B.len (by decide +kernel) (pa_cons (pv 2) pa_nil)) pe_int))
    (pss_cons (ps_set (i := 4) scSu.nd rfl (Or.inl rfl) (pe_lst (pa_cons (pv 3) pa_nil)))
    (pss_cons (ps_for PassesOwn.never rfl (pi_range2 (by rfl) B.range (pa_cons pe_int (pa_cons (pe_op op_add (pv 1) pe_int) pa_nil))) (pg_name (i := 5) scSu.nd rfl (Or.inl rfl))
      (pss_cons (ps_set (i := 6) scSu.nd rfl (Or.inl rfl) (pe_ifExp (pt_cmpR op_le (pv 5) (pv 3) (nomark _)) (pe_op op_mulX (pv 5) (pe_ix ix_list (pv 2) (pv 5) (fun _ _ => rfl))) pe_int))
      (pss_cons (ps_for PassesOwn.never rfl (pi_range2 (by rfl) B.range (pa_cons pe_int (pa_cons (pe_op op_add (pe_callB (call_min2 rfl) (by rfl) B.min (by decide +kernel) (pa_cons (pe_op op_sub (pv 5) pe_int) (pa_cons (pv 3) pa_nil))) pe_int) pa_nil))) (pg_name (i := 7) scSu.nd rfl (Or.inl rfl))
        (pss_one (ps_aug (i := 6) scSu.nd rfl (Or.inl rfl) (pe_op op_mulX (pe_ix ix_list (pv 2) (pv 7) (fun _ _ => rfl)) (pe_ix ix_list (pv 4) (pe_op op_sub (pv 5) (pv 7)) (fun _ _ => rfl))) ip_add)))
      (pss_one (ps_expr (pe_bm PySem.F.plainAttrs_list PySem.F.slot_list_append PySem.F.type_list_append mt_append (pv 4) (pa_cons (pe_un un_neg (pv 6)) pa_nil)))))))
    (pss_one (ps_ret (pv 4)))))), ?_⟩)
  · obtain ⟨a, p, m, rfl, _⟩ := h
    rfl
  · obtain ⟨a, p, m, rfl, hS, hn, h9, hs, hm0, hm1, k⟩ := h
    have pl := List.length_pos_iff.mpr hn
    refine ⟨_, rfl, a, p, rfl, hS, hn, h9, hs, fun H1 d s1 hd ed => ?_⟩
    refine ⟨_, rfl, d, _, rfl, .inl (seq_lst ed), _, _, rfl, rfl, ?_⟩
    rw [show (fun i j => V.int (i - j)) ((LI (ides p)).length : Int) 1 = V.int ((p.length - 1 : Nat) : Int) from congrArg V.int (by rw [li_len, ides_len]; omega)]
    refine ⟨_, rfl, by show 1 ≤ sizeLine; decide, fun l hl => ?_⟩
    have dl : d ≠ l := ne_of_none ed hl
    have Hl : H l = none := s1.free hl
    refine ⟨_, rfl, _, _, rfl, rfl, 1, m + 1, rfl, ⟨by omega, by omega, by omega, by omega⟩, for_range (lo := 1) (n := (m + 1 - 1).toNat) (fun i σ H3 => ∃ s5 s6 s7 : Option V, σ = [some (.ref a), some (.int m), some (.ref d), some (.int ((p.length - 1 : Nat) : Int)), some (.ref l), s5, s6, s7] ∧ Same H H3 ∧ H3 d = some (.lst (LI (ides p))) ∧ H3 l = some (.lst (LI (RcP.isums p i)))) ⟨none, none, none, rfl, s1.trans (same_new hl), by rw [upd_ne dl]; exact ed, by rw [upd_same]; rfl⟩ ?_ ?_⟩
    · rintro i σ H3 hi ⟨s5, s6, s7, rfl, q1, q2, q3⟩
      have sm := sums_lt hn h9 hs i (by omega)
      refine first_ok (K := K) (i := i) (d := d) (p := p) rfl rfl rfl (seq_lst q2) h9 hs pl (by omega) ?_
      generalize hT : (if i + 1 ≤ p.length - 1 then ((i + 1 : Nat) : Int) * RcP.dco p (i + 1) else 0) = T0
      have em : (if ((p.length - 1 : Nat) : Int) < (1 + (i : Int)) - 1 then ((p.length - 1 : Nat) : Int) else (1 + (i : Int)) - 1) = ((min i (p.length - 1) : Nat) : Int) := by split <;> omega
      refine ⟨_, rfl, _, _, rfl, rfl, _, rfl, _, _, rfl, _, _, congrArg V.int em, rfl, 1, ((min i (p.length - 1) : Nat) : Int) + 1, rfl, ⟨by omega, by omega, by omega, by omega⟩, for_range (lo := 1) (n := (((min i (p.length - 1) : Nat) : Int) + 1 - 1).toNat) (fun j σ H4 => ∃ s7 : Option V, σ = [some (.ref a), some (.int m), some (.ref d), some (.int ((p.length - 1 : Nat) : Int)), some (.ref l), some (.int (1 + (i : Int))), some (.int (T0 + RcP.isumTo (fun j => RcP.dco p (j + 1) * (RcP.isums p i).getD (i - j) 0) j)), s7] ∧ H4 = H3) ⟨s7, ?_, rfl⟩ ?_ ?_⟩
      · rw [show T0 + RcP.isumTo _ 0 = T0 from Int.add_zero T0]
        rfl
      · rintro j σ H4 hj ⟨t7, rfl, rfl⟩
        have hj2 : j < min i (p.length - 1) := by omega
        have d1 := dco_lt h9 hs (i := j + 1) (by omega)
        have d2 := Nat.lt_of_lt_of_le (sm (i - j) (by omega)) (Nat.pow_le_pow_right (n := 2) (by decide) (show 9000 * (i - j + 1) ≤ 150000 by omega))
        have at1 : atI (LI (ides p)) (1 + (j : Int)) = some (.int (RcP.dco p (j + 1))) := at_of (j := j + 1) (by omega) (by rw [List.getElem?_map, ides_get (by omega)]; rfl)
        have at2 : atI (LI (RcP.isums p i)) ((1 + (i : Int)) - (1 + (j : Int))) = some (.int ((RcP.isums p i).getD (i - j) 0)) := at_of (j := i - j) (by omega) (by rw [List.getElem?_map, isums_get p i (i - j) (by omega)]; rfl)
        refine ⟨_, rfl, _, rfl, _, rfl, d, _, _, _, rfl, rfl, seq_lst q2, at1, _, rfl, _, rfl, _, rfl, _, _, rfl, rfl, l, _, _, _, rfl, rfl, seq_lst q3, at2, _, _, rfl, rfl, mulx_ok d1 d2 (by decide), _, _, rfl, rfl, some (.int (1 + (j : Int))), ?_, rfl⟩
        rw [RcP.isumTo, ← Int.add_assoc]
        rfl
      · rintro σ H4 ⟨t7, rfl, rfl⟩
        rw [show (((min i (p.length - 1) : Nat) : Int) + 1 - 1).toNat = min i (p.length - 1) by omega]
        refine ⟨_, rfl, .inl ⟨rfl, _, seq_lst q3⟩, _, rfl, _, rfl, l, _, _, rfl, rfl, q3, small1000 (by rw [li_len, RcP.isums_len]; omega), some (.int (1 + (i : Int))), _, t7, rfl, same_upd q1 Hl, by rw [upd_ne dl]; exact q2, ?_⟩
        rw [upd_same, RcP.isums, hT, li_snoc]
    · rintro σ H3 ⟨s5, s6, s7, rfl, q1, q2, q3⟩
      rw [show (m + 1 - 1).toNat = m.toNat by omega] at q3
      exact ⟨_, rfl, k H3 l q1 Hl q3⟩
end
end Rc

/-! ## Jf -/
set_option maxHeartbeats 2000000
namespace Rc
open PySem PySem.Spec PyProof.Rows L2 RcF RcG RcH RcI RcJ RcK
theorem sz_ipos {b : Nat} {p : List Int} (h : Sz b p) : Sz b (RcR.ipos p) := by
  unfold RcR.ipos
  split
  · exact h
  · intro x hx
    obtain ⟨z, hz, rfl⟩ := List.mem_map.mp hx
    rw [Int.natAbs_neg]
    exact h z hz
section
variable {P : Program} {w : World} {K : PySem.W.Frag} {mg : Str → Option Value} {base : Heap}
/-! ### power_sum_fractions -/
abbrev sPf : Stmt := top 41
abbrev nPf : List Str := ["polynomial", "max_power", "fractions", "scale", "total"]
theorem scPf : FnScope nPf ["polynomial", "max_power"] (defScope sPf) := ⟨rfl, rfl, rfl, by decide +kernel, rfl, by decide +kernel, by decide +kernel⟩
def spPf : Sp := fun vs H Q _ => ∃ (a : Addr) (q : List Rat) (m : Int), vs = [.ref a, .int m] ∧ H a = some (.lst (LI (wm q))) ∧ Small q ∧ q ≠ [] ∧ 0 ≤ m ∧ m ≤ 12 ∧ RetP H Q (Kqg1.powerSums q m.toNat)
theorem ok_pf {f : Addr} {fd : FuncData} (F : Fun K "power_sum_fractions" "power_sum_fractions" sPf f fd) (D1 : Dn P w K mg base "with_positive_lead" 1 ["polynomial"] spWp) (D2 : Dn P w K mg base "scaled_power_sums" 2 ["polynomial", "max_power"] (spSu K))
    (D3 : Dn P w K mg base "lowest_terms" 42 ["numerator", "denominator"] spLt) : FnOk P w K mg base CX0 43 f fd ["polynomial", "max_power"] spPf := by
  refine F.ok scPf (fun vs H Q E h => ?_) (fun cdv A outer s H vs Q E hr h => ⟨_, pss_cons (ps_set (i := 0) scPf.nd rfl (Or.inl rfl) (pe_fn D1 (hr.mono (by decide)) (pa_cons (pv 0) pa_nil)))
    (pss_cons (ps_set (i := 2) scPf.nd rfl (Or.inl rfl) (pe_lst pa_nil))
    (pss_cons (ps_set (i := 3) scPf.nd rfl (Or.inl rfl) pe_int)
    (pss_cons (ps_for PassesOwn.never rfl (pi_list (pe_fn D2 (hr.mono (by decide)) (pa_cons (pv 0) (pa_cons (pv 1) pa_nil)))) (pg_name (i := 4) scPf.nd rfl (Or.inl rfl))
      (pss_cons (ps_expr (pe_bm PySem.F.plainAttrs_list PySem.F.slot_list_append PySem.F.type_list_append mt_append (pv 2) (pa_cons (pe_fn D3 hr (pa_cons (pv 4) (pa_cons (pv 3) pa_nil))) pa_nil)))
      (pss_one (ps_aug (i := 3) scPf.nd rfl (Or.inl rfl) (pe_ix ix_list (pv 0) (pe_un un_neg pe_int) (fun _ _ => rfl)) ip_mulX))))
    (pss_one (ps_ret (pv 2)))))), ?_⟩)
  · obtain ⟨a, q, m, rfl, _⟩ := h
    rfl
  · obtain ⟨a, q, m, rfl, hS, hs, hn, hm0, hm1, k⟩ := h
    have r0 := rl_wm hs.1
    have wn : wm q ≠ [] := fun z => hn (r0.nil.mp z)
    obtain ⟨⟨e, rp⟩, lp, pn, pl⟩ := RcR.rl_pos r0 wn
    have l9 : (RcR.ipos (wm q)).length ≤ 9 := by rw [pl, wm_len]; exact hs.2.1
    have sp := sz_ipos (sz_wm hs)
    have fr := RcP.fracs_is rp pn m.toNat
    refine ⟨_, rfl, a, wm q, rfl, hS, wn, by rw [wm_len]; have := hs.2.1; omega, fun H1 r s1 er => ?_⟩
    generalize hP : RcR.ipos (wm q) = p at *
    refine ⟨by show 0 ≤ sizeLine; exact Nat.zero_le _, fun D hD => ?_⟩
    have s2 := same_new (o := .lst ([] : List V)) hD
    have rD : r ≠ D := ne_of_none er hD
    have HD : H D = none := s1.free hD
    refine ⟨_, rfl, _, rfl, r, p, m, rfl, seq_lst (s2 _ _ er), pn, l9, sp, by omega, by omega, fun H2 u s3 hu eu => ?_⟩
    have uD : u ≠ D := fun z => by
      rw [z, upd_same] at hu
      cases hu
    refine ⟨u, rfl, ⟨_, seq_lst eu⟩, for_list (K := K) (a := u) (xs := LI (RcP.isums p m.toNat)) (fun i σ H3 => ∃ (rs : List Addr) (s4 : Option V), σ = [some (.ref r), some (.int m), some (.ref D), some (.int (ilast p ^ i)), s4] ∧ H3 D = some (.lst (RI rs)) ∧ Frs H3 rs ((Kqg1.powerSums q m.toNat).take i) ∧ Same H H3 ∧ H3 r = some (.lst (LI p)) ∧ H3 u = some (.lst (LI (RcP.isums p m.toNat))))
      ⟨[], none, ?_, s3 _ _ upd_same, True.intro, (s1.trans s2).trans s3, s3 _ _ (s2 _ _ er), eu⟩ (fun i σ H3 _ ⟨_, _, _, _, _, _, _, z⟩ => seq_lst z) ?_ ?_⟩
    · rw [Int.pow_zero]
      rfl
    · rintro i x σ H3 hi ⟨rs, s4, rfl, q1, q2, q3, q4, q5⟩
      obtain ⟨z, hz, rfl⟩ := li_get hi
      have hi2 : i < m.toNat + 1 := by
        have := (List.getElem?_eq_some_iff.mp hz).1
        rw [RcP.isums_len] at this
        exact this
      have lpow : 0 < ilast p ^ i := Int.pow_pos lp
      have el : (Kqg1.powerSums q m.toNat)[i]? = some ((z : Rat) / ((ilast p ^ i : Int) : Rat)) := by
        rw [← fr, List.getElem?_map, List.getElem?_range hi2]
        show some ((((RcP.isums p m.toNat).getD i 0 : Int) : Rat) / _) = _
        rw [List.getD_eq_getElem?_getD, hz]
        rfl
      refine ⟨_, rfl, .inl ⟨rfl, _, seq_lst q1⟩, _, rfl, _, rfl, z, ilast p ^ i, rfl, lpow, fun t ht => ?_⟩
      have nD : D ≠ t := ne_of_none q1 ht
      have nr : r ≠ t := ne_of_none q4 ht
      have nu : u ≠ t := ne_of_none q5 ht
      refine ⟨D, _, _, rfl, rfl, by rw [upd_ne nD]; exact q1, small1000 (by rw [ri_len, q2.len, List.length_take]; omega), ?_⟩
      have r1 : (upd (upd H3 t (.tup (FR ((z : Rat) / ((ilast p ^ i : Int) : Rat))))) D (.lst (RI rs ++ [V.ref t]))) r = some (.lst (LI p)) := by rw [upd_ne rD, upd_ne nr]; exact q4
      refine ⟨_, rfl, _, rfl, _, rfl, r, _, _, _, rfl, rfl, seq_lst r1, li_last pn, _, _, rfl, rfl, ?_, rs ++ [t], some (.int z), ?_, by rw [upd_same, ri_snoc], ?_, same_upd (q3.trans (same_new ht)) HD, r1, by rw [upd_ne uD, upd_ne nu]; exact q5⟩
      · have ls := pow_lt' sp.last i
        exact mulx_ok (a := 13001) (b := 1000) (Nat.lt_of_le_of_lt ls (Nat.pow_lt_pow_right (by decide) (by omega))) sp.last (by decide)
      · rw [Int.pow_succ]
        rfl
      · rw [take_more el]
        refine Frs.snoc (by rw [upd_ne nD.symm, upd_same]) (q2.keep fun b xs e => ?_)
        have bD : b ≠ D := fun z => by
          rw [z, q1] at e
          cases e
        rw [upd_ne bD, upd_ne (ne_of_none e ht)]
        exact e
    · rintro σ H3 ⟨rs, s4, rfl, q1, q2, q3, q4, q5⟩
      rw [li_len, RcP.isums_len, List.take_of_length_le (by rw [RcP.psums_len]; exact Nat.le_refl _)] at q2
      exact ⟨_, rfl, k H3 D q3 HD ⟨rs, q1, q2⟩⟩
/-! ### newton_holds, violated_index -/
abbrev sNh : Stmt := top 51
abbrev nNh : List Str := ["polynomial", "k", "degree", "left", "right"]
theorem scNh : FnScope nNh ["polynomial", "k"] (defScope sNh) := ⟨rfl, rfl, rfl, by decide +kernel, rfl, by decide +kernel, by decide +kernel⟩
def spNh (K : PySem.W.Frag) : Sp := fun vs H Q _ => ∃ (a : Addr) (p : List Int) (k : Nat), vs = [.ref a, .int (k : Int)] ∧ SqL K H a (LI p) ∧ 1 ≤ k ∧ k + 1 < p.length ∧ p.length ≤ 9 ∧ Sz 1000 p ∧ Q (.bl (RcP.newt p k)) H
theorem ok_nh {f : Addr} {fd : FuncData} (F : Fun K "newton_holds" "newton_holds" sNh f fd) (B : BI P mg base) : FnOk P w K mg base CX0 1 f fd ["polynomial", "k"] (spNh K) := by
  refine F.ok scNh (fun vs H Q E h => ?_) (fun cdv A outer s H vs Q E hr h => ⟨_, pss_cons (ps_set (i := 2) scNh.nd rfl (Or.inl rfl) (pe_op op_sub (pe_callB call_len_seq (by rfl) B.len (by decide +kernel) (pa_cons (pv 0) pa_nil)) pe_int))
    (pss_cons (ps_set (i := 3) scNh.nd rfl (Or.inl rfl) (pe_op op_mulX (pe_op op_mulX (pe_op op_mulX (pe_ix ix_list (pv 0) (pe_op op_sub (pv 1) pe_int) (fun _ _ => rfl)) (pe_ix ix_list (pv 0) (pe_op op_add (pv 1) pe_int) (fun _ _ => rfl))) (pe_op op_add (pv 1) pe_int)) (pe_op op_add (pe_op op_sub (pv 2) (pv 1)) pe_int)))
    (pss_cons (ps_set (i := 4) scNh.nd rfl (Or.inl rfl) (pe_op op_mulX (pe_op op_mulX (pe_op op_mulX (pe_ix ix_list (pv 0) (pv 1) (fun _ _ => rfl)) (pe_ix ix_list (pv 0) (pv 1) (fun _ _ => rfl))) (pv 1)) (pe_op op_sub (pv 2) (pv 1))))
    (pss_one (ps_ret (pe_cmpR op_le (pv 3) (pv 4) (nomark _)))))), ?_⟩)
  · obtain ⟨a, p, k, rfl, _⟩ := h
    rfl
  · obtain ⟨a, p, k, rfl, hS, h1, h2, h9, hs, kk⟩ := h
    have n9 : ∀ {x : Int}, 0 ≤ x → x ≤ 20 → x.natAbs < 2 ^ 10 := fun h1 h2 => by
      refine Nat.lt_of_le_of_lt (show _ ≤ 20 by omega) (by decide)
    have at0 : atI (LI p) ((k : Int) - 1) = some (.int (ic p (k - 1))) := at_of (j := k - 1) (by omega) (li_get' (by omega))
    have at1 : atI (LI p) ((k : Int) + 1) = some (.int (ic p (k + 1))) := at_of (j := k + 1) (by omega) (li_get' (by omega))
    have at2 : atI (LI p) (k : Int) = some (.int (ic p k)) := at_of (j := k) (by omega) (li_get' (by omega))
    have m1 := mul_lt (hs.ic (k - 1)) (hs.ic (k + 1))
    have m2 := mul_lt m1 (n9 (x := (k : Int) + 1) (by omega) (by omega))
    have m3 := mul_lt (hs.ic k) (hs.ic k)
    have m4 := mul_lt m3 (n9 (x := (k : Int)) (by omega) (by omega))
    refine ⟨_, rfl, a, _, rfl, .inl hS, _, _, rfl, rfl, ?_⟩
    refine ⟨_, rfl, _, rfl, _, _, rfl, rfl, a, _, _, _, rfl, rfl, hS, at0, _, rfl, _, rfl, _, _, rfl, rfl, a, _, _, _, rfl, rfl, hS, at1, _, _, rfl, rfl, mulx_ok (hs.ic _) (hs.ic _) (by decide), _, rfl, _, _, rfl, rfl, _, _, rfl, rfl, mulx_ok m1 (n9 (by omega) (by omega)) (by decide), _, rfl, _, rfl, _, _, rfl, rfl, _, _, rfl, rfl, _, _, rfl, rfl, mulx_ok m2 (n9 (by rw [li_len]; omega) (by rw [li_len]; omega)) (by decide), ?_⟩
    refine ⟨_, rfl, _, rfl, a, _, _, _, rfl, rfl, hS, at2, _, rfl, _, rfl, a, _, _, _, rfl, rfl, hS, at2, _, _, rfl, rfl, mulx_ok (hs.ic _) (hs.ic _) (by decide), _, rfl, _, _, rfl, rfl, mulx_ok m3 (n9 (by omega) (by omega)) (by decide), _, rfl, _, rfl, _, _, rfl, rfl, _, _, rfl, rfl, mulx_ok m4 (n9 (by rw [li_len]; omega) (by rw [li_len]; omega)) (by decide), ?_⟩
    refine ⟨_, rfl, _, rfl, _, _, rfl, rfl, ?_⟩
    have e1 : (((LI p).length : Int) - 1 - (k : Int) + 1) = ((p.length - 1 - k + 1 : Nat) : Int) := by rw [li_len]; omega
    have e2 : (((LI p).length : Int) - 1 - (k : Int)) = ((p.length - 1 - k : Nat) : Int) := by rw [li_len]; omega
    have e3 : (k : Int) + 1 = ((k + 1 : Nat) : Int) := by omega
    dsimp only
    rw [e1, e2, e3]
    exact kk
abbrev sVi : Stmt := top 52
theorem scVi : FnScope ["polynomial", "k"] ["polynomial"] (defScope sVi) := ⟨rfl, rfl, rfl, by decide +kernel, rfl, by decide +kernel, by decide +kernel⟩
def iviol (p : List Int) : Int := match (List.range (p.length - 1)).find? fun k => decide (1 ≤ k) && !(RcP.newt p k) with
  | none => 0
  | some k => (k : Int)
def spVi (K : PySem.W.Frag) : Sp := fun vs H Q _ => ∃ (a : Addr) (p : List Int), vs = [.ref a] ∧ SqL K H a (LI p) ∧ p.length ≤ 9 ∧ Sz 1000 p ∧ Q (.int (iviol p)) H
theorem ok_vi {f : Addr} {fd : FuncData} (F : Fun K "violated_index" "violated_index" sVi f fd) (B : BI P mg base) (D1 : Dn P w K mg base "newton_holds" 1 ["polynomial", "k"] (spNh K)) : FnOk P w K mg base CX0 2 f fd ["polynomial"] (spVi K) := by
  refine F.ok scVi (fun vs H Q E h => ?_) (fun cdv A outer s H vs Q E hr h => ⟨_, pss_cons (ps_for PassesOwn.never rfl (pi_range2 (by rfl) B.range (pa_cons pe_int (pa_cons (pe_op op_sub (pe_callB call_len_seq (by rfl) B.len (by decide +kernel) (pa_cons (pv 0) pa_nil)) pe_int) pa_nil))) (pg_name (i := 1) scVi.nd rfl (Or.inl rfl))
      (pss_one (ps_if (pt_not (pt_val (pe_fn D1 hr (pa_cons (pv 0) (pa_cons (pv 1) pa_nil))))) (pss_one (ps_ret (pv 1))) pss_nil)))
    (pss_one (ps_ret pe_int)), ?_⟩)
  · obtain ⟨a, p, rfl, _⟩ := h
    rfl
  · obtain ⟨a, p, rfl, hS, h9, hs, kk⟩ := h
    have ll : ((LI p).length : Int) = (p.length : Int) := by rw [li_len]
    refine ⟨_, rfl, a, _, rfl, .inl hS, _, _, rfl, rfl, 1, ((LI p).length : Int) - 1, rfl, ⟨by omega, by omega, by omega, by omega⟩, for_range (lo := 1) (n := (((LI p).length : Int) - 1 - 1).toNat) (fun i σ H3 => ∃ s1 : Option V, σ = [some (.ref a), s1] ∧ H3 = H ∧ ∀ j, 1 ≤ j → j < i + 1 → RcP.newt p j = true) ⟨none, rfl, rfl, fun j h1 h2 => by omega⟩ ?_ ?_⟩
    · rintro i σ H3 hi ⟨s1, rfl, rfl, q⟩
      have e1 : (1 : Int) + (i : Int) = ((1 + i : Nat) : Int) := by omega
      refine ⟨_, rfl, _, rfl, a, p, 1 + i, by rw [← e1]; rfl, hS, by omega, by omega, h9, hs, _, rfl, ?_⟩
      by_cases c : RcP.newt p (1 + i) = true
      · refine if_false_of (by rw [c]; rfl) ⟨_, rfl, rfl, fun j h1 h2 => ?_⟩
        by_cases e : j = 1 + i
        · rw [e]; exact c
        · exact q j h1 (by omega)
      · have c : RcP.newt p (1 + i) = false := by simpa using c
        refine if_true_of (by rw [c]; rfl) ⟨_, rfl, ?_⟩
        have : iviol p = (1 : Int) + (i : Int) := by
          unfold iviol
          have f : (List.range (p.length - 1)).find? (fun k => decide (1 ≤ k) && !(RcP.newt p k)) = some (1 + i) := by
            refine List.find?_range_eq_some.mpr ⟨by rw [c]; simp, List.mem_range.mpr (by omega), fun j hj => ?_⟩
            by_cases j1 : 1 ≤ j
            · rw [q j j1 (by omega)]; simp
            · simp; omega
          rw [f]
          show ((1 + i : Nat) : Int) = _
          omega
        rw [← this]
        exact kk
    · rintro σ H3 ⟨s1, rfl, rfl, q⟩
      have : iviol p = 0 := by
        unfold iviol
        have f : (List.range (p.length - 1)).find? (fun k => decide (1 ≤ k) && !(RcP.newt p k)) = none := by
          refine List.find?_range_eq_none.mpr fun j hj => ?_
          by_cases j1 : 1 ≤ j
          · rw [q j j1 (by omega)]; simp
          · simp; omega
        rw [f]
      rw [this] at kk
      exact kk
end
end Rc

/-! ## Jg -/
set_option maxHeartbeats 2000000
namespace Rc
open PySem PySem.Spec PyProof.Rows L2 RcF RcG RcH RcI RcJ RcK
/-! ### any of a list of whole numbers -/
def rAnyI (K : PySem.W.Frag) : List V → Hp → VK → Prop := fun vs H Q => ∃ (a : Addr) (ns : List Int), vs = [.ref a] ∧ SqL K H a (ns.map V.int) ∧ Q (.bl (ns.any fun n => n != 0)) H
theorem any_range (ns : List Int) : ((List.range ns.length).any fun i => ns.getD i 0 != 0) = ns.any fun n => n != 0 := by
  rw [Bool.eq_iff_iff, List.any_eq_true, List.any_eq_true]
  constructor
  · rintro ⟨i, hi, h⟩
    have hi := List.mem_range.mp hi
    refine ⟨ns[i], List.getElem_mem hi, ?_⟩
    rwa [List.getD_eq_getElem?_getD, List.getElem?_eq_getElem hi] at h
  · rintro ⟨x, hx, h⟩
    obtain ⟨i, hi, rfl⟩ := List.getElem_of_mem hx
    refine ⟨i, List.mem_range.mpr hi, ?_⟩
    rw [List.getD_eq_getElem?_getD, List.getElem?_eq_getElem hi]
    exact h
theorem vals_get : ∀ {vs : List V} {us : List Value} {i : Nat} {u : Value}, Vals vs us → us[i]? = some u → ∃ v, vs[i]? = some v ∧ RelV v u := by
  intro vs us i u h e
  induction h generalizing i with
  | nil => simp at e
  | cons r _ ih =>
    cases i with
    | zero => exact ⟨_, rfl, by simp at e; rw [← e]; exact r⟩
    | succ i => exact ih (by simpa using e)
theorem cr_anyI {X : Cx} (hc : X.calm = true) : CallR X (.builtin "any") (rAnyI X.K) := by
  intro pins s σ H vs us Q I r h
  obtain ⟨a, ns, rfl, hs, q⟩ := h
  obtain ⟨its, rv, hl, hlen⟩ := I.list hs
  rw [Vals.ref1 r]
  have ln : its.toArray.size = ns.length := by
    have := Paired.length rv
    simp at this ⊢
    omega
  refine call_any_walk (iter_any (PlainL.isList hl) fun s₂ e2 st hne => ?_)
  subst e2
  refine ⟨s.heap.objs.size, [s.heap.objs.size, a], [s.heap.objs.size], its.toArray.size, fun i v => its.toArray[i]? = some v, fun i h => h.IsListIter s.heap.objs.size a i ∧ h.IsList a its.toArray, fun i => ns.getD i 0 != 0, rfl, Walks.list (A := X.A.in1) (I.ok.hd hc) s.heap.objs.size a hne its.toArray, st, ?_, fun h' tk hk => ⟨.bl (ns.any fun n => n != 0), H, I.kept fun b o eo => hk b o (fun hmem => ?_) (Heap.get?_push_of_some _ eo), ?_, q⟩⟩
  · intro i v s Q E hv hq
    obtain ⟨x, hx, rx⟩ := vals_get rv (by simpa using hv)
    obtain ⟨z, hz, rfl⟩ := li_get hx
    obtain ⟨t, rfl⟩ := rx
    have e : ns.getD i 0 = z := by rw [List.getD_eq_getElem?_getD, hz]; rfl
    refine PySem.P.truthy_int ?_
    rw [← e]
    exact hq
  · obtain rfl := List.mem_singleton.mp hmem
    exact absurd (Heap.lt_size eo) (Nat.lt_irrefl _)
  · rw [ln, any_range]
    rfl
end Rc

/-! ## Jh -/
set_option maxHeartbeats 2000000
namespace Rc
open PySem PySem.Spec PyProof.Rows L2 RcF RcG RcH RcI RcJ RcK
/-! ### matrices -/
abbrev IM := RcS.IMat
def rowOf (n : Nat) (N : IM) (r : Nat) : List Int := (List.range n).map (N r)
def rowsOf (n : Nat) (N : IM) : List (List Int) := (List.range n).map (rowOf n N)
theorem rowOf_len (n : Nat) (N : IM) (r : Nat) : (rowOf n N r).length = n := by simp [rowOf]
theorem rowsOf_len (n : Nat) (N : IM) : (rowsOf n N).length = n := by simp [rowsOf]
theorem rowsOf_get {n : Nat} {N : IM} {r : Nat} (h : r < n) : (rowsOf n N)[r]? = some (rowOf n N r) := by
  unfold rowsOf
  rw [List.getElem?_map, List.getElem?_range h]
  rfl
theorem rowOf_get {n : Nat} {N : IM} {r c : Nat} (h : c < n) : (rowOf n N r)[c]? = some (N r c) := by
  unfold rowOf
  rw [List.getElem?_map, List.getElem?_range h]
  rfl
theorem rowsOf_same {n : Nat} {N M : IM} (h : ∀ r c, r < n → c < n → N r c = M r c) : rowsOf n N = rowsOf n M :=
  List.map_congr_left fun r hr => List.map_congr_left fun c hc => h r c (List.mem_range.mp hr) (List.mem_range.mp hc)
def MatAt (H : Hp) (a : Addr) (n : Nat) (N : IM) : Prop := ∃ rs, H a = some (.lst (RI rs)) ∧ Lists H rs (rowsOf n N)
theorem MatAt.same {H H1 : Hp} {a : Addr} {n : Nat} {N : IM} (h : MatAt H a n N) (k : Same H H1) : MatAt H1 a n N := by
  obtain ⟨rs, h1, h2⟩ := h
  exact ⟨rs, k _ _ h1, h2.keep fun b xs e => k b _ e⟩
/-- a new matrix is handed back -/
def RetM (H : Hp) (Q : VK) (n : Nat) (N : IM) : Prop := ∀ (H' : Hp) (l : Addr), Same H H' → H l = none → MatAt H' l n N → Q (.ref l) H'
/-- a row's place -/
theorem MatAt.row {H : Hp} {a : Addr} {n : Nat} {N : IM} (h : MatAt H a n N) {r : Nat} (hr : r < n) : ∃ rs ra, H a = some (.lst (RI rs)) ∧ rs.length = n ∧ (RI rs)[r]? = some (.ref ra) ∧ H ra = some (.lst (LI (rowOf n N r))) := by
  obtain ⟨rs, h1, h2⟩ := h
  have hl := h2.len
  rw [rowsOf_len] at hl
  have e : rs[r]? = some (rs[r]'(by omega)) := List.getElem?_eq_getElem (by omega)
  obtain ⟨p, hp, ep⟩ := h2.get e
  rw [rowsOf_get hr] at hp
  obtain rfl := Option.some.inj hp
  exact ⟨rs, _, h1, hl, by rw [List.getElem?_map, e]; rfl, ep⟩
theorem MatAt.len {H : Hp} {a : Addr} {n : Nat} {N : IM} (h : MatAt H a n N) : ∃ rs, H a = some (.lst (RI rs)) ∧ (RI rs).length = n := by
  obtain ⟨rs, h1, h2⟩ := h
  have hl := h2.len
  rw [rowsOf_len] at hl
  exact ⟨rs, h1, by rw [ri_len]; exact hl⟩
theorem lists_grow {H2 H3 : Hp} {D r : Addr} {rs : List Addr} {ps : List (List Int)} {p : List Int} {o : HO} (q : Lists H2 rs ps) (nd : ∀ r ∈ rs, r ≠ D) (s : Same H2 H3) (hr : H3 r = some (.lst (LI p))) (rD : r ≠ D) : Lists (upd H3 D o) (rs ++ [r]) (ps ++ [p]) :=
  Lists.snoc (by rw [upd_ne rD]; exact hr) (q.same fun x hx o ho => by rw [upd_ne (nd x hx)]; exact s _ _ ho)
theorem grow_ne {D r : Addr} {rs : List Addr} (nd : ∀ r ∈ rs, r ≠ D) (rD : r ≠ D) : ∀ x ∈ rs ++ [r], x ≠ D := by
  intro x hx
  rcases List.mem_append.mp hx with hx | hx
  · exact nd x hx
  · obtain rfl := List.mem_singleton.mp hx
    exact rD
theorem cutV_mid (xs : List V) {i j : Nat} (h : i ≤ j) (hj : j ≤ xs.length) : cutV xs (some (i : Int)) (some (j : Int)) = (xs.drop i).take (j - i) := by
  unfold cutV
  rw [HT.sIx_nat, HT.sIx_nat, Nat.min_eq_left (show i ≤ xs.length by omega), Nat.min_eq_left hj]
section
variable {P : Program} {w : World} {K : PySem.W.Frag} {mg : Str → Option Value} {base : Heap}
/-! ### hermite_matrix -/
abbrev sHm : Stmt := top 43
abbrev nHm : List Str := ["polynomial", "size", "sums", "row"]
theorem scHm : FnScope nHm ["polynomial"] (defScope sHm) := ⟨rfl, rfl, rfl, by decide +kernel, rfl, by decide +kernel, by decide +kernel⟩
def iherm (p : List Int) : IM := fun r c => (RcP.isums p (2 * (p.length - 1) - 2)).getD (r + c) 0
def spHm (K : PySem.W.Frag) : Sp := fun vs H Q _ => ∃ (a : Addr) (p : List Int), vs = [.ref a] ∧ SqL K H a (LI p) ∧ p ≠ [] ∧ p.length ≤ 9 ∧ Sz 1000 p ∧ RetM H Q (p.length - 1) (iherm p)
theorem herm_row {p : List Int} {r : Nat} (hr : r < p.length - 1) : ((RcP.isums p (2 * (p.length - 1) - 2)).drop r).take (p.length - 1) = rowOf (p.length - 1) (iherm p) r := by
  refine List.ext_getElem? fun c => ?_
  by_cases hc : c < p.length - 1
  · rw [rowOf_get hc, List.getElem?_take_of_lt hc, List.getElem?_drop, isums_get p _ (r + c) (by omega)]
    rfl
  · rw [List.getElem?_eq_none (by rw [List.length_take]; omega), List.getElem?_eq_none (by rw [rowOf_len]; omega)]
theorem ok_hm {f : Addr} {fd : FuncData} (F : Fun K "hermite_matrix" "hermite_matrix" sHm f fd) (B : BI P mg base) (D1 : Dn P w K mg base "scaled_power_sums" 2 ["polynomial", "max_power"] (spSu K)) : FnOk P w K mg base CX0 3 f fd ["polynomial"] (spHm K) := by
  refine F.ok scHm (fun vs H Q E h => ?_) (fun cdv A outer s H vs Q E hr h => ⟨_, pss_cons (ps_set (i := 1) scHm.nd rfl (Or.inr rfl) (pe_op op_sub (pe_callB call_len_seq (by rfl) B.len (by decide +kernel) (pa_cons (pv 0) pa_nil)) pe_int))
    (pss_cons (ps_set (i := 2) scHm.nd rfl (Or.inr rfl) (pe_fn D1 hr (pa_cons (pv 0) (pa_cons (pe_op op_sub (pe_op op_mulX pe_int (pv 1)) pe_int) pa_nil))))
    (pss_one (ps_ret (pe_lc (own := [("row", 3)]) (g := gName 3) (tt := tYes) rfl scHm.nd (pi_range1 (by rfl) B.range (pa_cons (pv 1) pa_nil)) (blkOk_by (N := nHm) (sc := defScope sHm) (by decide +kernel))
        (fun _ _ _ _ _ => pg_name (i := 3) scHm.nd rfl (Or.inl rfl)) (fun _ _ _ _ _ => pts_nil) (fun _ _ _ _ _ => pe_slice (r := rSlL K) sl_list (pv 2) (po_some (pv 3)) (po_some (pe_op op_add (pv 3) (pv 1)))))))), ?_⟩)
  · obtain ⟨a, p, rfl, _⟩ := h
    rfl
  · obtain ⟨a, p, rfl, hS, hn, h9, hs, k⟩ := h
    have pl := List.length_pos_iff.mpr hn
    refine ⟨_, rfl, a, _, rfl, .inl hS, _, _, rfl, rfl, ?_⟩
    rw [show (fun i j => V.int (i - j)) ((LI p).length : Int) 1 = V.int ((p.length - 1 : Nat) : Int) from congrArg V.int (by rw [li_len]; omega)]
    generalize hN : p.length - 1 = n at *
    have n8 : n ≤ 8 := by omega
    refine ⟨_, rfl, _, rfl, _, _, rfl, rfl, mulx_ok (a := 10) (b := 10) (by decide) (by rw [Int.natAbs_natCast]; exact Nat.lt_of_le_of_lt n8 (by decide)) (by decide), _, _, rfl, rfl, ?_⟩
    refine ⟨a, p, 2 * (n : Int) - 2, rfl, hS, hn, h9, hs, by omega, by omega, fun H1 u s1 hu eu => ?_⟩
    have em : (2 * (n : Int) - 2).toNat = 2 * n - 2 := by omega
    rw [em] at eu
    refine ⟨_, rfl, (n : Int), rfl, by omega, by omega, fun D hD => lc_it walk_range (fun i H2 => ∃ rs : List Addr, H2 D = some (.lst (RI rs)) ∧ Lists H2 rs ((rowsOf n (iherm p)).take i) ∧ (∀ r ∈ rs, r ≠ D) ∧ Same H1 H2) ⟨[], upd_same, True.intro, (fun r hr => by simp at hr), same_new hD⟩ (fun _ _ _ _ => True.intro) ?_ ?_⟩
    · rintro i x H2 H3 hi ⟨rs, q1, q2, q3, q4⟩ ⟨rfl, rfl⟩
      have hi : i < n := by omega
      refine ⟨rfl, ?_⟩
      have e0 : (0 : Int) + (i : Int) = (i : Int) := Int.zero_add _
      refine ⟨_, rfl, _, rfl, (i : Int), congrArg V.int e0, _, rfl, _, rfl, _, _, rfl, rfl, ((i + n : Nat) : Int), congrArg V.int (by omega), u, _, rfl, seq_lst (q4 _ _ eu), fun t ht => ?_⟩
      have tD : t ≠ D := fun z => by
        rw [z, q1] at ht
        cases ht
      have row : cutV (LI (RcP.isums p (2 * n - 2))) (some (i : Int)) (some ((i + n : Nat) : Int)) = LI (rowOf n (iherm p) i) := by
        rw [cutV_mid _ (by omega) (by rw [li_len, RcP.isums_len]; omega), ← List.map_drop, ← List.map_take, show i + n - i = n by omega]
        have := herm_row (p := p) (r := i) (by omega)
        rw [hN] at this
        rw [this]
      rw [row]
      have len : rs.length ≤ i := by rw [q2.len, List.length_take]; omega
      refine ⟨_, by rw [upd_ne tD.symm]; exact q1, small1000 (by rw [ri_len]; omega), rs ++ [t], by rw [upd_same, ri_snoc], ?_, grow_ne q3 tD, same_upd (q4.trans (same_new ht)) hD⟩
      rw [take_more (rowsOf_get hi)]
      exact lists_grow q2 q3 (same_new ht) upd_same tD
    · rintro H2 ⟨rs, q1, q2, q3, q4⟩
      rw [Int.toNat_natCast, List.take_of_length_le (by rw [rowsOf_len]; exact Nat.le_refl _)] at q2
      exact k H2 D (s1.trans q4) (s1.free hD) ⟨rs, q1, q2⟩
/-! ### has_entry -/
abbrev sHe : Stmt := top 44
abbrev nHe : List Str := ["matrix", "row"]
theorem scHe : FnScope nHe ["matrix"] (defScope sHe) := ⟨rfl, rfl, rfl, by decide +kernel, rfl, by decide +kernel, by decide +kernel⟩
def spHe : Sp := fun vs H Q _ => ∃ (a : Addr) (n : Nat) (N : IM), vs = [.ref a] ∧ MatAt H a n N ∧ n ≤ 100 ∧ ∀ b : Bool, (b = true ↔ ∃ r c, r < n ∧ c < n ∧ N r c ≠ 0) → ∀ H', Same H H' → Q (.bl b) H'
theorem row_any {n : Nat} {N : IM} {r : Nat} : ((rowOf n N r).any fun z => z != 0) = true ↔ ∃ c, c < n ∧ N r c ≠ 0 := by
  rw [List.any_eq_true]
  constructor
  · rintro ⟨x, hx, h⟩
    obtain ⟨c, hc, rfl⟩ := List.mem_map.mp hx
    exact ⟨c, List.mem_range.mp hc, by simpa using h⟩
  · rintro ⟨c, hc, h⟩
    exact ⟨N r c, List.mem_map.mpr ⟨c, List.mem_range.mpr hc, rfl⟩, by simpa using h⟩
theorem ok_he {f : Addr} {fd : FuncData} (F : Fun K "has_entry" "has_entry" sHe f fd) (B : BI P mg base) : FnOk P w K mg base CX0 1 f fd ["matrix"] spHe := by
  refine F.ok scHe (fun vs H Q E h => ?_) (fun cdv A outer s H vs Q E hr h => ⟨_, pss_one (ps_ret (pe_callB (cr_any rfl) (by rfl) B.any (by decide +kernel) (pa_cons
      (pe_lc (own := [("row", 1)]) (g := gName 1) (tt := tYes) rfl scHe.nd (pi_list (pv 0)) (blkOk_by (N := nHe) (sc := defScope sHe) (by decide +kernel))
        (fun _ _ _ _ _ => pg_name (i := 1) scHe.nd rfl (Or.inl rfl)) (fun _ _ _ _ _ => pts_nil) (fun _ _ _ _ _ => pe_callB (r := rAnyI K) (id := "any") (cr_anyI rfl) (by rfl) B.any (by decide +kernel) (pa_cons (pv 1) pa_nil))) pa_nil))), ?_⟩)
  · obtain ⟨a, n, N, rfl, _⟩ := h
    rfl
  · obtain ⟨a, n, N, rfl, ⟨rs, h1, h2⟩, hn, k⟩ := h
    have hl := h2.len
    rw [rowsOf_len] at hl
    generalize hbs : (rowsOf n N).map (fun row => row.any fun z => z != 0) = bs
    have bl : bs.length = n := by rw [← hbs, List.length_map, rowsOf_len]
    refine ⟨_, rfl, a, rfl, ⟨_, seq_lst h1⟩, fun D hD => lc_list (K := K) (a := a) (xs := RI rs) (fun i H1 => H1 = upd H D (.lst ((bs.take i).map V.bl))) rfl (fun i H1 _ e => by rw [e]; exact (same_new hD).seq (seq_lst h1)) ?_ ?_⟩
    · rintro i x H1 hi rfl
      obtain ⟨r, hr1, rfl⟩ := ri_get hi
      obtain ⟨p, hp, ep⟩ := h2.get hr1
      have hi2 : i < n := by have := (List.getElem?_eq_some_iff.mp hr1).1; omega
      refine ⟨rfl, ?_⟩
      refine ⟨_, rfl, r, p, rfl, seq_lst (same_new hD _ _ ep), _, upd_same, small1000 (by rw [List.length_map, List.length_take]; omega), ?_⟩
      rw [upd_upd]
      congr 2
      have e : bs[i]? = some (p.any fun z => z != 0) := by
        rw [← hbs, List.getElem?_map, hp]
        rfl
      rw [take_more e, List.map_append]
      rfl
    · rintro H1 rfl
      rw [ri_len, hl, List.take_of_length_le (by omega)]
      refine ⟨D, bs, rfl, seq_lst upd_same, ?_⟩
      refine k _ ?_ _ (same_new hD)
      rw [List.any_eq_true]
      constructor
      · rintro ⟨b, hb, h⟩
        rw [← hbs] at hb
        obtain ⟨row, hrow, rfl⟩ := List.mem_map.mp hb
        obtain ⟨r, hr1, rfl⟩ := List.mem_map.mp hrow
        obtain ⟨c, hc, hz⟩ := row_any.mp h
        exact ⟨r, c, List.mem_range.mp hr1, hc, hz⟩
      · rintro ⟨r, c, hr1, hc, hz⟩
        exact ⟨_, by rw [← hbs]; exact List.mem_map.mpr ⟨_, List.mem_map.mpr ⟨r, List.mem_range.mpr hr1, rfl⟩, rfl⟩, row_any.mpr ⟨c, hc, hz⟩⟩
/-! ### place_of_diagonal_entry -/
abbrev sPl : Stmt := top 45
theorem scPl : FnScope ["matrix", "place"] ["matrix"] (defScope sPl) := ⟨rfl, rfl, rfl, by decide +kernel, rfl, by decide +kernel, by decide +kernel⟩
def spPl : Sp := fun vs H Q _ => ∃ (a : Addr) (n : Nat) (N : IM), vs = [.ref a] ∧ MatAt H a n N ∧ n ≤ 100 ∧ ∀ p : Nat, p ≤ n → (∀ i, i < p → N i i = 0) → (p < n → N p p ≠ 0) → Q (.int (p : Int)) H
theorem ok_pl {f : Addr} {fd : FuncData} (F : Fun K "place_of_diagonal_entry" "place_of_diagonal_entry" sPl f fd) (B : BI P mg base) : FnOk P w K mg base CX0 1 f fd ["matrix"] spPl := by
  refine F.ok scPl (fun vs H Q E h => ?_) (fun cdv A outer s H vs Q E hr h => ⟨_, pss_cons (ps_set (i := 1) scPl.nd rfl (Or.inl rfl) pe_int)
    (pss_cons (ps_while PassesOwn.never (PW.pt (pw_and (pt_cmpR op_lt (pv 1) (pe_callB call_len_seq (by rfl) B.len (by decide +kernel) (pa_cons (pv 0) pa_nil)) (nomark _)) (pw_and1 (pt_cmpR op_eq (pe_ix ix_list (pe_ix ix_list (pv 0) (pv 1) (fun _ _ => rfl)) (pv 1) (fun _ _ => rfl)) pe_int (nomark _)))))
      (pss_one (ps_aug (i := 1) scPl.nd rfl (Or.inl rfl) pe_int ip_add)))
    (pss_one (ps_ret (pv 1)))), ?_⟩)
  · obtain ⟨a, n, N, rfl, _⟩ := h
    rfl
  · obtain ⟨a, n, N, rfl, hM, hn, k⟩ := h
    obtain ⟨rs0, l1, l2⟩ := hM.len
    refine ⟨fun m σ H' => ∃ p : Nat, σ = [some (.ref a), some (.int (p : Int))] ∧ H' = H ∧ p ≤ n ∧ (∀ i, i < p → N i i = 0) ∧ n - p = m, ⟨n, 0, rfl, rfl, by omega, fun i hi => by omega, rfl⟩, ?_⟩
    rintro m σ H' ⟨p, rfl, rfl, hp, hz, rfl⟩
    refine ⟨_, rfl, _, rfl, a, _, rfl, .inl (seq_lst l1), _, _, rfl, rfl, _, rfl, ?_⟩
    rw [l2]
    by_cases c : p < n
    · refine if_true_of (by simpa using c) ?_
      obtain ⟨rs, ra, e1, e2, e3, e4⟩ := hM.row c
      refine ⟨_, rfl, _, rfl, a, _, _, _, rfl, rfl, seq_lst e1, atI_nat e3, _, rfl, ra, _, _, _, rfl, rfl, seq_lst e4, atI_nat (j := p) (by rw [List.getElem?_map, rowOf_get c]; rfl), rfl, _, rfl, ?_⟩
      by_cases d : N p p = 0
      · refine if_true_of (by simpa using d) ⟨fun σ' H'' => ∃ m', m' < n - p ∧ ∃ p' : Nat, σ' = [some (.ref a), some (.int (p' : Int))] ∧ H'' = H' ∧ p' ≤ n ∧ (∀ i, i < p' → N i i = 0) ∧ n - p' = m', fun _ _ h => h, ?_⟩
        refine ⟨_, rfl, _, _, rfl, rfl, n - (p + 1), by omega, p + 1, rfl, rfl, by omega, fun i hi => ?_, rfl⟩
        by_cases e : i = p
        · rw [e]; exact d
        · exact hz i (by omega)
      · exact if_false_of (by simpa using d) ⟨_, rfl, k p hp hz fun _ => d⟩
    · refine if_false_of (by simpa using c) (if_false_of rfl ⟨_, rfl, k p hp hz fun h => absurd h c⟩)
end
end Rc

/-! ## Ji -/
set_option maxHeartbeats 2000000
namespace Rc
open PySem PySem.Spec PyProof.Rows L2 RcF RcG RcH RcI RcJ RcK
theorem Lists.set {H : Hp} {q : List Int} : ∀ {rs : List Addr} {ps : List (List Int)} {i : Nat} {r : Addr}, Lists H rs ps → rs.Nodup → rs[i]? = some r → Lists (upd H r (.lst (LI q))) rs (ps.set i q)
  | [], [], i, r, _, _, e => by simp at e
  | r0 :: rs, p :: ps, 0, r, h, nd, e => by
    obtain rfl : r0 = r := by simpa using e
    have hn := (List.nodup_cons.mp nd).1
    exact ⟨upd_same, h.2.same fun x hx o ho => by rw [upd_ne fun z => hn (by rw [← z]; exact hx)]; exact ho⟩
  | r0 :: rs, p :: ps, i + 1, r, h, nd, e => by
    have e' : rs[i]? = some r := by simpa using e
    have hn := (List.nodup_cons.mp nd).1
    have rn : r0 ≠ r := fun z => hn (by rw [z]; exact List.mem_of_getElem? e')
    exact ⟨by rw [upd_ne rn]; exact h.1, Lists.set h.2 (List.nodup_cons.mp nd).2 e'⟩
  | [], _ :: _, _, _, h, _, _ => h.elim
  | _ :: _, [], _, _, h, _, _ => h.elim
theorem rowOf_set {n : Nat} {M : IM} {r k : Nat} {z : Int} : (rowOf n M r).set k z = rowOf n (fun a b => if a = r ∧ b = k then z else M a b) r := by
  refine List.ext_getElem? fun c => ?_
  by_cases hc : c < n
  · by_cases e : k = c
    · subst e
      rw [List.getElem?_set_self (by rw [rowOf_len]; exact hc), rowOf_get hc, if_pos ⟨rfl, rfl⟩]
    · rw [List.getElem?_set_ne e, rowOf_get hc, rowOf_get hc, if_neg fun y => e y.2.symm]
  · rw [List.getElem?_eq_none (by rw [List.length_set, rowOf_len]; omega), List.getElem?_eq_none (by rw [rowOf_len]; omega)]
theorem rowsOf_set {n : Nat} {M : IM} {r k : Nat} {z : Int} : (rowsOf n M).set r ((rowOf n M r).set k z) = rowsOf n (fun a b => if a = r ∧ b = k then z else M a b) := by
  rw [rowOf_set]
  refine List.ext_getElem? fun c => ?_
  by_cases hc : c < n
  · by_cases e : r = c
    · subst e
      rw [List.getElem?_set_self (by rw [rowsOf_len]; exact hc), rowsOf_get hc]
    · rw [List.getElem?_set_ne e, rowsOf_get hc, rowsOf_get hc]
      congr 1
      refine List.map_congr_left fun b _ => ?_
      exact (if_neg fun y => e y.1.symm).symm
  · rw [List.getElem?_eq_none (by rw [List.length_set, rowsOf_len]; omega), List.getElem?_eq_none (by rw [rowsOf_len]; omega)]
/-- a matrix of our own: its rows are lists of their own, all new -/
def Own2 (H0 H : Hp) (D : Addr) (rs : List Addr) (n : Nat) (M : IM) : Prop := H D = some (.lst (RI rs)) ∧ Lists H rs (rowsOf n M) ∧ rs.Nodup ∧ (∀ r ∈ rs, r ≠ D) ∧ (∀ r ∈ rs, H0 r = none) ∧ H0 D = none ∧ Same H0 H
theorem Own2.put {H0 H : Hp} {D : Addr} {rs : List Addr} {n : Nat} {M : IM} (h : Own2 H0 H D rs n M) {r k : Nat} {ra : Addr} (hr : rs[r]? = some ra) (z : Int) : Own2 H0 (upd H ra (.lst (LI ((rowOf n M r).set k z)))) D rs n (fun a b => if a = r ∧ b = k then z else M a b) := by
  obtain ⟨h1, h2, h3, h4, h5, h6, h7⟩ := h
  have hm := List.mem_of_getElem? hr
  refine ⟨by rw [upd_ne (h4 ra hm).symm]; exact h1, ?_, h3, h4, h5, h6, same_upd h7 (h5 ra hm)⟩
  rw [← rowsOf_set]
  exact h2.set h3 hr
theorem Own2.row {H0 H : Hp} {D : Addr} {rs : List Addr} {n : Nat} {M : IM} (h : Own2 H0 H D rs n M) {r : Nat} (hr : r < n) : ∃ ra, rs[r]? = some ra ∧ (RI rs)[r]? = some (.ref ra) ∧ H ra = some (.lst (LI (rowOf n M r))) := by
  obtain ⟨h1, h2, _⟩ := h
  have hl := h2.len
  rw [rowsOf_len] at hl
  have e : rs[r]? = some (rs[r]'(by omega)) := List.getElem?_eq_getElem (by omega)
  obtain ⟨p, hp, ep⟩ := h2.get e
  rw [rowsOf_get hr] at hp
  obtain rfl := Option.some.inj hp
  exact ⟨_, e, by rw [List.getElem?_map, e]; rfl, ep⟩
theorem Own2.same {H0 H : Hp} {D : Addr} {rs : List Addr} {n : Nat} {M M' : IM} (h : Own2 H0 H D rs n M) (e : ∀ r c, r < n → c < n → M r c = M' r c) : Own2 H0 H D rs n M' := by
  obtain ⟨h1, h2, h3⟩ := h
  exact ⟨h1, by rw [← rowsOf_same e]; exact h2, h3⟩
def rLof (K : PySem.W.Frag) : List V → Hp → VK → Prop := fun xs H Q => ∃ (p : Addr) (ys : List V), xs = [.ref p] ∧ (SqL K H p ys ∨ SqT K H p ys) ∧ ∀ l, H l = none → Q (.ref l) (upd H l (.lst ys))
section
variable {P : Program} {w : World} {K : PySem.W.Frag} {mg : Str → Option Value} {base : Heap}
/-! ### added -/
abbrev sAd : Stmt := top 46
abbrev nAd : List Str := ["matrix", "row", "column", "result", "entries", "place"]
theorem scAd : FnScope nAd ["matrix"] (defScope sAd) := ⟨rfl, rfl, rfl, by decide +kernel, rfl, by decide +kernel, by decide +kernel⟩
def spAd : Sp := fun vs H Q _ => ∃ (a : Addr) (n : Nat) (N : IM), vs = [.ref a] ∧ MatAt H a n N ∧ n ≤ 100 ∧ (∃ r c, r < n ∧ c < n ∧ N r c ≠ 0) ∧ (∀ i, i < n → N i i = 0) ∧ ∀ i j, i < n → j < n → i ≠ j → N i j ≠ 0 → RetM H Q n (RcS.iadd i j N)
theorem ok_ad {f : Addr} {fd : FuncData} (F : Fun K "added" "added" sAd f fd) (B : BI P mg base) : FnOk P w K mg base CX0 1 f fd ["matrix"] spAd := by
  refine F.ok scAd (fun vs H Q E h => ?_) (fun cdv A outer s H vs Q E hr h => ⟨_, pss_cons (ps_set (i := 1) scAd.nd rfl (Or.inl rfl) pe_int)
    (pss_cons (ps_while PassesOwn.never (pt_not (pt_val (pe_callB (cr_anyI rfl) (by rfl) B.any (by decide +kernel) (pa_cons (pe_ix ix_list (pv 0) (pv 1) (fun _ _ => rfl)) pa_nil)))) (pss_one (ps_aug (i := 1) scAd.nd rfl (Or.inl rfl) pe_int ip_add)))
    (pss_cons (ps_set (i := 2) scAd.nd rfl (Or.inl rfl) pe_int)
    (pss_cons (ps_while PassesOwn.never (pt_cmpR op_eq (pe_ix ix_list (pe_ix ix_list (pv 0) (pv 1) (fun _ _ => rfl)) (pv 2) (fun _ _ => rfl)) pe_int (nomark _)) (pss_one (ps_aug (i := 2) scAd.nd rfl (Or.inl rfl) pe_int ip_add)))
    (pss_cons (ps_setLc (i := 3) (own := [("entries", 4)]) (g := gName 4) (tt := tYes) rfl scAd.nd rfl rfl (sw_true rfl rfl rfl (by decide +kernel)) (pi_list (pv 0)) (blkOk_by (N := nAd) (sc := defScope sAd) (by decide +kernel))
        (fun _ _ _ _ _ => pg_name (i := 4) scAd.nd rfl (Or.inl rfl)) (fun _ _ _ _ _ => pts_nil) (fun _ _ _ _ _ => pe_callTy (r := rLof K) (T := "list") call_list_of (by rfl) B.list (by decide +kernel) (pa_cons (pv 4) pa_nil)))
    (pss_cons (ps_for PassesOwn.never rfl (pi_range1 (by rfl) B.range (pa_cons (pe_callB call_len_seq (by rfl) B.len (by decide +kernel) (pa_cons (pv 3) pa_nil)) pa_nil)) (pg_name (i := 5) scAd.nd rfl (Or.inl rfl))
      (pss_one (ps_augS (pe_ix ix_list (pv 3) (pv 1) (fun _ _ => rfl)) (pv 5) get_list (pe_ix ix_list (pe_ix ix_list (pv 3) (pv 2) (fun _ _ => rfl)) (pv 5) (fun _ _ => rfl)) ip_add set_list)))
    (pss_cons (ps_for PassesOwn.never rfl (pi_range1 (by rfl) B.range (pa_cons (pe_callB call_len_seq (by rfl) B.len (by decide +kernel) (pa_cons (pv 3) pa_nil)) pa_nil)) (pg_name (i := 5) scAd.nd rfl (Or.inl rfl))
      (pss_one (ps_augS (pe_ix ix_list (pv 3) (pv 5) (fun _ _ => rfl)) (pv 1) get_list (pe_ix ix_list (pe_ix ix_list (pv 3) (pv 5) (fun _ _ => rfl)) (pv 2) (fun _ _ => rfl)) ip_add set_list)))
    (pss_one (ps_ret (pv 3))))))))), ?_⟩)
  · obtain ⟨a, n, N, rfl, _⟩ := h
    rfl
  · obtain ⟨a, n, N, rfl, hM, hn, ⟨r0, c0, hr0, hc0, hz0⟩, hd, k⟩ := h
    have any_iff : ∀ r, ((rowOf n N r).any fun z => z != 0) = true ↔ ∃ c, c < n ∧ N r c ≠ 0 := fun r => row_any
    refine ⟨fun m σ H' => ∃ i : Nat, σ = [some (.ref a), some (.int (i : Int)), none, none, none, none] ∧ H' = H ∧ i ≤ r0 ∧ r0 - i = m, ⟨r0, 0, rfl, rfl, Nat.zero_le _, rfl⟩, ?_⟩
    rintro m σ H' ⟨i, rfl, rfl, hi, rfl⟩
    obtain ⟨rsM, ri, e1, e2, e3, e4⟩ := hM.row (r := i) (by omega)
    refine ⟨_, rfl, _, rfl, a, _, _, _, rfl, rfl, seq_lst e1, atI_nat e3, ri, rowOf n N i, rfl, seq_lst e4, _, rfl, ?_⟩
    by_cases c : ((rowOf n N i).any fun z => z != 0) = true
    · refine if_false_of (by rw [c]; rfl) ?_
      obtain ⟨c1, hc1, hz1⟩ := (any_iff i).mp c
      have hin : i < n := by omega
      refine ⟨fun m σ H1 => ∃ j : Nat, σ = [some (.ref a), some (.int (i : Int)), some (.int (j : Int)), none, none, none] ∧ H1 = H' ∧ j ≤ c1 ∧ c1 - j = m, ⟨c1, 0, rfl, rfl, Nat.zero_le _, rfl⟩, ?_⟩
      rintro m σ H1 ⟨j, rfl, rfl, hj, rfl⟩
      have hjn : j < n := by omega
      refine ⟨_, rfl, _, rfl, a, _, _, _, rfl, rfl, seq_lst e1, atI_nat e3, _, rfl, ri, _, _, _, rfl, rfl, seq_lst e4, atI_nat (j := j) (by rw [List.getElem?_map, rowOf_get hjn]; rfl), rfl, _, rfl, ?_⟩
      by_cases d : N i j = 0
      · refine if_true_of (by simpa using d) ⟨fun σ' H'' => ∃ m', m' < c1 - j ∧ ∃ j' : Nat, σ' = [some (.ref a), some (.int (i : Int)), some (.int (j' : Int)), none, none, none] ∧ H'' = H1 ∧ j' ≤ c1 ∧ c1 - j' = m', fun _ _ h => h, ?_⟩
        have : j ≠ c1 := fun z => hz1 (by rw [← z]; exact d)
        exact ⟨_, rfl, _, _, rfl, rfl, c1 - (j + 1), by omega, j + 1, rfl, rfl, by omega, rfl⟩
      · refine if_false_of (by simpa using d) ?_
        have hij : i ≠ j := fun z => d (by rw [← z]; exact hd i hin)
        have k := k i j hin hjn hij d
        obtain ⟨rsA, h1, h2⟩ := hM
        have hl := h2.len
        rw [rowsOf_len] at hl
        refine ⟨_, rfl, a, rfl, ⟨_, seq_lst h1⟩, fun D hD => lc_list (K := K) (a := a) (xs := RI rsA) (fun t H2 => ∃ rs, H2 D = some (.lst (RI rs)) ∧ Lists H2 rs ((rowsOf n N).take t) ∧ rs.Nodup ∧ (∀ r ∈ rs, r ≠ D) ∧ (∀ r ∈ rs, H1 r = none) ∧ Same H1 H2) ⟨[], upd_same, True.intro, List.nodup_nil, (fun r hr => by simp at hr), (fun r hr => by simp at hr), same_new hD⟩ (fun _ H2 _ ⟨_, _, _, _, _, _, z⟩ => seq_lst (z _ _ h1)) ?_ ?_⟩
        · rintro t x H2 ht ⟨rs, q1, q2, q3, q4, q5, q6⟩
          obtain ⟨r, hr1, rfl⟩ := ri_get ht
          obtain ⟨p, hp, ep⟩ := h2.get hr1
          have ht2 : t < n := by have := (List.getElem?_eq_some_iff.mp hr1).1; omega
          refine ⟨rfl, ?_⟩
          refine ⟨_, rfl, r, _, rfl, .inl (seq_lst (q6 _ _ ep)), fun l hl2 => ?_⟩
          have lD : l ≠ D := fun z => by
            rw [z, q1] at hl2
            cases hl2
          have lH : H1 l = none := q6.free hl2
          have len : rs.length ≤ t := by rw [q2.len, List.length_take]; omega
          have lrs : l ∉ rs := fun z => by
            obtain ⟨y, hy, hey⟩ := List.getElem_of_mem z
            obtain ⟨p', _, ep'⟩ := q2.get (i := y) (r := l) (by rw [List.getElem?_eq_getElem hy, hey])
            rw [ep'] at hl2
            cases hl2
          refine ⟨_, by rw [upd_ne lD.symm]; exact q1, small1000 (by rw [ri_len]; omega), rs ++ [l], by rw [upd_same, ri_snoc], ?_, ?_, grow_ne q4 lD, ?_, same_upd (q6.trans (same_new hl2)) hD⟩
          · rw [take_more hp]
            exact lists_grow q2 q4 (same_new hl2) upd_same lD
          · rw [List.nodup_append]
            exact ⟨q3, List.nodup_cons.mpr ⟨by simp, List.nodup_nil⟩, fun x hx y hy => by rw [List.mem_singleton.mp hy]; exact fun z => lrs (by rw [← z]; exact hx)⟩
          · intro x hx
            rcases List.mem_append.mp hx with hx | hx
            · exact q5 x hx
            · rw [List.mem_singleton.mp hx]; exact lH
        · rintro H2 ⟨rs, q1, q2, q3, q4, q5, q6⟩
          rw [ri_len, hl, List.take_of_length_le (by rw [rowsOf_len]; exact Nat.le_refl _)] at q2
          have own0 : Own2 H1 H2 D rs n N := ⟨q1, q2, q3, q4, q5, hD, q6⟩
          have rl : (RI rs).length = n := by rw [ri_len, q2.len, rowsOf_len]
          let M1 : Nat → IM := fun k r c => N r c + if r = i ∧ c < k then N j c else 0
          refine ⟨_, rfl, D, _, rfl, .inl (seq_lst q1), (n : Int), congrArg (fun k : Nat => [V.int (k : Int)]) rl, by omega, by omega, for_range (lo := 0) (n := (n : Int).toNat) (fun kk σ H3 => ∃ s5 : Option V, σ = [some (.ref a), some (.int (i : Int)), some (.int (j : Int)), some (.ref D), none, s5] ∧ Own2 H1 H3 D rs n (M1 kk)) ⟨none, rfl, own0.same fun r c _ _ => by show _ = N r c + if r = i ∧ c < 0 then _ else 0; rw [if_neg (by omega), Int.add_zero]⟩ ?_ ?_⟩
          · rintro kk σ H3 hkk ⟨s5, rfl, own⟩
            have hkn : kk < n := by omega
            obtain ⟨ra, g1, g2, g3⟩ := own.row hin
            obtain ⟨rj, f1, f2, f3⟩ := own.row hjn
            have e0 : (0 : Int) + (kk : Int) = (kk : Int) := Int.zero_add _
            have x1 : (LI (rowOf n (M1 kk) i))[kk]? = some (.int (N i kk)) := by
              rw [List.getElem?_map, rowOf_get hkn]
              show some (V.int (N i kk + if i = i ∧ kk < kk then _ else 0)) = _
              rw [if_neg (by omega), Int.add_zero]
            have x2 : (LI (rowOf n (M1 kk) j))[kk]? = some (.int (N j kk)) := by
              rw [List.getElem?_map, rowOf_get hkn]
              show some (V.int (N j kk + if j = i ∧ kk < kk then _ else 0)) = _
              rw [if_neg (by omega), Int.add_zero]
            refine ⟨_, rfl, _, rfl, D, _, _, _, rfl, rfl, seq_lst own.1, atI_nat g2, _, rfl, ra, _, kk, _, rfl, congrArg V.int e0, seq_lst g3, x1, _, rfl, _, rfl, D, _, _, _, rfl, rfl, seq_lst own.1, atI_nat f2, _, rfl, rj, _, (kk : Int), _, rfl, congrArg V.int e0, seq_lst f3, atI_nat x2, _, _, rfl, rfl, ra, _, (kk : Int), kk, rfl, congrArg V.int e0, g3, ?_, some (.int (0 + (kk : Int))), rfl, ?_⟩
            · unfold ixN
              rw [li_len, rowOf_len, if_pos (by omega), if_pos (by omega)]
              rfl
            · have := (own.put (k := kk) g1 (N i kk + N j kk)).same (M' := M1 (kk + 1)) fun r c _ _ => by
                show (if r = i ∧ c = kk then _ else N r c + if r = i ∧ c < kk then N j c else 0) = N r c + if r = i ∧ c < kk + 1 then N j c else 0
                by_cases y : r = i ∧ c = kk
                · rw [if_pos y, if_pos ⟨y.1, by omega⟩, y.1, y.2]
                · rw [if_neg y]
                  by_cases y2 : r = i ∧ c < kk
                  · rw [if_pos y2, if_pos ⟨y2.1, by omega⟩]
                  · rw [if_neg y2, if_neg (by omega)]
              rw [li_set] at this
              exact this
          · rintro σ H3 ⟨s5, rfl, own⟩
            rw [Int.toNat_natCast] at own
            let M2 : Nat → IM := fun k r c => M1 n r c + if c = i ∧ r < k then M1 n r j else 0
            refine ⟨_, rfl, D, _, rfl, .inl (seq_lst own.1), (n : Int), congrArg (fun k : Nat => [V.int (k : Int)]) rl, by omega, by omega, for_range (lo := 0) (n := (n : Int).toNat) (fun kk σ H4 => ∃ s5 : Option V, σ = [some (.ref a), some (.int (i : Int)), some (.int (j : Int)), some (.ref D), none, s5] ∧ Own2 H1 H4 D rs n (M2 kk)) ⟨s5, rfl, own.same fun r c _ _ => by show _ = M1 n r c + if c = i ∧ r < 0 then _ else 0; rw [if_neg (by omega), Int.add_zero]⟩ ?_ ?_⟩
            · rintro kk σ H4 hkk ⟨s5, rfl, own⟩
              have hkn : kk < n := by omega
              obtain ⟨ra, g1, g2, g3⟩ := own.row hkn
              have e0 : (0 : Int) + (kk : Int) = (kk : Int) := Int.zero_add _
              have x1 : (LI (rowOf n (M2 kk) kk))[i]? = some (.int (M1 n kk i)) := by
                rw [List.getElem?_map, rowOf_get hin]
                show some (V.int (M1 n kk i + if i = i ∧ kk < kk then _ else 0)) = _
                rw [if_neg (by omega), Int.add_zero]
              have x2 : (LI (rowOf n (M2 kk) kk))[j]? = some (.int (M1 n kk j)) := by
                rw [List.getElem?_map, rowOf_get hjn]
                show some (V.int (M1 n kk j + if j = i ∧ kk < kk then _ else 0)) = _
                rw [if_neg (by omega), Int.add_zero]
              refine ⟨_, rfl, _, rfl, D, _, (kk : Int), _, rfl, congrArg V.int e0, seq_lst own.1, atI_nat g2, _, rfl, ra, _, i, _, rfl, rfl, seq_lst g3, x1, _, rfl, _, rfl, D, _, (kk : Int), _, rfl, congrArg V.int e0, seq_lst own.1, atI_nat g2, _, rfl, ra, _, _, _, rfl, rfl, seq_lst g3, atI_nat x2, _, _, rfl, rfl, ra, _, _, i, rfl, rfl, g3, ?_, some (.int (0 + (kk : Int))), rfl, ?_⟩
              · unfold ixN
                rw [li_len, rowOf_len, if_pos (by omega), if_pos (by omega)]
                rfl
              · have := (own.put (k := i) g1 (M1 n kk i + M1 n kk j)).same (M' := M2 (kk + 1)) fun r c _ _ => by
                  show (if r = kk ∧ c = i then _ else M1 n r c + if c = i ∧ r < kk then M1 n r j else 0) = M1 n r c + if c = i ∧ r < kk + 1 then M1 n r j else 0
                  by_cases y : r = kk ∧ c = i
                  · rw [if_pos y, if_pos ⟨y.2, by omega⟩, y.1, y.2]
                  · rw [if_neg y]
                    by_cases y2 : c = i ∧ r < kk
                    · rw [if_pos y2, if_pos ⟨y2.1, by omega⟩]
                    · rw [if_neg y2, if_neg (by omega)]
                rw [li_set] at this
                exact this
            · rintro σ H4 ⟨s5, rfl, own⟩
              rw [Int.toNat_natCast] at own
              have fin := own.same (M' := RcS.iadd i j N) fun r c hr hc => by
                show (N r c + if r = i ∧ c < n then N j c else 0) + (if c = i ∧ r < n then (N r j + if r = i ∧ j < n then N j j else 0) else 0) = (N r c + if r = i then N j c else 0) + if c = i then N r j + (if r = i then N j j else 0) else 0
                by_cases y : r = i <;> by_cases y2 : c = i
                · rw [if_pos ⟨y, hc⟩, if_pos ⟨y2, hr⟩, if_pos ⟨y, hjn⟩, if_pos y, if_pos y2, if_pos y]
                · rw [if_pos ⟨y, hc⟩, if_neg (fun z => y2 z.1), if_pos y, if_neg y2]
                · rw [if_neg (fun z => y z.1), if_pos ⟨y2, hr⟩, if_neg (fun z => y z.1), if_neg y, if_pos y2, if_neg y]
                · rw [if_neg (fun z => y z.1), if_neg (fun z => y2 z.1), if_neg y, if_neg y2]
              exact ⟨_, rfl, k H4 D fin.2.2.2.2.2.2 hD ⟨rs, fin.1, fin.2.1⟩⟩
    · have c : ((rowOf n N i).any fun z => z != 0) = false := by simpa using c
      refine if_true_of (by rw [c]; rfl) ⟨fun σ' H'' => ∃ m', m' < r0 - i ∧ ∃ i' : Nat, σ' = [some (.ref a), some (.int (i' : Int)), none, none, none, none] ∧ H'' = H' ∧ i' ≤ r0 ∧ r0 - i' = m', fun _ _ h => h, ?_⟩
      have : i ≠ r0 := fun z => by
        have := (any_iff i).mpr ⟨c0, hc0, by rw [z]; exact hz0⟩
        rw [c] at this
        cases this
      exact ⟨_, rfl, _, _, rfl, rfl, r0 - (i + 1), by omega, i + 1, rfl, rfl, by omega, rfl⟩
end
end Rc

/-! ## Jk -/
set_option maxHeartbeats 2000000
namespace Rc
open PySem PySem.Spec PyProof.Rows L2 RcF RcG RcH RcI RcJ RcK
/-! ### moved -/
abbrev sMv : Stmt := top 47
abbrev nMv : List Str := ["matrix", "place", "order", "other", "row", "column"]
theorem scMv : FnScope nMv ["matrix", "place"] (defScope sMv) := ⟨rfl, rfl, rfl, by decide +kernel, rfl, by decide +kernel, by decide +kernel⟩
def lcSc : Stmt → Scope
  | .Return (some (.ListComp _ _ sc _)) _ => sc
  | s => defScope s
abbrev scRow : Scope := relS (lcSc ((defBody sMv).getD 1 (.Pass ⟨0, 0, 0, 0⟩))) (defScope sMv)
def oth (i k : Nat) : List Int := ((List.range k).filter (fun r => r != i)).map fun (r : Nat) => (r : Int)
def ordL (i n : Nat) : List Int := (List.range n).map fun r => ((RcS.front i r : Nat) : Int)
def imv (i : Nat) (N : IM) : IM := fun r c => N (RcS.front i r) (RcS.front i c)
theorem oth_all {i n : Nat} (h : i < n) : (i : Int) :: oth i n = ordL i n := by
  obtain ⟨m, rfl⟩ : ∃ m, n = m + 1 := ⟨n - 1, by omega⟩
  unfold oth ordL
  rw [RcO.filter_range i m h, List.range_succ_eq_map, List.map_cons, List.map_map, List.map_map]
  rfl
theorem oth_succ (i k : Nat) : oth i (k + 1) = if k = i then oth i k else oth i k ++ [(k : Int)] := by
  unfold oth
  rw [List.range_succ, List.filter_append, List.map_append]
  by_cases e : k = i
  · rw [if_pos e, List.filter_cons_of_neg (by simpa using e)]
    simp
  · rw [if_neg e, List.filter_cons_of_pos (by simpa using e)]
    rfl
theorem oth_len (i k : Nat) : (oth i k).length ≤ k := by
  unfold oth
  rw [List.length_map]
  exact Nat.le_trans (List.length_filter_le _ _) (by simp)
theorem ordL_len (i n : Nat) : (ordL i n).length = n := by simp [ordL]
theorem ordL_get {i n k : Nat} (h : k < n) : (ordL i n)[k]? = some ((RcS.front i k : Nat) : Int) := by
  unfold ordL
  rw [List.getElem?_map, List.getElem?_range h]
  rfl
theorem front_lt {i k n : Nat} (hi : i < n) (hk : k < n) : RcS.front i k < n := by
  unfold RcS.front RcM.up
  split
  · exact hi
  · split <;> omega
def spMv : Sp := fun vs H Q _ => ∃ (a : Addr) (i n : Nat) (N : IM), vs = [.ref a, .int (i : Int)] ∧ MatAt H a n N ∧ i < n ∧ n ≤ 100 ∧ RetM H Q n (imv i N)
section
variable {P : Program} {w : World} {K : PySem.W.Frag} {mg : Str → Option Value} {base : Heap}
theorem ok_mv {f : Addr} {fd : FuncData} (F : Fun K "moved" "moved" sMv f fd) (B : BI P mg base) : FnOk P w K mg base CX0 1 f fd ["matrix", "place"] spMv := by
  refine F.ok scMv (fun vs H Q E h => ?_) (fun cdv A outer s H vs Q E hr h => ⟨_, pss_cons (ps_set (i := 2) scMv.nd rfl (Or.inr rfl) (pe_op op_cat (pe_lst (pa_cons (pv 1) pa_nil))
      (pe_lc (own := [("other", 3)]) (g := gName 3) rfl scMv.nd (pi_range1 (by rfl) B.range (pa_cons (pe_callB call_len_seq (by rfl) B.len (by decide +kernel) (pa_cons (pv 0) pa_nil)) pa_nil)) (blkOk_by (N := nMv) (sc := defScope sMv) (by decide +kernel))
        (fun _ _ _ _ _ => pg_name (i := 3) scMv.nd rfl (Or.inl rfl)) (fun _ _ _ _ _ => pts_one (pt_cmpR op_ne (pv 3) (pv 1) (nomark _))) (fun _ _ _ _ _ => pv 3))))
    (pss_one (ps_ret (pe_lc (own := [("row", 4)]) (g := gName 4) (tt := tYes) (te := tLc (iList K (tVar 2)) (gName 5) tYes (tOp (rIxL K) (tOp (rIxL K) (tVar 0) (tVar 4)) (tVar 5)) [5]) rfl scMv.nd (pi_list (pv 2)) (blkOk_by (N := nMv) (sc := defScope sMv) (by decide +kernel))
        (fun _ _ _ _ _ => pg_name (i := 4) scMv.nd rfl (Or.inr rfl)) (fun _ _ _ _ _ => pts_nil) (fun _ _ _ _ _ =>
          pe_lc (own := [("column", 5)]) (g := gName 5) (tt := tYes) rfl scMv.nd (pi_list (pv 2)) (blkOk_by (N := nMv) (sc := scRow) (by decide +kernel))
            (fun _ _ _ _ _ => pg_name (i := 5) scMv.nd rfl (Or.inl rfl)) (fun _ _ _ _ _ => pts_nil) (fun _ _ _ _ _ => pe_ix ix_list (pe_ix ix_list (pv 0) (pv 4) (fun _ _ => rfl)) (pv 5) (fun _ _ => rfl)))))), ?_⟩)
  · obtain ⟨a, i, n, N, rfl, _⟩ := h
    rfl
  · obtain ⟨a, i, n, N, rfl, hM, hi, hn, k⟩ := h
    obtain ⟨rsA, h1, h2⟩ := id hM
    have hl := h2.len
    rw [rowsOf_len] at hl
    have rl : (RI rsA).length = n := by rw [ri_len, hl]
    refine ⟨_, rfl, by show 1 ≤ sizeLine; decide, fun L hL => ?_⟩
    have sL := same_new (o := .lst [.int (i : Int)]) hL
    refine ⟨_, rfl, a, _, rfl, .inl (seq_lst (sL _ _ h1)), (n : Int), congrArg (fun k : Nat => [V.int (k : Int)]) rl, by omega, by omega, fun D hD => lc_it walk_range (fun t H2 => H2 = upd (upd H L (.lst [.int (i : Int)])) D (.lst (LI (oth i t)))) rfl (fun _ _ _ _ => True.intro) ?_ ?_⟩
    · rintro t x H2 H3 ht rfl ⟨rfl, rfl⟩
      have ht : t < n := by omega
      have e0 : (fun i : Nat => V.int (0 + (i : Int))) t = V.int (t : Int) := congrArg V.int (Int.zero_add _)
      refine ⟨rfl, ?_⟩
      refine ⟨_, rfl, _, rfl, rfl, _, rfl, ?_⟩
      by_cases c : t = i
      · refine if_false_of (by rw [e0, c]; simp) ?_
        rw [oth_succ, if_pos c]
      · have c' : ¬ (t : Int) = (i : Int) := by omega
        refine if_true_of (by rw [e0]; simpa using c') ?_
        refine ⟨_, rfl, _, upd_same, small1000 (by rw [li_len]; have := oth_len i t; omega), ?_⟩
        rw [upd_upd, oth_succ, if_neg c, li_snoc, e0]
    · rintro H2 rfl
      rw [Int.toNat_natCast]
      have nLD : L ≠ D := fun z => by
        rw [← z, upd_same] at hD
        cases hD
      refine ⟨L, D, _, _, rfl, rfl, by rw [upd_ne nLD, upd_same], upd_same, by rw [li_len]; have := oth_len i n; exact Nat.le_of_lt (small1000 (show 1 + (oth i n).length ≤ 1000 by omega)), fun O hO => ?_⟩
      have sO := sL.trans ((same_new (o := .lst (LI (oth i n))) hD).trans (same_new (o := .lst ([V.int (i : Int)] ++ LI (oth i n))) hO))
      have eO : [V.int (i : Int)] ++ LI (oth i n) = LI (ordL i n) := by rw [← oth_all hi]; rfl
      have eOO : (upd (upd (upd H L (.lst [.int (i : Int)])) D (.lst (LI (oth i n)))) O (.lst ([V.int (i : Int)] ++ LI (oth i n)))) O = some (.lst (LI (ordL i n))) := by rw [upd_same, eO]
      generalize upd (upd (upd H L (.lst [.int (i : Int)])) D (.lst (LI (oth i n)))) O (.lst ([V.int (i : Int)] ++ LI (oth i n))) = H1 at sO eOO
      have ol : (LI (ordL i n)).length = n := by rw [li_len, ordL_len]
      refine ⟨_, rfl, O, rfl, ⟨_, seq_lst eOO⟩, fun D2 hD2 => lc_list (K := K) (a := O) (xs := LI (ordL i n)) (fun t H2 => ∃ rs, H2 D2 = some (.lst (RI rs)) ∧ Lists H2 rs ((rowsOf n (imv i N)).take t) ∧ (∀ r ∈ rs, r ≠ D2) ∧ Same H1 H2) ⟨[], upd_same, True.intro, (fun r hr => by simp at hr), same_new hD2⟩ (fun _ H2 _ ⟨_, _, _, _, z⟩ => seq_lst (z _ _ eOO)) ?_ ?_⟩
      · rintro t x H2 ht ⟨rs, q1, q2, q3, q4⟩
        have htn : t < n := by have := (List.getElem?_eq_some_iff.mp ht).1; omega
        obtain ⟨z, hz, rfl⟩ := li_get ht
        rw [ordL_get htn] at hz
        obtain rfl := Option.some.inj hz
        have hMt := hM.same (sO.trans q4)
        obtain ⟨rsM, ra, g1, g2, g3, g4⟩ := hMt.row (front_lt hi htn)
        refine ⟨rfl, ?_⟩
        refine ⟨_, rfl, O, rfl, ⟨_, seq_lst (q4 _ _ eOO)⟩, fun D3 hD3 => lc_list (K := K) (a := O) (xs := LI (ordL i n)) (fun c H3 => H3 = upd H2 D3 (.lst (LI ((rowOf n (imv i N) t).take c)))) rfl (fun _ H3 _ e => by rw [e]; exact (same_new hD3).seq (seq_lst (q4 _ _ eOO))) ?_ ?_⟩
        · rintro c x H3 hc rfl
          have hcn : c < n := by have := (List.getElem?_eq_some_iff.mp hc).1; omega
          obtain ⟨z, hz, rfl⟩ := li_get hc
          rw [ordL_get hcn] at hz
          obtain rfl := Option.some.inj hz
          have s3 := same_new (o := .lst (LI ((rowOf n (imv i N) t).take c))) hD3
          refine ⟨rfl, ?_⟩
          refine ⟨_, rfl, _, rfl, a, _, _, _, rfl, rfl, seq_lst (s3 _ _ g1), atI_nat g3, _, rfl, ra, _, _, _, rfl, rfl, seq_lst (s3 _ _ g4), atI_nat (j := RcS.front i c) (by rw [List.getElem?_map, rowOf_get (front_lt hi hcn)]; rfl), _, upd_same, small1000 (by rw [li_len, List.length_take]; omega), ?_⟩
          show _ = _
          rw [upd_upd, take_more (rowOf_get hcn), li_snoc]
          rfl
        · rintro H3 rfl
          have nD : D3 ≠ D2 := fun z => by
            rw [z, q1] at hD3
            cases hD3
          have s3 := same_new (o := .lst (LI (rowOf n (imv i N) t))) hD3
          rw [ol, List.take_of_length_le (by rw [rowOf_len]; exact Nat.le_refl _)]
          have len : rs.length ≤ t := by rw [q2.len, List.length_take]; omega
          refine ⟨_, by rw [upd_ne nD.symm]; exact q1, small1000 (by rw [ri_len]; omega), rs ++ [D3], by rw [upd_same, ri_snoc], ?_, grow_ne q3 nD, same_upd (q4.trans s3) hD2⟩
          rw [take_more (rowsOf_get htn)]
          exact lists_grow q2 q3 s3 upd_same nD
      · rintro H2 ⟨rs, q1, q2, q3, q4⟩
        rw [ol, List.take_of_length_le (by rw [rowsOf_len]; exact Nat.le_refl _)] at q2
        exact k H2 D2 (sO.trans q4) (sO.free hD2) ⟨rs, q1, q2⟩
end
end Rc

/-! ## Jl -/
set_option maxHeartbeats 2000000
namespace Rc
open PySem PySem.Spec PyProof.Rows L2 RcF RcG RcH RcI RcJ RcK
/-! ### reduced -/
abbrev sRd : Stmt := top 48
abbrev nRd : List Str := ["matrix", "divisor", "corner", "rest", "row", "cleared", "entry", "above"]
theorem scRd : FnScope nRd ["matrix", "divisor"] (defScope sRd) := ⟨rfl, rfl, rfl, by decide +kernel, rfl, by decide +kernel, by decide +kernel⟩
def icl (n : Nat) (N : IM) (r : Nat) : List Int := rowOf n (fun r c => N 0 0 * N r c - N r 0 * N 0 c) r
def ird (N : IM) (l : Int) : IM := fun r c => (N 0 0 * N (r + 1) (c + 1) - N (r + 1) 0 * N 0 (c + 1)).fdiv l
def spRd : Sp := fun vs H Q _ => ∃ (a : Addr) (l : Int) (m : Nat) (N : IM) (A : Nat), vs = [.ref a, .int l] ∧ MatAt H a (m + 1) N ∧ m + 1 ≤ 100 ∧ l ≠ 0 ∧ (∀ r c, r < m + 1 → c < m + 1 → (N r c).natAbs < 2 ^ A) ∧ A ≤ 60000000 ∧ RetM H Q m (ird N l)
section
variable {P : Program} {w : World} {K : PySem.W.Frag} {mg : Str → Option Value} {base : Heap}
theorem ok_rd {f : Addr} {fd : FuncData} (F : Fun K "reduced" "reduced" sRd f fd) (B : BI P mg base) : FnOk P w K mg base CX0 42 f fd ["matrix", "divisor"] spRd := by
  refine F.ok scRd (fun vs H Q E h => ?_) (fun cdv A outer s H vs Q E hr h => ⟨_, pss_cons (ps_set (i := 2) scRd.nd rfl (Or.inr rfl) (pe_ix ix_list (pe_ix ix_list (pv 0) pe_int (fun _ _ => rfl)) pe_int (fun _ _ => rfl)))
    (pss_cons (ps_set (i := 3) scRd.nd rfl (Or.inl rfl) (pe_lst pa_nil))
    (pss_cons (ps_for PassesOwn.never rfl (pi_list (pe_slice (r := rSlL K) sl_list (pv 0) (po_some pe_int) po_none)) (pg_name (i := 4) scRd.nd rfl (Or.inr rfl))
      (pss_cons (ps_setLc (i := 5) (own := [("entry", 6), ("above", 7)]) (g := gTup K 2 (gCons (gName 6) (gCons (gName 7) gNil))) (tt := tYes) rfl scRd.nd rfl rfl (sw_true rfl rfl rfl (by decide +kernel)) (pi_zip (by rfl) B.zip (pa_cons (pv 4) (pa_cons (pe_ix ix_list (pv 0) pe_int (fun _ _ => rfl)) pa_nil))) (blkOk_by (N := nRd) (sc := defScope sRd) (by decide +kernel))
          (fun _ _ _ _ _ => pg_tup rfl (pgs_cons (pg_name (i := 6) scRd.nd rfl (Or.inl rfl)) (pgs_cons (pg_name (i := 7) scRd.nd rfl (Or.inl rfl)) pgs_nil))) (fun _ _ _ _ _ => pts_nil)
          (fun _ _ _ _ _ => pe_op op_sub (pe_op op_mulX (pv 2) (pv 6)) (pe_op op_mulX (pe_ix (r := rIxL K) ix_list (pv 4) pe_int (fun _ _ => rfl)) (pv 7))))
      (pss_one (ps_expr (pe_bm PySem.F.plainAttrs_list PySem.F.slot_list_append PySem.F.type_list_append mt_append (pv 3) (pa_cons
          (pe_lc (own := [("entry", 6)]) (g := gName 6) (tt := tYes) rfl scRd.nd (pi_list (pe_slice (r := rSlL K) sl_list (pv 5) (po_some pe_int) po_none)) (blkOk_by (N := nRd) (sc := defScope sRd) (by decide +kernel))
            (fun _ _ _ _ _ => pg_name (i := 6) scRd.nd rfl (Or.inl rfl)) (fun _ _ _ _ _ => pts_nil) (fun _ _ _ _ _ => pe_op (op_divX B.G ⟨_, _, rfl, rfl, rfl, rfl, rfl⟩ hr) (pv 6) (pv 1))) pa_nil))))))
    (pss_one (ps_ret (pv 3))))), ?_⟩)
  · obtain ⟨a, l, m, N, C, rfl, _⟩ := h
    rfl
  · obtain ⟨a, l, m, N, C, rfl, hM, hm, hl0, hsz, hC, k⟩ := h
    obtain ⟨rsA, h1, hLA⟩ := id hM
    have h2 : rsA.length = m + 1 := by rw [hLA.len, rowsOf_len]
    have rowAt : ∀ r ra, rsA[r]? = some ra → H ra = some (.lst (LI (rowOf (m + 1) N r))) := fun r ra e => by
      obtain ⟨p, hp, ep⟩ := hLA.get e
      have hr1 : r < m + 1 := by have := (List.getElem?_eq_some_iff.mp e).1; omega
      rw [rowsOf_get hr1] at hp
      obtain rfl := Option.some.inj hp
      exact ep
    obtain ⟨r0, e0⟩ : ∃ r0, rsA[0]? = some r0 := ⟨rsA[0]'(by omega), List.getElem?_eq_getElem (by omega)⟩
    have h4 := rowAt 0 r0 e0
    have h3 : (RI rsA)[0]? = some (V.ref r0) := by rw [List.getElem?_map, e0]; rfl
    refine ⟨_, rfl, a, _, _, _, rfl, rfl, seq_lst h1, atI_nat (j := 0) h3, r0, _, _, _, rfl, rfl, seq_lst h4, atI_nat (j := 0) (by rw [List.getElem?_map, rowOf_get (by omega)]; rfl), ?_⟩
    refine ⟨by show 0 ≤ sizeLine; exact Nat.zero_le _, fun R hR => ?_⟩
    have sR := same_new (o := .lst []) hR
    refine ⟨_, rfl, _, rfl, a, _, rfl, seq_lst (sR _ _ h1), fun Z hZ => ?_⟩
    have sZ := same_new (o := .lst (cutV (RI rsA) (some ((1 : Nat) : Int)) none)) hZ
    have ZR : Z ≠ R := fun z => by
      rw [z, upd_same] at hZ
      cases hZ
    have eZ : cutV (RI rsA) (some ((1 : Nat) : Int)) none = RI (rsA.drop 1) := by rw [cutV_from, ← List.map_drop]
    refine ⟨Z, rfl, ⟨_, seq_lst upd_same⟩, for_list (K := K) (a := Z) (xs := RI (rsA.drop 1)) (fun i σ H' => ∃ (rs : List Addr) (s4 s5 : Option V), σ = [some (.ref a), some (.int l), some (.int (N 0 0)), some (.ref R), s4, s5, none, none] ∧ H' R = some (.lst (RI rs)) ∧ Lists H' rs ((rowsOf m (ird N l)).take i) ∧ (∀ r ∈ rs, r ≠ R) ∧ Same H H' ∧ H' Z = some (.lst (RI (rsA.drop 1)))) ⟨[], none, none, rfl, ?_, True.intro, (fun r hr => by simp at hr), sR.trans sZ, by rw [← eZ]; exact upd_same⟩ (fun _ _ H' _ ⟨_, _, _, _, _, _, _, _, z⟩ => seq_lst z) ?_ ?_⟩
    · rw [upd_ne ZR.symm]
      exact upd_same
    · rintro i x σ H1 hi ⟨rs, s4, s5, rfl, q1, q2, q3, q4, q5⟩
      obtain ⟨ra, hra, rfl⟩ := ri_get hi
      rw [List.getElem?_drop] at hra
      have him : 1 + i < m + 1 := by have := (List.getElem?_eq_some_iff.mp hra).1; omega
      have ea := rowAt (1 + i) ra hra
      rw [show 1 + i = i + 1 by omega] at ea
      have rl : ∀ r, (LI (rowOf (m + 1) N r)).length = m + 1 := fun r => by rw [li_len, rowOf_len]
      have aR : a ≠ R := fun z => by
        rw [z, hR] at h1
        cases h1
      refine ⟨_, rfl, _, rfl, a, _, _, _, rfl, rfl, seq_lst (q4 _ _ h1), atI_nat (j := 0) h3, ra, r0, _, _, rfl, seq_lst (q4 _ _ ea), seq_lst (q4 _ _ h4), fun D hD => lc_it (walk_zip (n := m + 1) (by rw [rl, rl, Nat.min_self])) (fun c H2 => H2 D = some (.lst (LI ((icl (m + 1) N (i + 1)).take c))) ∧ Same H1 H2) ⟨upd_same, same_new hD⟩ (fun _ H2 _ e => ⟨seq_lst (e.2 _ _ (q4 _ _ ea)), seq_lst (e.2 _ _ (q4 _ _ h4))⟩) ?_ ?_⟩
      · rintro c x H2 H3 hc ⟨e1, e2⟩ ⟨T, x', y', rfl, hT, rfl, h5, h6⟩
        have h5 : (LI (rowOf (m + 1) N (i + 1)))[c]? = some x' := h5
        have h6 : (LI (rowOf (m + 1) N 0))[c]? = some y' := h6
        rw [List.getElem?_map, rowOf_get hc] at h5 h6
        obtain rfl := Option.some.inj h5
        obtain rfl := Option.some.inj h6
        have nD : D ≠ T := fun z => by
          rw [← z, e1] at hT
          cases hT
        have sT := same_new (o := .tup [V.int (N (i + 1) c), V.int (N 0 c)]) hT
        refine ⟨T, _, rfl, .inl (.inl upd_same), rfl, _, _, rfl, _, _, rfl, rfl, rfl, ?_⟩
        refine ⟨_, rfl, _, rfl, _, _, rfl, rfl, mulx_ok (hsz 0 0 (by omega) (by omega)) (hsz (i + 1) c (by omega) hc) (by omega), ?_⟩
        refine ⟨_, rfl, ra, _, _, _, rfl, rfl, seq_lst (sT _ _ (e2 _ _ (q4 _ _ ea))), atI_nat (j := 0) (by rw [List.getElem?_map, rowOf_get (by omega)]; rfl), _, rfl, _, _, rfl, rfl, mulx_ok (hsz (i + 1) 0 (by omega) (by omega)) (hsz 0 c (by omega) hc) (by omega), _, _, rfl, rfl, ?_⟩
        refine ⟨_, by rw [upd_ne nD]; exact e1, small1000 (by rw [li_len, List.length_take]; omega), ?_, same_upd (e2.trans sT) hD⟩
        have eg : (icl (m + 1) N (i + 1))[c]? = some (N 0 0 * N (i + 1) c - N (i + 1) 0 * N 0 c) := rowOf_get hc
        rw [upd_same, take_more eg, li_snoc]
      · rintro H2 ⟨e1, e2⟩
        have cl : (icl (m + 1) N (i + 1)).length = m + 1 := rowOf_len _ _ _
        rw [List.take_of_length_le (by omega)] at e1
        have nDR : D ≠ R := fun z => by
          rw [z, q1] at hD
          cases hD
        refine ⟨_, rfl, .inl ⟨rfl, _, seq_lst (e2 _ _ q1)⟩, ?_⟩
        refine ⟨_, rfl, _, rfl, D, _, rfl, seq_lst e1, fun Y hY => ?_⟩
        have eY : cutV (LI (icl (m + 1) N (i + 1))) (some ((1 : Nat) : Int)) none = LI ((icl (m + 1) N (i + 1)).drop 1) := by rw [cutV_from, ← List.map_drop]
        have sY := same_new (o := .lst (cutV (LI (icl (m + 1) N (i + 1))) (some ((1 : Nat) : Int)) none)) hY
        have yl : (LI ((icl (m + 1) N (i + 1)).drop 1)).length = m := by rw [li_len, List.length_drop, cl]; omega
        refine ⟨Y, rfl, ⟨_, seq_lst upd_same⟩, fun G hG => lc_list (K := K) (a := Y) (xs := LI ((icl (m + 1) N (i + 1)).drop 1)) (fun c H3 => H3 G = some (.lst (LI ((rowOf m (ird N l) i).take c))) ∧ H3 Y = some (.lst (LI ((icl (m + 1) N (i + 1)).drop 1))) ∧ Same H2 H3) ⟨upd_same, by rw [upd_ne (ne_of_none upd_same hG), ← eY]; exact upd_same, sY.trans (same_new hG)⟩ (fun _ H3 _ e => seq_lst e.2.1) ?_ ?_⟩
        · rintro c x H3 hc ⟨g1, g2, g3⟩
          have hcm : c < m := by have := (List.getElem?_eq_some_iff.mp hc).1; omega
          rw [List.getElem?_map, List.getElem?_drop, show (icl (m + 1) N (i + 1))[1 + c]? = some (N 0 0 * N (i + 1) (1 + c) - N (i + 1) 0 * N 0 (1 + c)) from rowOf_get (by omega)] at hc
          obtain rfl := Option.some.inj hc
          have YG : Y ≠ G := fun z => by
            rw [← z, upd_same] at hG
            cases hG
          have GD : ∀ {o : HO} {b : Addr}, H2 b = some o → b ≠ G := fun {o b} e z => by
            have hGn : H2 G = none := sY.free hG
            rw [z, hGn] at e
            cases e
          refine ⟨rfl, ?_⟩
          refine ⟨_, rfl, _, rfl, _, _, rfl, rfl, hl0, _, g1, small1000 (by rw [li_len, List.length_take]; omega), ?_, by rw [upd_ne YG]; exact g2, fun b o e => by rw [upd_ne (GD e)]; exact g3 _ _ e⟩
          have eg : (rowOf m (ird N l) i)[c]? = some ((N 0 0 * N (i + 1) (1 + c) - N (i + 1) 0 * N 0 (1 + c)).fdiv l) := by
            rw [rowOf_get hcm, show 1 + c = c + 1 by omega]
            rfl
          rw [upd_same, take_more eg, li_snoc]
        · rintro H3 ⟨g1, g2, g3⟩
          rw [yl, List.take_of_length_le (by rw [rowOf_len]; exact Nat.le_refl _)] at g1
          have hGn : H2 G = none := sY.free hG
          have nGR : G ≠ R := fun z => by
            rw [z, e2 _ _ q1] at hGn
            cases hGn
          have t3 := e2.trans g3
          have len : rs.length ≤ i := by rw [q2.len, List.length_take]; omega
          refine ⟨R, _, _, rfl, rfl, t3 _ _ q1, small1000 (by rw [ri_len]; omega), ?_⟩
          refine ⟨rs ++ [G], _, _, rfl, by rw [upd_same, ri_snoc], ?_, grow_ne q3 nGR, same_upd (q4.trans t3) hR, by rw [upd_ne ZR]; exact t3 _ _ q5⟩
          rw [take_more (rowsOf_get (by omega))]
          exact lists_grow q2 q3 t3 g1 nGR
    · rintro σ H1 ⟨rs, s4, s5, rfl, q1, q2, q3, q4, q5⟩
      rw [ri_len, List.length_drop, h2, List.take_of_length_le (by rw [rowsOf_len]; omega)] at q2
      exact ⟨_, rfl, k H1 R q4 hR ⟨rs, q1, q2⟩⟩
end
end Rc

/-! ## Jm -/
set_option maxHeartbeats 2000000
namespace Rc
open PySem PySem.Spec PyProof.Rows L2 RcF RcG RcH RcI RcJ RcK
/-! ### inertia -/
abbrev sIn : Stmt := top 49
abbrev nIn : List Str := ["matrix", "positive", "negative", "last", "corner"]
theorem scIn : FnScope nIn ["matrix"] (defScope sIn) := ⟨rfl, rfl, rfl, by decide +kernel, rfl, by decide +kernel, by decide +kernel⟩
def BB (j : Nat) : Nat := 2 ^ j * 140005 - 5
def spIn : Sp := fun vs H Q _ => ∃ (a : Addr) (n : Nat) (N : IM), vs = [.ref a] ∧ MatAt H a n N ∧ n ≤ 8 ∧ (∀ r c, r < n → c < n → N r c = N c r) ∧ (∀ r c, r < n → c < n → (N r c).natAbs < 2 ^ BB 0) ∧ ∀ ps ng : Nat, RcN.El n (fun r c => (N r c : Rat)) ps ng → RetT H Q [.int (ps : Int), .int (ng : Int)]
theorem if_mid {c A : Prop} [Decidable c] {C : L2.St → Hp → Prop} {σ : L2.St} {H : Hp} (Mid : L2.St → Hp → Prop) (h1 : c → (∀ σ1 H1, Mid σ1 H1 → C σ1 H1) → A) (h2 : ¬ c → Mid σ H) (h3 : ∀ σ1 H1, Mid σ1 H1 → C σ1 H1) : if c then A else C σ H := by
  by_cases h : c
  · rw [if_pos h]; exact h1 h h3
  · rw [if_neg h]; exact h3 _ _ (h2 h)
theorem BB_succ (j : Nat) : BB (j + 1) = 2 * BB j + 5 := by
  unfold BB
  have : 1 ≤ 2 ^ j := Nat.one_le_two_pow
  rw [Nat.pow_succ]
  omega
theorem BB_le {j : Nat} (h : j ≤ 8) : BB j ≤ 36000000 := by
  unfold BB
  have : 2 ^ j ≤ 2 ^ 8 := Nat.pow_le_pow_right (by decide) h
  omega
theorem up_pow {x : Int} {a b : Nat} (h : x.natAbs < 2 ^ a) (k : a ≤ b) : x.natAbs < 2 ^ b := Nat.lt_of_lt_of_le h (Nat.pow_le_pow_right (by decide) k)
theorem iadd_lt {i j n A : Nat} {N : IM} (hi : i < n) (hj : j < n) (h : ∀ r c, r < n → c < n → (N r c).natAbs < 2 ^ A) : ∀ r c, r < n → c < n → (RcS.iadd i j N r c).natAbs < 2 ^ (A + 2) := by
  intro r c hr hc
  unfold RcS.iadd
  refine add_lt ?_ ?_
  · refine add_lt (h r c hr hc) ?_
    split
    · exact h j c hj hc
    · exact Nat.pow_pos (by decide)
  · split
    · refine add_lt (h r j hr hj) ?_
      split
      · exact h j j hj hj
      · exact Nat.pow_pos (by decide)
    · exact Nat.pow_pos (by decide)
theorem ird_lt {m A : Nat} {N : IM} {l : Int} (h : ∀ r c, r < m + 1 → c < m + 1 → (N r c).natAbs < 2 ^ A) : ∀ r c, r < m → c < m → (ird N l r c).natAbs < 2 ^ (2 * A + 1) := by
  intro r c hr hc
  unfold ird
  refine Nat.lt_of_le_of_lt (Int.natAbs_fdiv_le_natAbs _ _) ?_
  rw [show 2 * A + 1 = (A + A) + 1 by omega]
  exact sub_lt (mul_lt (h 0 0 (by omega) (by omega)) (h _ _ (by omega) (by omega))) (mul_lt (h _ 0 (by omega) (by omega)) (h 0 _ (by omega) (by omega)))
def InInv (H : Hp) (n0 : Nat) (M0 : RcM.Mat) (m : Nat) (σ : L2.St) (H1 : Hp) : Prop := ∃ (a : Addr) (n : Nat) (N : IM) (l : Int) (ps ng : Nat) (s4 : Option V), σ = [some (.ref a), some (.int (ps : Int)), some (.int (ng : Int)), some (.int l), s4] ∧ Same H H1 ∧ MatAt H1 a n N ∧ n ≤ n0 ∧ RcS.IS n0 M0 n N l ps ng ∧ (∀ r c, r < n → c < n → (N r c).natAbs < 2 ^ BB (n0 - n)) ∧ l.natAbs < 2 ^ BB (n0 - n) ∧ n = m
section
variable {P : Program} {w : World} {K : PySem.W.Frag} {mg : Str → Option Value} {base : Heap}
theorem ok_in {f : Addr} {fd : FuncData} (F : Fun K "inertia" "inertia" sIn f fd) (B : BI P mg base) (D1 : Dn P w K mg base "has_entry" 1 ["matrix"] spHe) (D2 : Dn P w K mg base "place_of_diagonal_entry" 1 ["matrix"] spPl)
    (D3 : Dn P w K mg base "added" 1 ["matrix"] spAd) (D4 : Dn P w K mg base "moved" 1 ["matrix", "place"] spMv) (D5 : Dn P w K mg base "reduced" 42 ["matrix", "divisor"] spRd) : FnOk P w K mg base CX0 43 f fd ["matrix"] spIn := by
  refine F.ok scIn (fun vs H Q E h => ?_) (fun cdv A outer s H vs Q E hr h => ⟨_, pss_cons (ps_set (i := 1) scIn.nd rfl (Or.inl rfl) pe_int)
    (pss_cons (ps_set (i := 2) scIn.nd rfl (Or.inl rfl) pe_int)
    (pss_cons (ps_set (i := 3) scIn.nd rfl (Or.inl rfl) pe_int)
    (pss_cons (ps_while PassesOwn.never (pt_val (pe_fn D1 (hr.mono (by decide)) (pa_cons (pv 0) pa_nil)))
      (pss_cons (ps_if (pt_cmpR op_eq (pe_fn D2 (hr.mono (by decide)) (pa_cons (pv 0) pa_nil)) (pe_callB call_len_seq (by rfl) B.len (by decide +kernel) (pa_cons (pv 0) pa_nil)) (nomark _)) (pss_one (ps_set (i := 0) scIn.nd rfl (Or.inl rfl) (pe_fn D3 (hr.mono (by decide)) (pa_cons (pv 0) pa_nil)))) pss_nil)
      (pss_cons (ps_set (i := 0) scIn.nd rfl (Or.inl rfl) (pe_fn D4 (hr.mono (by decide)) (pa_cons (pv 0) (pa_cons (pe_fn D2 (hr.mono (by decide)) (pa_cons (pv 0) pa_nil)) pa_nil))))
      (pss_cons (ps_set (i := 4) scIn.nd rfl (Or.inl rfl) (pe_ix ix_list (pe_ix ix_list (pv 0) pe_int (fun _ _ => rfl)) pe_int (fun _ _ => rfl)))
      (pss_cons (ps_if (pt_cmpR op_gt (pe_op op_mulX (pv 4) (pv 3)) pe_int (nomark _)) (pss_one (ps_aug (i := 1) scIn.nd rfl (Or.inl rfl) pe_int ip_add)) (pss_one (ps_aug (i := 2) scIn.nd rfl (Or.inl rfl) pe_int ip_add)))
      (pss_cons (ps_set (i := 0) scIn.nd rfl (Or.inl rfl) (pe_fn D5 hr (pa_cons (pv 0) (pa_cons (pv 3) pa_nil))))
      (pss_one (ps_set (i := 3) scIn.nd rfl (Or.inl rfl) (pv 4)))))))))
    (pss_one (ps_ret (pe_tup (pa_cons (pv 1) (pa_cons (pv 2) pa_nil)))))))), ?_⟩)
  · obtain ⟨a, n, N, rfl, _⟩ := h
    rfl
  · obtain ⟨a, n0, N0, rfl, hM0, hn0, sy0, sz0, k⟩ := h
    refine ⟨InInv H n0 (fun r c => (N0 r c : Rat)), ⟨n0, a, n0, N0, 1, 0, 0, none, rfl, Same.refl H, hM0, Nat.le_refl _, RcS.is_start sy0, (by rw [Nat.sub_self]; exact sz0), (by show 1 < 2 ^ BB (n0 - n0); rw [Nat.sub_self]; exact Nat.one_lt_two_pow (by decide)), rfl⟩, ?_⟩
    rintro m σ H1 ⟨a1, n, N, l, ps, ng, s4, rfl, e1, e2, e3, e4, e5, e6, rfl⟩
    refine ⟨_, rfl, a1, n, N, rfl, e2, by omega, fun b hb H2 s2 => ?_⟩
    refine ⟨_, rfl, ?_⟩
    cases b with
    | false =>
      refine if_false_of rfl ⟨_, rfl, _, rfl, by show 2 ≤ sizeLine; decide, fun t ht => ?_⟩
      refine k ps ng (RcS.is_end e4 fun r c hr1 hc => Classical.byContradiction fun hz => ?_) _ t (e1.trans (s2.trans (same_new ht))) ((e1.trans s2).free ht) upd_same
      have := hb.mpr ⟨r, c, hr1, hc, hz⟩
      cases this
    | true =>
      obtain ⟨r0, c0, hr0, hc0, hz0⟩ := hb.mp rfl
      refine if_true_of rfl ⟨fun σ' H'' => ∃ m', m' < n ∧ InInv H n0 (fun r c => (N0 r c : Rat)) m' σ' H'', fun _ _ h => h, ?_⟩
      have e2' := e2.same s2
      have sH2 := e1.trans s2
      obtain ⟨rs1, l1, l2⟩ := e2'.len
      refine ⟨_, rfl, a1, n, N, rfl, e2', by omega, fun p hp hz hnz => ?_⟩
      refine ⟨_, rfl, a1, _, rfl, .inl (seq_lst l1), rfl, _, rfl, ?_⟩
      have bj := BB_le (j := n0 - n) (by omega)
      dsimp only []
      refine if_mid (fun σ1 H3 => ∃ (a2 : Addr) (N2 : IM), σ1 = [some (.ref a2), some (.int (ps : Int)), some (.int (ng : Int)), some (.int l), s4] ∧ Same H H3 ∧ MatAt H3 a2 n N2 ∧ RcS.IS n0 (fun r c => (N0 r c : Rat)) n N2 l ps ng ∧ (∀ r c, r < n → c < n → (N2 r c).natAbs < 2 ^ (BB (n0 - n) + 2)) ∧ ∃ i, i < n ∧ N2 i i ≠ 0) (fun c rest => ?_) (fun c => ?_) ?_
      · have hpn : p = n := by
          have c := of_decide_eq_true c
          rw [l2] at c
          have := V.int.inj c
          omega
        refine ⟨_, rfl, a1, n, N, rfl, e2', by omega, ⟨r0, c0, hr0, hc0, hz0⟩, (fun i hi => hz i (by omega)), fun i j hi hj hij hz' H3 a2 s3 ha2 hM3 => rest _ _ ⟨a2, _, rfl, sH2.trans s3, hM3, RcS.is_add e4 hi hj hij, iadd_lt hi hj e5, i, hi, ?_⟩⟩
        have sy := RcS.is_sym e4 i j hi hj
        have d1 := hz i (by omega)
        have d2 := hz j (by omega)
        unfold RcS.iadd
        rw [if_pos rfl, if_pos rfl, if_pos rfl, d1, d2, ← sy]
        omega
      · have hpn : p < n := by
          rcases Nat.lt_or_ge p n with z | z
          · exact z
          · exact absurd (decide_eq_true (by rw [l2, show p = n by omega])) c
        exact ⟨a1, N, rfl, sH2, e2', e4, fun r c hr1 hc => up_pow (e5 r c hr1 hc) (by omega), p, hpn, hnz hpn⟩
      · rintro σ1 H3 ⟨a2, N2, rfl, m1, m2, m3, m4, i0, hi0, hd0⟩
        refine ⟨_, rfl, _, rfl, a2, n, N2, rfl, m2, by omega, fun p2 hp2 hz2 hnz2 => ?_⟩
        have p2n : p2 < n := by
          rcases Nat.lt_or_ge p2 n with z | z
          · exact z
          · exact absurd (hz2 i0 (by omega)) hd0
        obtain ⟨m, rfl⟩ : ∃ m, n = m + 1 := ⟨n - 1, by omega⟩
        refine ⟨a2, p2, m + 1, N2, rfl, m2, p2n, by omega, fun H4 a3 s4' ha3 hM4 => ?_⟩
        have hnz := hnz2 p2n
        have sz4 : ∀ r c, r < m + 1 → c < m + 1 → (imv p2 N2 r c).natAbs < 2 ^ (BB (n0 - (m + 1)) + 2) := fun r c h1 h2 => m4 _ _ (front_lt p2n h1) (front_lt p2n h2)
        obtain ⟨rs4, r4, g1, g2, g3, g4⟩ := hM4.row (r := 0) (by omega)
        refine ⟨_, rfl, a3, _, _, _, rfl, rfl, seq_lst g1, atI_nat (j := 0) g3, r4, _, _, _, rfl, rfl, seq_lst g4, atI_nat (j := 0) (by rw [List.getElem?_map, rowOf_get (by omega)]; rfl), ?_⟩
        have lz : l ≠ 0 := by obtain ⟨_, _, _, _, z, _⟩ := e4.ex; exact z
        refine ⟨_, rfl, _, rfl, _, _, rfl, rfl, mulx_ok (sz4 0 0 (by omega) (by omega)) e6 (by omega), _, _, rfl, rfl, _, rfl, ?_⟩
        have step := RcS.is_step m3 p2n hnz
        have key : ∀ (ps' ng' : Nat), RcS.IS n0 (fun r c => (N0 r c : Rat)) m (RcS.ired p2 N2 l) (N2 p2 p2) ps' ng' → ∀ (H5 : Hp) (a5 : Addr), Same H4 H5 → MatAt H5 a5 m (ird (imv p2 N2) l) → ∃ m', m' < m + 1 ∧ InInv H n0 (fun r c => (N0 r c : Rat)) m' [some (.ref a5), some (.int (ps' : Int)), some (.int (ng' : Int)), some (.int (N2 p2 p2)), some (.int (N2 p2 p2))] H5 := by
          intro ps' ng' hI H5 a5 s5 hM5
          have bs : BB (n0 - m) = 2 * (BB (n0 - (m + 1)) + 2) + 1 := by
            rw [show n0 - m = n0 - (m + 1) + 1 by omega, BB_succ]
            omega
          refine ⟨m, Nat.lt_succ_self m, a5, m, _, _, ps', ng', _, rfl, (m1.trans s4').trans s5, hM5, by omega, hI, ?_, ?_, rfl⟩
          · intro r c h1 h2
            rw [bs]
            exact ird_lt sz4 r c h1 h2
          · exact up_pow (m4 p2 p2 p2n p2n) (by omega)
        by_cases c : 0 < N2 p2 p2 * l
        · refine if_true_of (decide_eq_true c) ?_
          refine ⟨_, rfl, _, _, rfl, rfl, ?_⟩
          refine ⟨_, rfl, _, rfl, a3, l, m, imv p2 N2, _, rfl, hM4, by omega, lz, sz4, by omega, fun H5 a5 s5 _ hM5 => ?_⟩
          exact ⟨_, rfl, key (ps + 1) ng (step.1 c) H5 a5 s5 hM5⟩
        · refine if_false_of (decide_eq_false c) ?_
          refine ⟨_, rfl, _, _, rfl, rfl, ?_⟩
          refine ⟨_, rfl, _, rfl, a3, l, m, imv p2 N2, _, rfl, hM4, by omega, lz, sz4, by omega, fun H5 a5 s5 _ hM5 => ?_⟩
          exact ⟨_, rfl, key ps (ng + 1) (step.2 c) H5 a5 s5 hM5⟩
end
end Rc

/-! ## Jn -/
set_option maxHeartbeats 4000000
namespace Rc
open PySem PySem.Spec PyProof.Rows L2 RcF RcG RcH RcI RcJ RcK
section
variable {P : Program} {w : World} {K : PySem.W.Frag} {mg : Str → Option Value} {base : Heap} {R : Addr}
/-! ### check_bits, check_max_power -/
abbrev sCbi : Stmt := top 21
theorem scCbi : FnScope ["bits"] ["bits"] (defScope sCbi) := ⟨rfl, rfl, rfl, by decide +kernel, rfl, by decide +kernel, by decide +kernel⟩
def spMax (K : PySem.W.Frag) (R : Addr) (m : Int) : Sp := fun vs H Q E => ∃ z : Int, vs = [.int z] ∧ (z ≤ m → Q .non H) ∧ (¬ z ≤ m → Er K R E H (-22))
theorem ok_cbi {f : Addr} {fd : FuncData} (F : Fun K "check_bits" "check_bits" sCbi f fd) (C : Cs mg) (D : Ec P w K mg base R "OutOfRange" (-22)) : FnOk P w K mg base (L2.CX P w) 5 f fd ["bits"] (spMax K R 30) := by
  refine F.okX scCbi (fun vs H Q E h => ?_) (fun cdv A outer s H vs Q E hr h => ⟨_, pss_one (ps_if (pt_cmpR op_gt (pv 0) (pe_cst C.bits) (nomark _)) (pss_one (ps_rz rfl (takes_of rfl rfl rfl rfl) D hr)) pss_nil), ?_⟩)
  · obtain ⟨z, rfl, _⟩ := h
    rfl
  · obtain ⟨z, rfl, k1, k2⟩ := h
    refine ⟨_, rfl, _, _, rfl, rfl, _, rfl, ?_⟩
    by_cases c : z ≤ 30
    · exact if_false_of (by simpa using c) (k1 c)
    · exact if_true_of (by simp; omega) ((k2 c).raise (Same.refl H))
abbrev sCmp : Stmt := top 22
theorem scCmp : FnScope ["max_power"] ["max_power"] (defScope sCmp) := ⟨rfl, rfl, rfl, by decide +kernel, rfl, by decide +kernel, by decide +kernel⟩
theorem ok_cmp {f : Addr} {fd : FuncData} (F : Fun K "check_max_power" "check_max_power" sCmp f fd) (C : Cs mg) (D : Ec P w K mg base R "OutOfRange" (-22)) : FnOk P w K mg base (L2.CX P w) 5 f fd ["max_power"] (spMax K R 12) := by
  refine F.okX scCmp (fun vs H Q E h => ?_) (fun cdv A outer s H vs Q E hr h => ⟨_, pss_one (ps_if (pt_cmpR op_gt (pv 0) (pe_cst C.power) (nomark _)) (pss_one (ps_rz rfl (takes_of rfl rfl rfl rfl) D hr)) pss_nil), ?_⟩)
  · obtain ⟨z, rfl, _⟩ := h
    rfl
  · obtain ⟨z, rfl, k1, k2⟩ := h
    refine ⟨_, rfl, _, _, rfl, rfl, _, rfl, ?_⟩
    by_cases c : z ≤ 12
    · exact if_false_of (by simpa using c) (k1 c)
    · exact if_true_of (by simp; omega) ((k2 c).raise (Same.refl H))
/-! ### check_result -/
abbrev sCr : Stmt := top 23
abbrev nCr : List Str := ["polynomial", "limit", "numerator", "denominator"]
theorem scCr : FnScope nCr ["polynomial"] (defScope sCr) := ⟨rfl, rfl, rfl, by decide +kernel, rfl, by decide +kernel, by decide +kernel⟩
def LeL (q : List Rat) : Prop := q.length ≤ 9 ∧ ∀ x ∈ q, x.num.natAbs ≤ 10 ^ 30 ∧ x.den ≤ 10 ^ 30
def spCr (K : PySem.W.Frag) (R : Addr) : Sp := fun vs H Q E => ∃ (a : Addr) (q : List Rat), vs = [.ref a] ∧ PolyAt H a q ∧ (LeL q → Q .non H) ∧ (¬ LeL q → Er K R E H (-75))
theorem ok_cr {f : Addr} {fd : FuncData} (F : Fun K "check_result" "check_result" sCr f fd) (B : BI P mg base) (C : Cs mg) (D : Ec P w K mg base R "TooLarge" (-75)) : FnOk P w K mg base (L2.CX P w) 5 f fd ["polynomial"] (spCr K R) := by
  refine F.okX scCr (fun vs H Q E h => ?_) (fun cdv A outer s H vs Q E hr h => ⟨_, pss_cons (ps_set (i := 1) scCr.nd rfl (Or.inl rfl) (pe_op op_pow pe_int pe_int))
    (pss_cons (ps_if (pt_cmpR op_gt (pe_callB call_len_seq (by rfl) B.len (by decide +kernel) (pa_cons (pv 0) pa_nil)) (pe_cst C.most) (nomark _)) (pss_one (ps_rz rfl (takes_of rfl rfl rfl rfl) D hr)) pss_nil)
    (pss_one (ps_for (passes_of rfl) rfl (pi_list (pv 0)) (pg_tup rfl (pgs_cons (pg_name (i := 2) scCr.nd rfl (Or.inl rfl)) (pgs_cons (pg_name (i := 3) scCr.nd rfl (Or.inl rfl)) pgs_nil)))
      (pss_one (ps_if (PW.pt (pw_or (pt_cmpR op_gt (pe_callB call_abs (by rfl) B.abs (by decide +kernel) (pa_cons (pv 2) pa_nil)) (pv 1) (nomark _)) (pw_or1 (pt_cmpR op_gt (pv 3) (pv 1) (nomark _)))))
        (pss_one (ps_rz rfl (takes_of rfl rfl rfl rfl) D hr)) pss_nil))))), ?_⟩)
  · obtain ⟨a, q, rfl, _⟩ := h
    rfl
  · obtain ⟨a, q, rfl, hq, k1, k2⟩ := h
    obtain ⟨rs, ha, hf⟩ := hq
    have lrs := hf.len
    have er : ∀ (c : ¬ LeL q), Er K R E H (-75) := k2
    refine ⟨_, _, rfl, rfl, ⟨by decide, by decide, by decide⟩, ?_⟩
    refine ⟨_, rfl, a, _, rfl, .inl (seq_lst ha), _, _, rfl, rfl, _, rfl, ?_⟩
    by_cases c : q.length ≤ 9
    · refine if_false_of (by rw [ri_len, lrs]; simp; omega) ?_
      refine ⟨_, rfl, a, rfl, ⟨_, seq_lst ha⟩, for_list (K := K) (a := a) (xs := RI rs) (fun i σ H' => ∃ s2 s3 : Option V, σ = [some (.ref a), some (.int ((10 : Int) ^ 30)), s2, s3] ∧ H' = H ∧ ∀ x ∈ q.take i, x.num.natAbs ≤ 10 ^ 30 ∧ x.den ≤ 10 ^ 30) ⟨none, none, rfl, rfl, fun x hx => by simp at hx⟩ (fun i σ H' _ ⟨_, _, _, e, _⟩ => by rw [e]; exact seq_lst ha) ?_ ?_⟩
      · rintro i x σ H' hi ⟨s2, s3, rfl, rfl, hx⟩
        obtain ⟨r, hr1, rfl⟩ := ri_get hi
        obtain ⟨x, hxq, ex⟩ := hf.get hr1
        have xm := List.mem_of_getElem? hxq
        refine ⟨r, _, rfl, .inl (.inl ex), rfl, _, _, rfl, _, _, rfl, rfl, ?_⟩
        have ab : ∀ i : Int, (if i < 0 then -i else i) = (i.natAbs : Int) := fun i => by split <;> omega
        refine ⟨_, rfl, _, rfl, _, rfl, _, _, rfl, rfl, _, rfl, ?_⟩
        rw [ab]
        by_cases c1 : x.num.natAbs ≤ 10 ^ 30
        · refine if_false_of (decide_eq_false (by omega)) ⟨_, rfl, _, rfl, _, _, rfl, rfl, _, rfl, ?_⟩
          by_cases c2 : x.den ≤ 10 ^ 30
          · refine if_false_of (decide_eq_false (by omega)) ⟨_, _, rfl, rfl, fun y hy => ?_⟩
            rw [take_more hxq, List.mem_append] at hy
            rcases hy with hy | hy
            · exact hx y hy
            · rw [List.mem_singleton.mp hy]
              exact ⟨c1, c2⟩
          · exact if_true_of (decide_eq_true (by omega)) ((k2 fun h => c2 (h.2 x xm).2).raise (Same.refl _))
        · exact if_true_of (decide_eq_true (by omega)) (if_true_of rfl ((k2 fun h => c1 (h.2 x xm).1).raise (Same.refl _)))
      · rintro σ H' ⟨s2, s3, rfl, rfl, hx⟩
        rw [ri_len, lrs, List.take_length] at hx
        exact k1 ⟨c, hx⟩
    · exact if_true_of (by rw [ri_len, lrs]; simp; omega) ((k2 fun h => c h.1).raise (Same.refl _))
end
end Rc

/-! ## Jo -/
set_option maxHeartbeats 4000000
namespace Rc
open PySem PySem.Spec PyProof.Rows L2 RcF RcG RcH RcI RcJ RcK
section
variable {P : Program} {w : World} {K : PySem.W.Frag} {mg : Str → Option Value} {base : Heap} {R : Addr}
/-! ### store_result -/
abbrev sSr : Stmt := top 81
abbrev nSr : List Str := ["slots", "target", "polynomial"]
theorem scSr : FnScope nSr nSr (defScope sSr) := ⟨rfl, rfl, rfl, by decide +kernel, rfl, by decide +kernel, by decide +kernel⟩
/-- the stored polynomial is answered -/
def Stored (H : Hp) (S : Addr) (l : List (List Rat)) (z : Int) (q : List Rat) (Q : VK) : Prop := ∀ (H' : Hp) (l' : Addr), After H S H' → Slots H' S (some (l.set z.toNat q)) → H l' = none → H' l' = some (.lst (LI (counted q))) → Q (.ref l') H'
def spSr (K : PySem.W.Frag) (R : Addr) : Sp := fun vs H Q E => ∃ (S r : Addr) (z : Int) (l : List (List Rat)) (q : List Rat), vs = [.ref S, .int z, .ref r] ∧ Slots H S (some l) ∧ 0 ≤ z ∧ z < 4 ∧ PolyAt H r q ∧ r ≠ S ∧ RcA.Tr q ∧ (LeL q → Stored H S l z q Q) ∧ (¬ LeL q → Er K R E H (-75))
theorem ok_sr {f : Addr} {fd : FuncData} (F : Fun K "store_result" "store_result" sSr f fd) (D1 : DnX P w K mg base "check_result" 5 ["polynomial"] (spCr K R)) (D2 : Dn P w K mg base "counted_pairs" 1 ["pairs"] spCo) : FnOk P w K mg base (L2.CX P w) 6 f fd nSr (spSr K R) := by
  refine F.okX scSr (fun vs H Q E h => ?_) (fun cdv A outer s H vs Q E hr h => ⟨_, pss_cons (ps_expr (pe_fnX D1 (takes_of rfl rfl rfl rfl) hr (pa_cons (pv 2) pa_nil)))
    (pss_cons (ps_asg (pv 2) (pg_sub (pv 0) (pv 1) set_list))
    (pss_one (ps_ret (pe_fn D2 (hr.mono (by decide)) (pa_cons (pv 2) pa_nil))))), ?_⟩)
  · obtain ⟨S, r, z, l, q, rfl, _⟩ := h
    rfl
  · obtain ⟨S, r, z, l, q, rfl, hS, z0, z4, hp, rS, ht, k1, k2⟩ := h
    refine ⟨_, rfl, r, q, rfl, hp, fun c => ?_, k2⟩
    have k1 := k1 c
    obtain ⟨rs, g1, g2, g3, g4, g5, g6⟩ := slots_set hS z0 z4 hp ⟨ht, c.1, c.2⟩ rS
    refine ⟨_, rfl, _, rfl, _, rfl, S, _, z, z.toNat, rfl, rfl, g1, g2, ?_⟩
    rw [g3]
    have ps := (after_upd H S (.lst (RI (rs.set z.toNat r)))).poly g1 rS hp
    refine ⟨_, rfl, r, q, rfl, ps, Nat.le_trans c.1 (by decide), fun H' l' s' hl' el' => ?_⟩
    have hl0 : H l' = none := (after_upd H S _).free upd_same hl'
    exact k1 H' l' ((after_upd H S _).trans (.of_same s')) (g6.same s') hl0 el'
/-! ### counted_pairs of any pairs -/
/-- pairs at these addresses -/
def Prs (H : Hp) : List Addr → List (Int × Int) → Prop
  | [], [] => True
  | r :: rs, x :: xs => H r = some (.tup [.int x.1, .int x.2]) ∧ Prs H rs xs
  | _, _ => False
theorem Prs.len {H : Hp} : ∀ {rs : List Addr} {xs : List (Int × Int)}, Prs H rs xs → rs.length = xs.length
  | [], [], _ => rfl
  | _ :: _, _ :: _, h => congrArg (· + 1) h.2.len
  | [], _ :: _, h => h.elim
  | _ :: _, [], h => h.elim
theorem Prs.keep {H H1 : Hp} (k : ∀ b xs, H b = some (.tup xs) → H1 b = some (.tup xs)) : ∀ {rs : List Addr} {xs : List (Int × Int)}, Prs H rs xs → Prs H1 rs xs
  | [], [], _ => True.intro
  | r :: _, _ :: _, h => ⟨k _ _ h.1, h.2.keep k⟩
  | [], _ :: _, h => h.elim
  | _ :: _, [], h => h.elim
theorem Prs.get {H : Hp} : ∀ {rs : List Addr} {xs : List (Int × Int)} {i : Nat} {r : Addr}, Prs H rs xs → rs[i]? = some r → ∃ x, xs[i]? = some x ∧ H r = some (.tup [.int x.1, .int x.2])
  | [], [], i, r, _, e => by simp at e
  | r0 :: rs, p :: ps, 0, r, h, e => by
    obtain rfl : r0 = r := by simpa using e
    exact ⟨p, rfl, h.1⟩
  | r0 :: rs, p :: ps, i + 1, r, h, e => by
    obtain ⟨q, h1, h2⟩ := Prs.get (i := i) (r := r) h.2 (by simpa using e)
    exact ⟨q, by simpa using h1, h2⟩
  | [], _ :: _, _, _, h, _ => h.elim
  | _ :: _, [], _, _, h, _ => h.elim
theorem Prs.snoc {H : Hp} {r : Addr} {x : Int × Int} (hr : H r = some (.tup [.int x.1, .int x.2])) : ∀ {rs : List Addr} {xs : List (Int × Int)}, Prs H rs xs → Prs H (rs ++ [r]) (xs ++ [x])
  | [], [], _ => ⟨hr, True.intro⟩
  | _ :: _, _ :: _, h => ⟨h.1, Prs.snoc hr h.2⟩
  | [], _ :: _, h => h.elim
  | _ :: _, [], h => h.elim
def paired (q : List (Int × Int)) : List Int := (q.length : Int) :: q.flatMap fun x => [x.1, x.2]
def spCo2 : Sp := fun vs H Q _ => ∃ (a : Addr) (rs : List Addr) (q : List (Int × Int)), vs = [.ref a] ∧ H a = some (.lst (RI rs)) ∧ Prs H rs q ∧ q.length ≤ 400 ∧ RetL H Q (paired q)
theorem paired_snoc (q : List (Int × Int)) (n : Int) (x : Int × Int) : n :: (q ++ [x]).flatMap (fun x => [x.1, x.2]) = (n :: q.flatMap fun x => [x.1, x.2]) ++ [x.1] ++ [x.2] := by
  rw [List.flatMap_append]
  simp
theorem ok_co2 {f : Addr} {fd : FuncData} (F : Fun K "counted_pairs" "counted_pairs" sCo f fd) (B : BI P mg base) : FnOk P w K mg base CX0 1 f fd ["pairs"] spCo2 := by
  refine F.ok scCo (fun vs H Q E h => ?_) (fun cdv A outer s H vs Q E hr h => ⟨_, pss_cons (ps_set (i := 1) scCo.nd rfl (Or.inl rfl) (pe_lst (pa_cons (pe_callB call_len_seq (by rfl) B.len (by decide +kernel) (pa_cons (pv 0) pa_nil)) pa_nil)))
    (pss_cons (ps_for PassesOwn.never rfl (pi_list (pv 0)) (pg_tup rfl (pgs_cons (pg_name (i := 2) scCo.nd rfl (Or.inl rfl)) (pgs_cons (pg_name (i := 3) scCo.nd rfl (Or.inl rfl)) pgs_nil)))
      (pss_cons (ps_expr (pe_bm PySem.F.plainAttrs_list PySem.F.slot_list_append PySem.F.type_list_append mt_append (pv 1) (pa_cons (pv 2) pa_nil)))
      (pss_one (ps_expr (pe_bm PySem.F.plainAttrs_list PySem.F.slot_list_append PySem.F.type_list_append mt_append (pv 1) (pa_cons (pv 3) pa_nil))))))
    (pss_one (ps_ret (pv 1)))), ?_⟩)
  · obtain ⟨a, rs, q, rfl, _⟩ := h
    rfl
  · obtain ⟨a, rs, q, rfl, ha, hf, hl, k⟩ := h
    refine ⟨_, rfl, a, _, rfl, .inl (seq_lst ha), by show 1 ≤ sizeLine; decide, fun l hl2 => ?_⟩
    rw [ri_len, hf.len]
    refine ⟨_, rfl, a, rfl, ⟨_, (same_new hl2).seq (seq_lst ha)⟩, for_list (K := K) (a := a) (xs := RI rs) (fun i σ H' => ∃ s2 s3 : Option V, σ = [some (.ref a), some (.ref l), s2, s3] ∧ H' = upd H l (.lst (LI ((q.length : Int) :: (q.take i).flatMap fun x => [x.1, x.2])))) ⟨none, none, rfl, rfl⟩ (fun i σ H' _ ⟨_, _, _, e⟩ => by rw [e]; exact (same_new hl2).seq (seq_lst ha)) ?_ ?_⟩
    · rintro i x σ H' hi ⟨s2, s3, rfl, rfl⟩
      obtain ⟨r, hr1, rfl⟩ := ri_get hi
      obtain ⟨x, hx, ex⟩ := hf.get hr1
      have fl : ∀ q : List (Int × Int), (q.flatMap fun x => [x.1, x.2]).length = 2 * q.length := by
        intro q
        induction q with
        | nil => rfl
        | cons y q ih => rw [List.flatMap_cons, List.length_append, ih, List.length_cons]; simp; omega
      have hi2 : i < q.length := (List.getElem?_eq_some_iff.mp hx).1
      refine ⟨r, _, rfl, .inl (.inl (same_new hl2 _ _ ex)), rfl, _, _, rfl, _, _, rfl, rfl, ?_⟩
      refine ⟨_, rfl, .inl ⟨rfl, _, seq_lst upd_same⟩, _, rfl, l, _, _, rfl, rfl, upd_same, small1000 (by rw [li_len, List.length_cons, fl, List.length_take]; omega), ?_⟩
      refine ⟨_, rfl, .inl ⟨rfl, _, seq_lst upd_same⟩, _, rfl, l, _, _, rfl, rfl, upd_same, small1000 (by rw [List.length_append, li_len, List.length_cons, fl, List.length_take]; simp; omega), _, _, rfl, ?_⟩
      rw [upd_upd, upd_upd, take_more hx, paired_snoc, li_snoc, li_snoc]
    · rintro σ H' ⟨s2, s3, rfl, rfl⟩
      rw [ri_len, hf.len, List.take_length]
      exact ⟨_, rfl, k.new hl2⟩
end
end Rc

/-! ## Jp -/
set_option maxHeartbeats 4000000
namespace Rc
open PySem PySem.Spec PyProof.Rows L2 RcF RcG RcH RcI RcJ RcK
theorem nat_cast {k : Int} (h : 0 ≤ k) : ((Kqg1Neutral.nat k : Nat) : Int) = k := by unfold Kqg1Neutral.nat; omega
section
variable {P : Program} {w : World} {K : PySem.W.Frag} {mg : Str → Option Value} {base : Heap} {R : Addr}
/-! ### root_floor -/
abbrev sOp11 : Stmt := top 93
abbrev nOp11 : List Str := ["slots", "arguments", "slot", "k", "bits", "polynomial", "distinct", "total"]
theorem scOp11 : FnScope nOp11 nOp (defScope sOp11) := ⟨rfl, rfl, rfl, by decide +kernel, rfl, by decide +kernel, by decide +kernel⟩
theorem ok_op11 {f : Addr} {fd : FuncData} (F : Fun K "root_floor" "root_floor" sOp11 f fd) (D1 : DnX P w K mg base "nonzero_polynomial" 7 ["slots", "slot"] (spNz K R)) (D2 : DnX P w K mg base "check_bits" 5 ["bits"] (spMax K R 30))
    (D3 : Dn P w K mg base "count_all" 48 ["polynomial"] spAl) (D4 : Dn P w K mg base "whole_multiple" 43 ["polynomial"] spWm) (D5 : Dn P w K mg base "floor_of_root" 47 ["polynomial", "k", "bits"] spFl) (D : Ec P w K mg base R "NoSuchRoot" (-34)) : FnOk P w K mg base (L2.CX P w) 60 f fd nOp (spOp K R 11) := by
  refine F.okX scOp11 spOp_len (fun cdv A outer s H vs Q E hr h => ⟨_, pss_cons (ps_asg (pv 1) (pg_unl rfl (pgs_cons (pg_name (i := 2) scOp11.nd rfl (Or.inl rfl)) (pgs_cons (pg_name (i := 3) scOp11.nd rfl (Or.inl rfl)) (pgs_cons (pg_name (i := 4) scOp11.nd rfl (Or.inl rfl)) pgs_nil)))))
    (pss_cons (ps_set (i := 5) scOp11.nd rfl (Or.inl rfl) (pe_fnX D1 (takes_of rfl rfl rfl rfl) (hr.mono (by decide)) (pa_cons (pv 0) (pa_cons (pv 2) pa_nil))))
    (pss_cons (ps_expr (pe_fnX D2 (takes_of rfl rfl rfl rfl) (hr.mono (by decide)) (pa_cons (pv 4) pa_nil)))
    (pss_cons (ps_asg (pe_fn D3 (hr.mono (by decide)) (pa_cons (pv 5) pa_nil)) (pg_tup rfl (pgs_cons (pg_name (i := 6) scOp11.nd rfl (Or.inl rfl)) (pgs_cons (pg_name (i := 7) scOp11.nd rfl (Or.inl rfl)) pgs_nil))))
    (pss_cons (ps_if (pt_cmpR op_ge (pv 3) (pv 7) (nomark _)) (pss_one (ps_rz rfl (takes_of rfl rfl rfl rfl) D (hr.mono (by decide)))) pss_nil)
    (pss_one (ps_ret (pe_lst (pa_cons pe_int (pa_cons (pe_fn D5 (hr.mono (by decide)) (pa_cons (pe_fn D4 (hr.mono (by decide)) (pa_cons (pv 5) pa_nil)) (pa_cons (pv 3) (pa_cons (pv 4) pa_nil)))) pa_nil))))))))), ?_⟩)
  obtain ⟨S, a, c, st, rfl, hS, hA, hc, hst, k⟩ := h
  cases hc with
  | floor x kk b h1 h2 h3 =>
  obtain ⟨l, rfl⟩ := hst.resolve_left (by decide)
  obtain ⟨e1, e2, e3⟩ := step_nz (c := [[11, x, kk, b]]) (k := fun p => if 30 < Kqg1Neutral.nat b then .value (-22) else if Kqg1.realRootCount p ≤ Kqg1Neutral.nat kk then .value (-34) else .values 0 [Kqg1.rootFloor p (Kqg1Neutral.nat kk) (Kqg1Neutral.nat b)]) h1 rfl
  refine ⟨_, rfl, a, _, rfl, seq_lst hA, rfl, _, _, rfl, _, _, rfl, _, _, rfl, rfl, ?_⟩
  refine ⟨_, rfl, _, rfl, S, x, l, rfl, hS, h1, fun c1 r q g qn => ?_, fun c1 g => k.2 _ (e2 c1 g), fun c1 => k.2 _ (e1 c1)⟩
  have e := e3 q c1 g.1 qn
  have kb := nat_cast h3
  have kk' := nat_cast h2
  refine ⟨_, rfl, b, rfl, fun c2 => ?_, fun c2 => ?_⟩
  · rw [if_neg (by omega)] at e
    refine ⟨_, rfl, r, q, rfl, g.2.1, g.2.2, fun H1 t s1 ht et => ?_⟩
    refine ⟨t, _, rfl, .inl (.inl et), rfl, _, _, rfl, _, _, rfl, rfl, ?_⟩
    refine ⟨_, rfl, _, rfl, _, _, rfl, rfl, _, rfl, ?_⟩
    by_cases c3 : Kqg1.realRootCount q ≤ Kqg1Neutral.nat kk
    · rw [if_pos c3] at e
      unfold Kqg1.realRootCount at c3
      exact if_true_of (by simp; omega) (((k.2 _ e).later s1).raise (Same.refl _))
    · rw [if_neg c3] at e
      unfold Kqg1.realRootCount at c3
      refine if_false_of (by simp; omega) ?_
      refine ⟨_, rfl, r, q, rfl, g.2.1.same s1, g.2.2, fun H2 t2 s2 ht2 et2 => ?_⟩
      refine ⟨_, rfl, _, rfl, t2, q, Kqg1Neutral.nat kk, Kqg1Neutral.nat b, by rw [kk', kb]; rfl, et2, g.2.2, qn, by omega, by omega, fun H3 s3 => ?_⟩
      refine ⟨by show 2 ≤ sizeLine; decide, fun l' hl => ?_⟩
      exact (k.give hS e).later ((s1.trans s2).trans s3) (same_new hl) hl upd_same
  · rw [if_pos (by omega)] at e
    exact k.2 _ e
/-! ### root_bound -/
abbrev sOp12 : Stmt := top 94
theorem scOp12 : FnScope nOp nOp (defScope sOp12) := ⟨rfl, rfl, rfl, by decide +kernel, rfl, by decide +kernel, by decide +kernel⟩
theorem ok_op12 {f : Addr} {fd : FuncData} (F : Fun K "root_bound" "root_bound" sOp12 f fd) (D1 : DnX P w K mg base "nonzero_polynomial" 7 ["slots", "slot"] (spNz K R)) (D2 : Dn P w K mg base "whole_multiple" 43 ["polynomial"] spWm) (D3 : Dn P w K mg base "cauchy_bound" 42 ["polynomial"] spCb) : FnOk P w K mg base (L2.CX P w) 60 f fd nOp (spOp K R 12) := by
  refine F.okX scOp12 spOp_len (fun cdv A outer s H vs Q E hr h => ⟨_, pss_one (ps_ret (pe_lst (pa_cons (pe_fn D3 (hr.mono (by decide)) (pa_cons (pe_fn D2 (hr.mono (by decide)) (pa_cons (pe_fnX D1 (takes_of rfl rfl rfl rfl) (hr.mono (by decide)) (pa_cons (pv 0) (pa_cons (pe_ix ix_list (pv 1) pe_int (fun _ _ => rfl)) pa_nil))) pa_nil)) pa_nil)) pa_nil))), ?_⟩)
  obtain ⟨S, a, c, st, rfl, hS, hA, hc, hst, k⟩ := h
  cases hc with
  | bound x h1 =>
  obtain ⟨l, rfl⟩ := hst.resolve_left (by decide)
  obtain ⟨e1, e2, e3⟩ := step_nz (c := [[12, x]]) (k := fun p => .value (Kqg1.rootBound p)) h1 rfl
  refine ⟨_, rfl, _, rfl, a, _, 0, .int x, rfl, rfl, seq_lst hA, atI_nat (j := 0) rfl, S, x, l, rfl, hS, h1, fun c1 r q g qn => ?_, fun c1 g => k.2 _ (e2 c1 g), fun c1 => k.2 _ (e1 c1)⟩
  have e := e3 q c1 g.1 qn
  have rl := rl_wm g.2.2.1
  have wn : wm q ≠ [] := fun z => qn (rl.nil.mp z)
  refine ⟨r, q, rfl, g.2.1, g.2.2, fun H1 t s1 ht et => ?_⟩
  refine ⟨t, wm q, rfl, et, wn, rl.last_ne wn, by rw [wm_len]; exact Nat.le_trans g.2.2.2.1 (by decide), fun G hG1 hG2 H2 s2 => ?_⟩
  rw [RcP.cauchy_is rl wn hG1 hG2]
  refine ⟨by show 1 ≤ sizeLine; decide, fun l' hl => ?_⟩
  exact (k.give hS e).later (s1.trans s2) (same_new hl) hl upd_same
end
end Rc

/-! ## Jq -/
set_option maxHeartbeats 4000000
namespace Rc
open PySem PySem.Spec PyProof.Rows L2 RcF RcG RcH RcI RcJ RcK
/-! ### what is due where a result is stored -/
def stp (l : List (List Rat)) (z : Int) (p : List Rat) : St × List Int := ((Kqg1.store l (Kqg1Neutral.nat z) p).1, Kqg1Neutral.fields (Kqg1.store l (Kqg1Neutral.nat z) p).2)
theorem store_is (l : List (List Rat)) (z : Int) (p : List Rat) : (LeL p → stp l z p = (some (l.set z.toNat p), counted p)) ∧ (¬ LeL p → stp l z p = (some l, [-75])) := by
  unfold stp Kqg1.store
  constructor
  · intro h
    rw [if_pos ((isSmall_iff p).mpr h)]
    rfl
  · intro h
    rw [if_neg fun z => h ((isSmall_iff p).mp z)]
    rfl
theorem Ans.store {K : PySem.W.Frag} {R : Addr} {H H1 : Hp} {S : Addr} {Q : VK} {E : XK} {l : List (List Rat)} {c : List (List Int)} {z : Int} {p : List Rat} (k : Ans K R H S Q E (some l) c) (e : Kqg1Neutral.step (some l) c = stp l z p) (s1 : Same H H1) :
    (LeL p → Stored H1 S l z p Q) ∧ (¬ LeL p → Er K R E H1 (-75)) := by
  obtain ⟨a, b⟩ := store_is l z p
  refine ⟨fun h H' l' aft sl hl' el' => ?_, fun h => (k.2 _ (e.trans (b h))).later s1⟩
  have e' := e.trans (a h)
  exact k.1 H' l' ((After.of_same s1).trans aft) (by rw [e']; exact sl) (s1.free hl') (by rw [e']; exact el')
theorem in_is {l : List (List Rat)} {x : Int} {q : List Rat} (h : l[x.toNat]? = some q) : Kqg1.polynomialIn l (Kqg1Neutral.nat x) = q := by
  unfold Kqg1.polynomialIn Kqg1Neutral.nat
  rw [List.getD_eq_getElem?_getD, h]
  rfl
theorem no2 (x y : Int) : Kqg1.noSlot (Kqg1Neutral.nat x) (Kqg1Neutral.nat y) 0 = true ↔ ¬ (x < 4 ∧ y < 4) := by
  unfold Kqg1.noSlot Kqg1.slotCount Kqg1Neutral.nat
  rw [Bool.or_eq_true, Bool.or_eq_true, decide_eq_true_iff, decide_eq_true_iff, decide_eq_true_iff]
  omega
theorem no3 (x y z : Int) : Kqg1.noSlot (Kqg1Neutral.nat x) (Kqg1Neutral.nat y) (Kqg1Neutral.nat z) = true ↔ ¬ (x < 4 ∧ y < 4 ∧ z < 4) := by
  unfold Kqg1.noSlot Kqg1.slotCount Kqg1Neutral.nat
  rw [Bool.or_eq_true, Bool.or_eq_true, decide_eq_true_iff, decide_eq_true_iff, decide_eq_true_iff]
  omega
theorem step_sqf (l : List (List Rat)) (x y : Int) : (¬ (x < 4 ∧ y < 4) → Kqg1Neutral.step (some l) [[13, x, y]] = (some l, [-2])) ∧ (x < 4 → y < 4 → l[x.toNat]? = some [] → Kqg1Neutral.step (some l) [[13, x, y]] = (some l, [-33])) ∧
    (∀ q, x < 4 → y < 4 → l[x.toNat]? = some q → q ≠ [] → Kqg1Neutral.step (some l) [[13, x, y]] = stp l y (Kqg1.monic (Kqg1.squarefree q))) := by
  have e : Kqg1Neutral.step (some l) [[13, x, y]] = (let r := (if Kqg1.noSlot (Kqg1Neutral.nat x) (Kqg1Neutral.nat y) 0 then (some l, Kqg1.Result.value (-2)) else if Kqg1.polynomialIn l (Kqg1Neutral.nat x) = [] then (some l, Kqg1.Result.value (-33)) else Kqg1.store l (Kqg1Neutral.nat y) (Kqg1.monic (Kqg1.squarefree (Kqg1.polynomialIn l (Kqg1Neutral.nat x)))));
    (r.1, Kqg1Neutral.fields r.2)) := rfl
  refine ⟨fun h => ?_, fun h1 h2 g => ?_, fun q h1 h2 g n => ?_⟩
  · rw [e, if_pos ((no2 x y).mpr h)]; rfl
  · rw [e, if_neg (fun z => (no2 x y).mp z ⟨h1, h2⟩), if_pos (in_is g)]; rfl
  · rw [e, if_neg (fun z => (no2 x y).mp z ⟨h1, h2⟩), in_is g, if_neg n]; rfl
theorem step_gcd (l : List (List Rat)) (x y z : Int) : (¬ (x < 4 ∧ y < 4 ∧ z < 4) → Kqg1Neutral.step (some l) [[14, x, y, z]] = (some l, [-2])) ∧ (x < 4 → y < 4 → z < 4 → l[x.toNat]? = some [] ∨ l[y.toNat]? = some [] → Kqg1Neutral.step (some l) [[14, x, y, z]] = (some l, [-33])) ∧
    (∀ p q, x < 4 → y < 4 → z < 4 → l[x.toNat]? = some p → l[y.toNat]? = some q → p ≠ [] → q ≠ [] → Kqg1Neutral.step (some l) [[14, x, y, z]] = stp l z (Kqg1.gcd p q)) := by
  have e : Kqg1Neutral.step (some l) [[14, x, y, z]] = (let r := (if Kqg1.noSlot (Kqg1Neutral.nat x) (Kqg1Neutral.nat y) (Kqg1Neutral.nat z) then (some l, Kqg1.Result.value (-2)) else if Kqg1.polynomialIn l (Kqg1Neutral.nat x) = [] ∨ Kqg1.polynomialIn l (Kqg1Neutral.nat y) = [] then (some l, Kqg1.Result.value (-33)) else Kqg1.store l (Kqg1Neutral.nat z) (Kqg1.gcd (Kqg1.polynomialIn l (Kqg1Neutral.nat x)) (Kqg1.polynomialIn l (Kqg1Neutral.nat y))));
    (r.1, Kqg1Neutral.fields r.2)) := rfl
  refine ⟨fun h => ?_, fun h1 h2 h3 g => ?_, fun p q h1 h2 h3 g1 g2 n1 n2 => ?_⟩
  · rw [e, if_pos ((no3 x y z).mpr h)]; rfl
  · rw [e, if_neg (fun w => (no3 x y z).mp w ⟨h1, h2, h3⟩), if_pos (g.imp in_is in_is)]; rfl
  · rw [e, if_neg (fun w => (no3 x y z).mp w ⟨h1, h2, h3⟩), in_is g1, in_is g2, if_neg (fun w => w.elim n1 n2)]; rfl
theorem step_der (l : List (List Rat)) (x y : Int) : (¬ (x < 4 ∧ y < 4) → Kqg1Neutral.step (some l) [[15, x, y]] = (some l, [-2])) ∧ (∀ q, x < 4 → y < 4 → l[x.toNat]? = some q → Kqg1Neutral.step (some l) [[15, x, y]] = stp l y (Kqg1.derivative q)) := by
  have e : Kqg1Neutral.step (some l) [[15, x, y]] = (let r := (if Kqg1.noSlot (Kqg1Neutral.nat x) (Kqg1Neutral.nat y) 0 then (some l, Kqg1.Result.value (-2)) else Kqg1.store l (Kqg1Neutral.nat y) (Kqg1.derivative (Kqg1.polynomialIn l (Kqg1Neutral.nat x))));
    (r.1, Kqg1Neutral.fields r.2)) := rfl
  refine ⟨fun h => ?_, fun q h1 h2 g => ?_⟩
  · rw [e, if_pos ((no2 x y).mpr h)]; rfl
  · rw [e, if_neg (fun z => (no2 x y).mp z ⟨h1, h2⟩), in_is g]; rfl
theorem step_mul (l : List (List Rat)) (x y z : Int) : (¬ (x < 4 ∧ y < 4 ∧ z < 4) → Kqg1Neutral.step (some l) [[16, x, y, z]] = (some l, [-2])) ∧
    (∀ p q, x < 4 → y < 4 → z < 4 → l[x.toNat]? = some p → l[y.toNat]? = some q → Kqg1Neutral.step (some l) [[16, x, y, z]] = stp l z (Kqg1.multiply p q)) := by
  have e : Kqg1Neutral.step (some l) [[16, x, y, z]] = (let r := (if Kqg1.noSlot (Kqg1Neutral.nat x) (Kqg1Neutral.nat y) (Kqg1Neutral.nat z) then (some l, Kqg1.Result.value (-2)) else Kqg1.store l (Kqg1Neutral.nat z) (Kqg1.multiply (Kqg1.polynomialIn l (Kqg1Neutral.nat x)) (Kqg1.polynomialIn l (Kqg1Neutral.nat y))));
    (r.1, Kqg1Neutral.fields r.2)) := rfl
  refine ⟨fun h => ?_, fun p q h1 h2 h3 g1 g2 => ?_⟩
  · rw [e, if_pos ((no3 x y z).mpr h)]; rfl
  · rw [e, if_neg (fun w => (no3 x y z).mp w ⟨h1, h2, h3⟩), in_is g1, in_is g2]; rfl
theorem sqf_ne {q : List Rat} (h : RcA.Tr q) (hn : q ≠ []) : Kqg1.squarefree q ≠ [] := by
  by_cases h2 : 2 ≤ q.length
  · have := (RcC.sqf_is h h2).2.1
    intro z
    rw [z] at this
    exact absurd this (by decide)
  · unfold Kqg1.squarefree
    rw [if_pos (by omega)]
    exact hn
/-- a new list is not the slots' -/
theorem Slots.ne {H : Hp} {S r : Addr} {l : List (List Rat)} (h : Slots H S (some l)) (hr : H r = none) : r ≠ S := fun z => by
  obtain ⟨rs, e, _⟩ := h
  rw [z, e] at hr
  cases hr
theorem gcd_bears {p g : List Int} (h1 : p.length ≤ 9) (h2 : g.length ≤ 9) : Bears 1000 p g := by
  have b : ∀ m n, m ≤ 9 → gf m n ≤ 2 * 3 ^ 9 := fun m n h => by
    have : 3 ^ m ≤ 3 ^ 9 := Nat.pow_le_pow_right (by decide) h
    unfold gf
    split <;> omega
  rcases Nat.lt_or_ge p.length g.length with c | c
  · exact .inr ⟨c, Nat.le_trans (Nat.mul_le_mul_left _ (b _ _ h2)) (by decide)⟩
  · exact .inl ⟨c, Nat.le_trans (Nat.mul_le_mul_left _ (b _ _ h1)) (by decide)⟩
end Rc

/-! ## Jr -/
set_option maxHeartbeats 4000000
namespace Rc
open PySem PySem.Spec PyProof.Rows L2 RcF RcG RcH RcI RcJ RcK
theorem iquotL_len : ∀ (s : Nat) (r g q : List Int), (iquotL s r g q).length = s + q.length
  | 0, r, g, q => by rw [iquotL]; omega
  | s + 1, r, g, q => by rw [iquotL, iquotL_len s, List.length_cons]; omega
theorem isqf_len (P : List Int) : (RcR.isqf P).length ≤ P.length := by
  unfold RcR.isqf iquot
  rw [iquotL_len, List.length_nil]
  omega
section
variable {P : Program} {w : World} {K : PySem.W.Frag} {mg : Str → Option Value} {base : Heap} {R : Addr}
/-! ### squarefree -/
abbrev sOp13 : Stmt := top 95
abbrev nOp13 : List Str := ["slots", "arguments", "source", "target", "polynomial"]
theorem scOp13 : FnScope nOp13 nOp (defScope sOp13) := ⟨rfl, rfl, rfl, by decide +kernel, rfl, by decide +kernel, by decide +kernel⟩
theorem ok_op13 {f : Addr} {fd : FuncData} (F : Fun K "squarefree" "squarefree" sOp13 f fd) (D1 : DnX P w K mg base "check_slot" 5 ["slot"] (spCs K R)) (D2 : DnX P w K mg base "nonzero_polynomial" 7 ["slots", "slot"] (spNz K R))
    (D3 : Dn P w K mg base "whole_multiple" 43 ["polynomial"] spWm) (D4 : Dn P w K mg base "squarefree_part" 45 ["polynomial"] spSq) (D5 : Dn P w K mg base "monic" 44 ["whole_polynomial"] spMo) (D6 : DnX P w K mg base "store_result" 6 nSr (spSr K R)) : FnOk P w K mg base (L2.CX P w) 60 f fd nOp (spOp K R 13) := by
  refine F.okX scOp13 spOp_len (fun cdv A outer s H vs Q E hr h => ⟨_, pss_cons (ps_asg (pv 1) (pg_unl rfl (pgs_cons (pg_name (i := 2) scOp13.nd rfl (Or.inl rfl)) (pgs_cons (pg_name (i := 3) scOp13.nd rfl (Or.inl rfl)) pgs_nil))))
    (pss_cons (ps_expr (pe_fnX D1 (takes_of rfl rfl rfl rfl) (hr.mono (by decide)) (pa_cons (pv 2) pa_nil)))
    (pss_cons (ps_expr (pe_fnX D1 (takes_of rfl rfl rfl rfl) (hr.mono (by decide)) (pa_cons (pv 3) pa_nil)))
    (pss_cons (ps_set (i := 4) scOp13.nd rfl (Or.inl rfl) (pe_fnX D2 (takes_of rfl rfl rfl rfl) (hr.mono (by decide)) (pa_cons (pv 0) (pa_cons (pv 2) pa_nil))))
    (pss_one (ps_ret (pe_fnX D6 (takes_of rfl rfl rfl rfl) (hr.mono (by decide)) (pa_cons (pv 0) (pa_cons (pv 3) (pa_cons (pe_fn D5 (hr.mono (by decide)) (pa_cons (pe_fn D4 (hr.mono (by decide)) (pa_cons (pe_fn D3 (hr.mono (by decide)) (pa_cons (pv 4) pa_nil)) pa_nil)) pa_nil)) pa_nil))))))))), ?_⟩)
  obtain ⟨S, a, c, st, rfl, hS, hA, hc, hst, k⟩ := h
  cases hc with
  | sqf x y h1 h2 =>
  obtain ⟨l, rfl⟩ := hst.resolve_left (by decide)
  obtain ⟨e1, e2, e3⟩ := step_sqf l x y
  refine ⟨_, rfl, a, _, rfl, seq_lst hA, rfl, _, _, rfl, _, _, rfl, rfl, ?_⟩
  refine ⟨_, rfl, x, rfl, fun c1 => ?_, fun c1 => k.2 _ (e1 fun h => c1 ⟨h1, h.1⟩)⟩
  refine ⟨_, rfl, y, rfl, fun c2 => ?_, fun c2 => k.2 _ (e1 fun h => c2 ⟨h2, h.2⟩)⟩
  refine ⟨_, rfl, _, rfl, S, x, l, rfl, hS, h1, fun _ r q g qn => ?_, fun _ g => k.2 _ (e2 c1.2 c2.2 g), fun c3 => absurd c1.2 c3⟩
  have e := e3 q c1.2 c2.2 g.1 qn
  have rl := rl_wm g.2.2.1
  have wn : wm q ≠ [] := fun z => qn (rl.nil.mp z)
  obtain ⟨kk, rs⟩ := RcR.sqf_rl rl wn
  have sn := sqf_ne g.2.2.1 qn
  have isn : RcR.isqf (wm q) ≠ [] := fun z => sn (rs.nil.mp z)
  have l9 : (wm q).length ≤ 9 := by rw [wm_len]; exact g.2.2.2.1
  have il : (RcR.isqf (wm q)).length ≤ 1000 := Nat.le_trans (isqf_len (wm q)) (by omega)
  refine ⟨_, rfl, _, rfl, _, rfl, r, q, rfl, g.2.1, g.2.2, fun H1 t s1 ht et => ?_⟩
  refine ⟨t, wm q, rfl, et, ok_wm g.2.2.1, wn, l9, sz_wm g.2.2, fun H2 t2 s2 ht2 et2 => ?_⟩
  refine ⟨t2, RcR.isqf (wm q), rfl, et2, isn, rs.last_ne isn, il, fun H3 t3 s3 ht3 hp3 => ?_⟩
  have em : imonic (RcR.isqf (wm q)) = Kqg1.monic (Kqg1.squarefree q) := RcR.monic_list rs isn
  rw [em] at hp3
  have s13 := (s1.trans s2).trans s3
  obtain ⟨k1, k2⟩ := k.store e s13
  exact ⟨S, t3, y, l, _, rfl, hS.same s13, h2, c2.2, hp3, hS.ne ((s1.trans s2).free ht3), (RcB.monic_is rs.tr sn).1, k1, k2⟩
/-! ### gcd -/
abbrev sOp14 : Stmt := top 96
abbrev nOp14 : List Str := ["slots", "arguments", "first", "second", "target", "slot", "first_whole", "second_whole"]
theorem scOp14 : FnScope nOp14 nOp (defScope sOp14) := ⟨rfl, rfl, rfl, by decide +kernel, rfl, by decide +kernel, by decide +kernel⟩
theorem ok_op14 {f : Addr} {fd : FuncData} (F : Fun K "gcd" "gcd" sOp14 f fd) (D1 : DnX P w K mg base "check_slot" 5 ["slot"] (spCs K R)) (D2 : DnX P w K mg base "nonzero_polynomial" 7 ["slots", "slot"] (spNz K R))
    (D3 : Dn P w K mg base "whole_multiple" 43 ["polynomial"] spWm) (D4 : Dn P w K mg base "common_factor" 44 ["first", "second"] (spCf K)) (D5 : Dn P w K mg base "monic" 44 ["whole_polynomial"] spMo) (D6 : DnX P w K mg base "store_result" 6 nSr (spSr K R)) : FnOk P w K mg base (L2.CX P w) 60 f fd nOp (spOp K R 14) := by
  refine F.okX scOp14 spOp_len (fun cdv A outer s H vs Q E hr h => ⟨_, pss_cons (ps_asg (pv 1) (pg_unl rfl (pgs_cons (pg_name (i := 2) scOp14.nd rfl (Or.inl rfl)) (pgs_cons (pg_name (i := 3) scOp14.nd rfl (Or.inl rfl)) (pgs_cons (pg_name (i := 4) scOp14.nd rfl (Or.inl rfl)) pgs_nil)))))
    (pss_cons (ps_for (passes_of rfl) rfl (pi_tup (pe_tup (pa_cons (pv 2) (pa_cons (pv 3) (pa_cons (pv 4) pa_nil))))) (pg_name (i := 5) scOp14.nd rfl (Or.inl rfl)) (pss_one (ps_expr (pe_fnX D1 (takes_of rfl rfl rfl rfl) (hr.mono (by decide)) (pa_cons (pv 5) pa_nil)))))
    (pss_cons (ps_set (i := 6) scOp14.nd rfl (Or.inl rfl) (pe_fn D3 (hr.mono (by decide)) (pa_cons (pe_fnX D2 (takes_of rfl rfl rfl rfl) (hr.mono (by decide)) (pa_cons (pv 0) (pa_cons (pv 2) pa_nil))) pa_nil)))
    (pss_cons (ps_set (i := 7) scOp14.nd rfl (Or.inl rfl) (pe_fn D3 (hr.mono (by decide)) (pa_cons (pe_fnX D2 (takes_of rfl rfl rfl rfl) (hr.mono (by decide)) (pa_cons (pv 0) (pa_cons (pv 3) pa_nil))) pa_nil)))
    (pss_one (ps_ret (pe_fnX D6 (takes_of rfl rfl rfl rfl) (hr.mono (by decide)) (pa_cons (pv 0) (pa_cons (pv 4) (pa_cons (pe_fn D5 (hr.mono (by decide)) (pa_cons (pe_fn D4 (hr.mono (by decide)) (pa_cons (pv 6) (pa_cons (pv 7) pa_nil))) pa_nil)) pa_nil))))))))), ?_⟩)
  obtain ⟨S, a, c, st, rfl, hS, hA, hc, hst, k⟩ := h
  cases hc with
  | gcd x y z h1 h2 h3 =>
  obtain ⟨l, rfl⟩ := hst.resolve_left (by decide)
  obtain ⟨e1, e2, e3⟩ := step_gcd l x y z
  refine ⟨_, rfl, a, _, rfl, seq_lst hA, rfl, _, _, rfl, _, _, rfl, _, _, rfl, rfl, ?_⟩
  refine ⟨_, rfl, _, rfl, _, rfl, by show 3 ≤ sizeLine; decide, fun t ht => ?_⟩
  have s1 := same_new (o := .tup [.int x, .int y, .int z]) ht
  refine ⟨t, rfl, ⟨_, .inl (.inl upd_same)⟩, for_tup (K := K) (a := t) (xs := [.int x, .int y, .int z]) (fun i σ H' => ∃ s5 : Option V, σ = [some (.ref S), some (.ref a), some (.int x), some (.int y), some (.int z), s5, none, none] ∧ H' = upd H t (.tup [.int x, .int y, .int z]) ∧ (1 ≤ i → x < 4) ∧ (2 ≤ i → y < 4) ∧ (3 ≤ i → z < 4))
    ⟨none, rfl, rfl, fun h => absurd h (by decide), fun h => absurd h (by decide), fun h => absurd h (by decide)⟩ (fun _ _ H' _ ⟨_, _, e, _⟩ => by rw [e]; exact .inl (.inl upd_same)) ?_ ?_⟩
  · rintro i v σ H1 hi ⟨s5, rfl, rfl, i1, i2, i3⟩
    have no := fun h => (k.2 _ (e1 h)).later s1
    match i, hi with
    | 0, hi =>
      obtain rfl := Option.some.inj hi
      exact ⟨_, rfl, x, rfl, fun c => ⟨_, rfl, rfl, fun _ => c.2, fun h => absurd h (by decide), fun h => absurd h (by decide)⟩, fun c => no fun h => c ⟨h1, h.1⟩⟩
    | 1, hi =>
      obtain rfl := Option.some.inj hi
      exact ⟨_, rfl, y, rfl, fun c => ⟨_, rfl, rfl, fun _ => i1 (Nat.le_refl _), fun _ => c.2, fun h => absurd h (by decide)⟩, fun c => no fun h => c ⟨h2, h.2.1⟩⟩
    | 2, hi =>
      obtain rfl := Option.some.inj hi
      exact ⟨_, rfl, z, rfl, fun c => ⟨_, rfl, rfl, fun _ => i1 (by decide), fun _ => i2 (Nat.le_refl _), fun _ => c.2⟩, fun c => no fun h => c ⟨h3, h.2.2⟩⟩
    | i + 3, hi => simp at hi
  · rintro σ H1 ⟨s5, rfl, rfl, i1, i2, i3⟩
    have x4 := i1 (show 1 ≤ 3 by decide)
    have y4 := i2 (show 2 ≤ 3 by decide)
    have z4 := i3 (show 3 ≤ 3 by decide)
    generalize upd H t (.tup [.int x, .int y, .int z]) = H1 at s1
    refine ⟨_, rfl, _, rfl, S, x, l, rfl, hS.same s1, h1, fun _ r p g pn => ?_, fun _ g => (k.2 _ (e2 x4 y4 z4 (.inl g))).later s1, fun c3 => absurd x4 c3⟩
    refine ⟨r, p, rfl, g.2.1, g.2.2, fun H2 t2 s2 ht2 et2 => ?_⟩
    refine ⟨_, rfl, _, rfl, S, y, l, rfl, (hS.same s1).same s2, h2, fun _ r' q g' qn => ?_, fun _ g' => (k.2 _ (e2 x4 y4 z4 (.inr g'))).later (s1.trans s2), fun c3 => absurd y4 c3⟩
    refine ⟨r', q, rfl, g'.2.1, g'.2.2, fun H3 t3 s3 ht3 et3 => ?_⟩
    have e := e3 p q x4 y4 z4 g.1 g'.1 pn qn
    have rp := rl_wm g.2.2.1
    have rq := rl_wm g'.2.2.1
    have wp : wm p ≠ [] := fun z => pn (rp.nil.mp z)
    have lp : (wm p).length ≤ 9 := by rw [wm_len]; exact g.2.2.2.1
    have lq : (wm q).length ≤ 9 := by rw [wm_len]; exact g'.2.2.2.1
    obtain ⟨gn, em⟩ := RcR.gcd_list rp rq wp
    obtain ⟨_, kk, rg⟩ := rl_gcd rp rq (.inl pn)
    refine ⟨_, rfl, _, rfl, _, rfl, _, rfl, t2, t3, wm p, wm q, 1000, rfl, seq_lst (s3 _ _ et2), seq_lst et3, ok_wm g.2.2.1, ok_wm g'.2.2.1, wp, by omega, by omega, sz_wm g.2.2, sz_wm g'.2.2, gcd_bears lp lq, fun H4 t4 s4 ht4 et4 => ?_⟩
    refine ⟨t4, igcd (wm p) (wm q), rfl, et4, gn, rg.last_ne gn, ?_, fun H5 t5 s5 ht5 hp5 => ?_⟩
    · rw [rg.len]
      obtain ⟨_, a, _, ha, _, ll⟩ := (RcB.gcd_is g.2.2.1 g'.2.2.1 (.inl pn)).2.2.2.1.len (RcB.gcd_is g.2.2.1 g'.2.2.1 (.inl pn)).1 g.2.2.1 pn
      have := List.length_pos_iff.mpr ha
      have := g.2.2.2.1
      omega
    · have em' : imonic (igcd (wm p) (wm q)) = Kqg1.gcd p q := em
      rw [em'] at hp5
      have s15 := (((s1.trans s2).trans s3).trans s4).trans s5
      obtain ⟨k1, k2⟩ := k.store e s15
      exact ⟨S, t5, z, l, _, rfl, hS.same s15, h3, z4, hp5, hS.ne ((((s1.trans s2).trans s3).trans s4).free ht5), (RcB.gcd_is g.2.2.1 g'.2.2.1 (.inl pn)).1, k1, k2⟩
end
end Rc

/-! ## Js -/
set_option maxHeartbeats 4000000
namespace Rc
open PySem PySem.Spec PyProof.Rows L2 RcF RcG RcH RcI RcJ RcK
section
variable {P : Program} {w : World} {K : PySem.W.Frag} {mg : Str → Option Value} {base : Heap} {R : Addr}
/-! ### derivative -/
abbrev sOp15 : Stmt := top 97
abbrev nOp15 : List Str := ["slots", "arguments", "source", "target"]
theorem scOp15 : FnScope nOp15 nOp (defScope sOp15) := ⟨rfl, rfl, rfl, by decide +kernel, rfl, by decide +kernel, by decide +kernel⟩
theorem ok_op15 {f : Addr} {fd : FuncData} (F : Fun K "derivative" "derivative" sOp15 f fd) (D1 : DnX P w K mg base "check_slot" 5 ["slot"] (spCs K R)) (D2 : DnX P w K mg base "stored_polynomial" 6 ["slots", "slot"] (spSt K R))
    (D3 : Dn P w K mg base "derivative_of" 44 ["polynomial"] spDo) (D6 : DnX P w K mg base "store_result" 6 nSr (spSr K R)) : FnOk P w K mg base (L2.CX P w) 60 f fd nOp (spOp K R 15) := by
  refine F.okX scOp15 spOp_len (fun cdv A outer s H vs Q E hr h => ⟨_, pss_cons (ps_asg (pv 1) (pg_unl rfl (pgs_cons (pg_name (i := 2) scOp15.nd rfl (Or.inl rfl)) (pgs_cons (pg_name (i := 3) scOp15.nd rfl (Or.inl rfl)) pgs_nil))))
    (pss_cons (ps_expr (pe_fnX D1 (takes_of rfl rfl rfl rfl) (hr.mono (by decide)) (pa_cons (pv 3) pa_nil)))
    (pss_one (ps_ret (pe_fnX D6 (takes_of rfl rfl rfl rfl) (hr.mono (by decide)) (pa_cons (pv 0) (pa_cons (pv 3) (pa_cons (pe_fn D3 (hr.mono (by decide)) (pa_cons (pe_fnX D2 (takes_of rfl rfl rfl rfl) (hr.mono (by decide)) (pa_cons (pv 0) (pa_cons (pv 2) pa_nil))) pa_nil)) pa_nil))))))), ?_⟩)
  obtain ⟨S, a, c, st, rfl, hS, hA, hc, hst, k⟩ := h
  cases hc with
  | der x y h1 h2 =>
  obtain ⟨l, rfl⟩ := hst.resolve_left (by decide)
  obtain ⟨e1, e2⟩ := step_der l x y
  refine ⟨_, rfl, a, _, rfl, seq_lst hA, rfl, _, _, rfl, _, _, rfl, rfl, ?_⟩
  refine ⟨_, rfl, y, rfl, fun c2 => ?_, fun c2 => k.2 _ (e1 fun h => c2 ⟨h2, h.2⟩)⟩
  refine ⟨_, rfl, _, rfl, _, rfl, _, rfl, S, x, l, rfl, hS, h1, fun c1 r q g => ?_, fun c1 => k.2 _ (e1 fun h => c1 h.1)⟩
  have e := e2 q c1 c2.2 g.1
  refine ⟨r, q, rfl, g.2.1, g.2.2, fun H1 t s1 ht hp => ?_⟩
  obtain ⟨k1, k2⟩ := k.store e s1
  exact ⟨S, t, y, l, _, rfl, hS.same s1, h2, c2.2, hp, hS.ne ht, RcA.tr_derivative _, k1, k2⟩
/-! ### multiply -/
abbrev sOp16 : Stmt := top 98
abbrev nOp16 : List Str := ["slots", "arguments", "first", "second", "target", "product"]
theorem scOp16 : FnScope nOp16 nOp (defScope sOp16) := ⟨rfl, rfl, rfl, by decide +kernel, rfl, by decide +kernel, by decide +kernel⟩
theorem ok_op16 {f : Addr} {fd : FuncData} (F : Fun K "multiply" "multiply" sOp16 f fd) (D1 : DnX P w K mg base "check_slot" 5 ["slot"] (spCs K R)) (D2 : DnX P w K mg base "stored_polynomial" 6 ["slots", "slot"] (spSt K R))
    (D3 : Dn P w K mg base "product_of" 44 ["first", "second"] spPo) (D6 : DnX P w K mg base "store_result" 6 nSr (spSr K R)) : FnOk P w K mg base (L2.CX P w) 60 f fd nOp (spOp K R 16) := by
  refine F.okX scOp16 spOp_len (fun cdv A outer s H vs Q E hr h => ⟨_, pss_cons (ps_asg (pv 1) (pg_unl rfl (pgs_cons (pg_name (i := 2) scOp16.nd rfl (Or.inl rfl)) (pgs_cons (pg_name (i := 3) scOp16.nd rfl (Or.inl rfl)) (pgs_cons (pg_name (i := 4) scOp16.nd rfl (Or.inl rfl)) pgs_nil)))))
    (pss_cons (ps_expr (pe_fnX D1 (takes_of rfl rfl rfl rfl) (hr.mono (by decide)) (pa_cons (pv 4) pa_nil)))
    (pss_cons (ps_set (i := 5) scOp16.nd rfl (Or.inl rfl) (pe_fn D3 (hr.mono (by decide)) (pa_cons (pe_fnX D2 (takes_of rfl rfl rfl rfl) (hr.mono (by decide)) (pa_cons (pv 0) (pa_cons (pv 2) pa_nil))) (pa_cons (pe_fnX D2 (takes_of rfl rfl rfl rfl) (hr.mono (by decide)) (pa_cons (pv 0) (pa_cons (pv 3) pa_nil))) pa_nil))))
    (pss_one (ps_ret (pe_fnX D6 (takes_of rfl rfl rfl rfl) (hr.mono (by decide)) (pa_cons (pv 0) (pa_cons (pv 4) (pa_cons (pv 5) pa_nil)))))))), ?_⟩)
  obtain ⟨S, a, c, st, rfl, hS, hA, hc, hst, k⟩ := h
  cases hc with
  | mul x y z h1 h2 h3 =>
  obtain ⟨l, rfl⟩ := hst.resolve_left (by decide)
  obtain ⟨e1, e2⟩ := step_mul l x y z
  refine ⟨_, rfl, a, _, rfl, seq_lst hA, rfl, _, _, rfl, _, _, rfl, _, _, rfl, rfl, ?_⟩
  refine ⟨_, rfl, z, rfl, fun c3 => ?_, fun c3 => k.2 _ (e1 fun h => c3 ⟨h3, h.2.2⟩)⟩
  refine ⟨_, rfl, _, rfl, S, x, l, rfl, hS, h1, fun c1 r p g => ?_, fun c1 => k.2 _ (e1 fun h => c1 h.1)⟩
  refine ⟨_, rfl, _, rfl, S, y, l, rfl, hS, h2, fun c2 r' q g' => ?_, fun c2 => k.2 _ (e1 fun h => c2 h.2.1)⟩
  have e := e2 p q c1 c2 c3.2 g.1 g'.1
  refine ⟨r, r', p, q, rfl, g.2.1, g'.2.1, g.2.2, g'.2.2, fun H1 t s1 ht hp => ?_⟩
  obtain ⟨k1, k2⟩ := k.store e s1
  exact ⟨_, rfl, _, rfl, _, rfl, S, t, z, l, _, rfl, hS.same s1, h3, c3.2, hp, hS.ne ht, RcA.tr_multiply _ _, k1, k2⟩
/-! ### power_sums -/
abbrev sOp17 : Stmt := top 99
abbrev nOp17 : List Str := ["slots", "arguments", "slot", "max_power", "polynomial"]
theorem scOp17 : FnScope nOp17 nOp (defScope sOp17) := ⟨rfl, rfl, rfl, by decide +kernel, rfl, by decide +kernel, by decide +kernel⟩
theorem ok_op17 {f : Addr} {fd : FuncData} (F : Fun K "power_sums" "power_sums" sOp17 f fd) (D1 : DnX P w K mg base "nonzero_polynomial" 7 ["slots", "slot"] (spNz K R)) (D2 : DnX P w K mg base "check_max_power" 5 ["max_power"] (spMax K R 12))
    (D3 : Dn P w K mg base "whole_multiple" 43 ["polynomial"] spWm) (D4 : Dn P w K mg base "power_sum_fractions" 43 ["polynomial", "max_power"] spPf) (D5 : Dn P w K mg base "counted_pairs" 1 ["pairs"] spCo) : FnOk P w K mg base (L2.CX P w) 60 f fd nOp (spOp K R 17) := by
  refine F.okX scOp17 spOp_len (fun cdv A outer s H vs Q E hr h => ⟨_, pss_cons (ps_asg (pv 1) (pg_unl rfl (pgs_cons (pg_name (i := 2) scOp17.nd rfl (Or.inl rfl)) (pgs_cons (pg_name (i := 3) scOp17.nd rfl (Or.inl rfl)) pgs_nil))))
    (pss_cons (ps_set (i := 4) scOp17.nd rfl (Or.inl rfl) (pe_fnX D1 (takes_of rfl rfl rfl rfl) (hr.mono (by decide)) (pa_cons (pv 0) (pa_cons (pv 2) pa_nil))))
    (pss_cons (ps_expr (pe_fnX D2 (takes_of rfl rfl rfl rfl) (hr.mono (by decide)) (pa_cons (pv 3) pa_nil)))
    (pss_one (ps_ret (pe_fn D5 (hr.mono (by decide)) (pa_cons (pe_fn D4 (hr.mono (by decide)) (pa_cons (pe_fn D3 (hr.mono (by decide)) (pa_cons (pv 4) pa_nil)) (pa_cons (pv 3) pa_nil))) pa_nil)))))), ?_⟩)
  obtain ⟨S, a, c, st, rfl, hS, hA, hc, hst, k⟩ := h
  cases hc with
  | sums x m h1 h2 =>
  obtain ⟨l, rfl⟩ := hst.resolve_left (by decide)
  obtain ⟨e1, e2, e3⟩ := step_nz (c := [[17, x, m]]) (k := fun p => if 12 < Kqg1Neutral.nat m then .value (-22) else Kqg1.polynomialResult (Kqg1.powerSums p (Kqg1Neutral.nat m))) h1 rfl
  have mn := nat_cast h2
  refine ⟨_, rfl, a, _, rfl, seq_lst hA, rfl, _, _, rfl, _, _, rfl, rfl, ?_⟩
  refine ⟨_, rfl, _, rfl, S, x, l, rfl, hS, h1, fun c1 r q g qn => ?_, fun c1 g => k.2 _ (e2 c1 g), fun c1 => k.2 _ (e1 c1)⟩
  have e := e3 q c1 g.1 qn
  refine ⟨_, rfl, m, rfl, fun c2 => ?_, fun c2 => ?_⟩
  · rw [if_neg (by omega)] at e
    refine ⟨_, rfl, r, q, rfl, g.2.1, g.2.2, fun H1 t s1 ht et => ?_⟩
    refine ⟨_, rfl, t, q, m, rfl, et, g.2.2, qn, h2, c2, fun H2 u s2 hu hp => ?_⟩
    refine ⟨u, _, rfl, hp, ?_, fun H' l' s' hl' el' => ?_⟩
    · rw [RcP.psums_len]
      omega
    · exact (k.give hS e).later (s1.trans s2) s' ((s1.trans s2).free hl' |> fun _ => hl') el'
  · rw [if_pos (by omega)] at e
    exact k.2 _ e
end
end Rc

/-! ## Jt -/
set_option maxHeartbeats 4000000
namespace Rc
open PySem PySem.Spec PyProof.Rows L2 RcF RcG RcH RcI RcJ RcK
theorem viol_is {q : List Rat} (h : RcA.Tr q) : iviol (wm q) = match (List.range (Kqg1.degree q)).find? fun k => decide (1 ≤ k) && !(Kqg1.satisfiesNewton q k) with
    | none => 0
    | some k => (k : Int) := by
  unfold iviol Kqg1.degree
  rw [wm_len, show (fun k => decide (1 ≤ k) && !(RcP.newt (wm q) k)) = fun k => decide (1 ≤ k) && !(Kqg1.satisfiesNewton q k) from funext fun k => by rw [RcP.newt_is (rl_wm h) k]]
  all_goals (cases List.find? (fun k => decide (1 ≤ k) && !(Kqg1.satisfiesNewton q k)) (List.range (q.length - 1)) <;> rfl)
theorem viol_fields (q : List Rat) : Kqg1Neutral.fields (match (List.range (Kqg1.degree q)).find? fun k => decide (1 ≤ k) && !(Kqg1.satisfiesNewton q k) with
    | none => Kqg1.Result.value 0
    | some k => .value k) = [match (List.range (Kqg1.degree q)).find? fun k => decide (1 ≤ k) && !(Kqg1.satisfiesNewton q k) with
    | none => 0
    | some k => (k : Int)] := by
  split <;> rfl
def rLenK (K : PySem.W.Frag) : List V → Hp → VK → Prop := fun xs H Q => ∃ (p : Addr) (ys : List V), xs = [.ref p] ∧ (SqL K H p ys ∨ SqT K H p ys) ∧ Q (.int (ys.length : Int)) H
section
variable {P : Program} {w : World} {K : PySem.W.Frag} {mg : Str → Option Value} {base : Heap} {R : Addr}
/-! ### hermite_inertia -/
abbrev sOp18 : Stmt := top 100
theorem scOp18 : FnScope nOp nOp (defScope sOp18) := ⟨rfl, rfl, rfl, by decide +kernel, rfl, by decide +kernel, by decide +kernel⟩
theorem ok_op18 {f : Addr} {fd : FuncData} (F : Fun K "hermite_inertia" "hermite_inertia" sOp18 f fd) (B : BI P mg base) (D1 : DnX P w K mg base "nonzero_polynomial" 7 ["slots", "slot"] (spNz K R)) (D2 : Dn P w K mg base "whole_multiple" 43 ["polynomial"] spWm)
    (D3 : Dn P w K mg base "hermite_matrix" 3 ["polynomial"] (spHm K)) (D4 : Dn P w K mg base "inertia" 43 ["matrix"] spIn) : FnOk P w K mg base (L2.CX P w) 60 f fd nOp (spOp K R 18) := by
  refine F.okX scOp18 spOp_len (fun cdv A outer s H vs Q E hr h => ⟨_, pss_one (ps_ret (pe_callTy call_list_of (by rfl) B.list (by decide +kernel) (pa_cons (pe_fn D4 (hr.mono (by decide)) (pa_cons (pe_fn D3 (hr.mono (by decide)) (pa_cons (pe_fn D2 (hr.mono (by decide)) (pa_cons (pe_fnX D1 (takes_of rfl rfl rfl rfl) (hr.mono (by decide)) (pa_cons (pv 0) (pa_cons (pe_ix ix_list (pv 1) pe_int (fun _ _ => rfl)) pa_nil))) pa_nil)) pa_nil)) pa_nil)) pa_nil))), ?_⟩)
  obtain ⟨S, a, c, st, rfl, hS, hA, hc, hst, k⟩ := h
  cases hc with
  | inertia x h1 =>
  obtain ⟨l, rfl⟩ := hst.resolve_left (by decide)
  obtain ⟨e1, e2, e3⟩ := step_nz (c := [[18, x]]) (k := fun p => let squares := Kqg1.inertia (2 * Kqg1.degree p + 1) (Kqg1.hermiteMatrix p)
    .values squares.1 [(squares.2 : Int)]) h1 rfl
  refine ⟨_, rfl, _, rfl, a, _, 0, .int x, rfl, rfl, seq_lst hA, atI_nat (j := 0) rfl, S, x, l, rfl, hS, h1, fun c1 r q g qn => ?_, fun c1 g => k.2 _ (e2 c1 g), fun c1 => k.2 _ (e1 c1)⟩
  have e := e3 q c1 g.1 qn
  have rl := rl_wm g.2.2.1
  have wn : wm q ≠ [] := fun z => qn (rl.nil.mp z)
  have l9 : (wm q).length ≤ 9 := by rw [wm_len]; exact g.2.2.2.1
  refine ⟨r, q, rfl, g.2.1, g.2.2, fun H1 t s1 ht et => ?_⟩
  refine ⟨t, wm q, rfl, seq_lst et, wn, l9, sz_wm g.2.2, fun H2 m s2 hm hM => ?_⟩
  refine ⟨m, (wm q).length - 1, iherm (wm q), rfl, hM, by omega, fun r c _ _ => ?_, fun r c hr1 hc => ?_, fun ps ng hE H3 u s3 hu eu => ?_⟩
  · unfold iherm
    rw [Nat.add_comm]
  · unfold iherm
    refine up_pow (sums_lt wn l9 (sz_wm g.2.2) _ (by omega) _ (by omega)) ?_
    unfold BB
    omega
  · have hi := RcS.hermite_is rl wn hE
    have ef : Kqg1Neutral.fields (let squares := Kqg1.inertia (2 * Kqg1.degree q + 1) (Kqg1.hermiteMatrix q); Kqg1.Result.values squares.1 [(squares.2 : Int)]) = [(ps : Int), (ng : Int)] := by
      dsimp only
      rw [hi]
      rfl
    rw [ef] at e
    exact ⟨u, _, rfl, .inr (.inl (.inl eu)), fun l' hl => (k.give hS e).later ((s1.trans s2).trans s3) (same_new hl) hl upd_same⟩
/-! ### first_newton_violation -/
abbrev sOp19 : Stmt := top 101
theorem scOp19 : FnScope nOp nOp (defScope sOp19) := ⟨rfl, rfl, rfl, by decide +kernel, rfl, by decide +kernel, by decide +kernel⟩
theorem ok_op19 {f : Addr} {fd : FuncData} (F : Fun K "first_newton_violation" "first_newton_violation" sOp19 f fd) (D1 : DnX P w K mg base "nonzero_polynomial" 7 ["slots", "slot"] (spNz K R)) (D2 : Dn P w K mg base "whole_multiple" 43 ["polynomial"] spWm)
    (D3 : Dn P w K mg base "violated_index" 2 ["polynomial"] (spVi K)) : FnOk P w K mg base (L2.CX P w) 60 f fd nOp (spOp K R 19) := by
  refine F.okX scOp19 spOp_len (fun cdv A outer s H vs Q E hr h => ⟨_, pss_one (ps_ret (pe_lst (pa_cons (pe_fn D3 (hr.mono (by decide)) (pa_cons (pe_fn D2 (hr.mono (by decide)) (pa_cons (pe_fnX D1 (takes_of rfl rfl rfl rfl) (hr.mono (by decide)) (pa_cons (pv 0) (pa_cons (pe_ix ix_list (pv 1) pe_int (fun _ _ => rfl)) pa_nil))) pa_nil)) pa_nil)) pa_nil))), ?_⟩)
  obtain ⟨S, a, c, st, rfl, hS, hA, hc, hst, k⟩ := h
  cases hc with
  | newton x h1 =>
  obtain ⟨l, rfl⟩ := hst.resolve_left (by decide)
  obtain ⟨e1, e2, e3⟩ := step_nz (c := [[19, x]]) (k := fun p => match (List.range (Kqg1.degree p)).find? fun k => decide (1 ≤ k) && !(Kqg1.satisfiesNewton p k) with
    | none => .value 0
    | some k => .value k) h1 rfl
  refine ⟨_, rfl, _, rfl, a, _, 0, .int x, rfl, rfl, seq_lst hA, atI_nat (j := 0) rfl, S, x, l, rfl, hS, h1, fun c1 r q g qn => ?_, fun c1 g => k.2 _ (e2 c1 g), fun c1 => k.2 _ (e1 c1)⟩
  have e := e3 q c1 g.1 qn
  rw [viol_fields, ← viol_is g.2.2.1] at e
  refine ⟨r, q, rfl, g.2.1, g.2.2, fun H1 t s1 ht et => ?_⟩
  refine ⟨t, wm q, rfl, seq_lst et, by rw [wm_len]; exact g.2.2.2.1, sz_wm g.2.2, ?_⟩
  exact ⟨by show 1 ≤ sizeLine; decide, fun l' hl => (k.give hS e).later s1 (same_new hl) hl upd_same⟩
/-! ### summary -/
abbrev sOp21 : Stmt := top 103
abbrev nOp21 : List Str := ["slots", "arguments", "polynomial"]
theorem scOp21 : FnScope nOp21 nOp (defScope sOp21) := ⟨rfl, rfl, rfl, by decide +kernel, rfl, by decide +kernel, by decide +kernel⟩
theorem step_sum (l : List (List Rat)) : Kqg1Neutral.step (some l) [[21]] = (some l, 4 :: l.map fun p => (p.length : Int)) := rfl
theorem ok_op21 {f : Addr} {fd : FuncData} (F : Fun K "summary" "summary" sOp21 f fd) (B : BI P mg base) (C : Cs mg) : FnOk P w K mg base (L2.CX P w) 60 f fd nOp (spOp K R 21) := by
  refine F.okX scOp21 spOp_len (fun cdv A outer s H vs Q E hr h => ⟨_, pss_one (ps_ret (pe_op op_cat (pe_lst (pa_cons (pe_cst C.slots) pa_nil)) (pe_lc (own := [("polynomial", 2)]) (g := gName 2) (tt := tYes) rfl scOp21.nd (pi_list (pv 0)) (blkOk_by (N := nOp21) (sc := defScope sOp21) (by decide +kernel))
      (fun _ _ _ _ _ => pg_name (i := 2) scOp21.nd rfl (Or.inl rfl)) (fun _ _ _ _ _ => pts_nil) (fun _ _ _ _ _ => pe_callB (r := rLenK K) (id := "len") call_len_seq (by rfl) B.len (by decide +kernel) (pa_cons (pv 2) pa_nil))))), ?_⟩)
  obtain ⟨S, a, c, st, rfl, hS, hA, hc, hst, k⟩ := h
  cases hc with
  | summary =>
  obtain ⟨l, rfl⟩ := hst.resolve_left (by decide)
  have e := step_sum l
  obtain ⟨rs, h1, h2, h3, h4⟩ := id hS
  refine ⟨by show 1 ≤ sizeLine; decide, fun L hL => ?_⟩
  have sL := same_new (o := .lst [.int 4]) hL
  generalize hbs : (l.map fun p => (p.length : Int)) = bs at e
  have bl : bs.length = 4 := by rw [← hbs, List.length_map, h3]
  refine ⟨_, rfl, S, rfl, ⟨_, seq_lst (sL _ _ h1)⟩, fun D hD => lc_list (K := K) (a := S) (xs := RI rs) (fun i H1 => H1 = upd (upd H L (.lst [.int 4])) D (.lst (LI (bs.take i)))) rfl (fun i H1 _ e => by rw [e]; exact (same_new hD).seq (seq_lst (sL _ _ h1))) ?_ ?_⟩
  · rintro i x H1 hi rfl
    obtain ⟨r, hr1, rfl⟩ := ri_get hi
    obtain ⟨_, q, hq, ⟨rq, a1, a2⟩, _⟩ := h4 i r hr1
    have eb : bs[i]? = some ((q.length : Nat) : Int) := by rw [← hbs, List.getElem?_map, hq]; rfl
    refine ⟨rfl, ?_⟩
    refine ⟨_, rfl, r, RI rq, rfl, .inl (seq_lst (same_new hD _ _ (sL _ _ a1))), _, upd_same, small1000 (by rw [li_len, List.length_take]; omega), ?_⟩
    show _ = _
    rw [upd_upd, take_more eb, li_snoc, ri_len, a2.len]
  · rintro H1 rfl
    rw [ri_len, h2, List.take_of_length_le (by omega)]
    have nLD : L ≠ D := fun z => by
      rw [← z, upd_same] at hD
      cases hD
    refine ⟨L, D, [V.int 4], LI bs, rfl, rfl, by rw [upd_ne nLD, upd_same], upd_same, Nat.le_of_lt (small1000 (show 1 + (LI bs).length ≤ 1000 by rw [li_len]; omega)), fun l' hl => ?_⟩
    exact (k.give hS e).later (sL.trans (same_new hD)) (same_new hl) hl (by rw [upd_same]; rfl)
end
end Rc

/-! ## Ju -/
set_option maxHeartbeats 4000000
namespace Rc
open PySem PySem.Spec PyProof.Rows L2 RcF RcG RcH RcI RcJ RcK
/-- a slot that counts: its polynomial has a root -/
def hasRoot (l : List (List Rat)) (i : Nat) : Bool := Kqg1.polynomialIn l i != [] && decide (1 ≤ Kqg1.realRootCount (Kqg1.polynomialIn l i))
def topFloor (l : List (List Rat)) (b i : Nat) : Int := Kqg1.rootFloor (Kqg1.polynomialIn l i) (Kqg1.realRootCount (Kqg1.polynomialIn l i) - 1) b
def lroots (l : List (List Rat)) (b n : Nat) : List (Int × Int) := ((List.range n).filter (hasRoot l)).map fun (i : Nat) => ((i : Int), topFloor l b i)
theorem zip_flat (f : Nat → Int) : ∀ s : List Nat, ((List.zip s (s.map f)).flatMap fun p => [(p.1 : Int), p.2]) = (s.map fun (i : Nat) => ((i : Int), f i)).flatMap fun p => [p.1, p.2]
  | [] => rfl
  | x :: s => by
    rw [List.map_cons, List.zip_cons_cons, List.flatMap_cons, List.map_cons, List.flatMap_cons, zip_flat f s]
theorem lroots_len (l : List (List Rat)) (b n : Nat) : (lroots l b n).length ≤ n := by
  unfold lroots
  rw [List.length_map]
  exact Nat.le_trans (List.length_filter_le _ _) (by simp)
theorem lroots_succ (l : List (List Rat)) (b n : Nat) : lroots l b (n + 1) = if hasRoot l n = true then lroots l b n ++ [((n : Int), topFloor l b n)] else lroots l b n := by
  unfold lroots
  rw [List.range_succ, List.filter_append, List.map_append]
  by_cases h : hasRoot l n = true
  · rw [if_pos h, List.filter_cons_of_pos h]
    rfl
  · rw [if_neg h, List.filter_cons_of_neg h]
    simp
theorem step_lar (l : List (List Rat)) (b : Int) : (¬ (Kqg1Neutral.nat b ≤ 30) → Kqg1Neutral.step (some l) [[20, b]] = (some l, [-22])) ∧ (Kqg1Neutral.nat b ≤ 30 → Kqg1Neutral.step (some l) [[20, b]] = (some l, paired (lroots l (Kqg1Neutral.nat b) 4))) := by
  have e : Kqg1Neutral.step (some l) [[20, b]] = (some l, Kqg1Neutral.fields (if 30 < Kqg1Neutral.nat b then Kqg1.Result.value (-22) else .values ((List.range Kqg1.slotCount).filter (hasRoot l)).length (List.zip ((List.range Kqg1.slotCount).filter (hasRoot l)) (((List.range Kqg1.slotCount).filter (hasRoot l)).map (topFloor l (Kqg1Neutral.nat b))) |>.flatMap fun p => [(p.1 : Int), p.2]))) := rfl
  refine ⟨fun h => ?_, fun h => ?_⟩
  · rw [e, if_pos (by omega)]; rfl
  · rw [e, if_neg (by omega), zip_flat]
    unfold paired lroots
    rw [List.length_map]
    rfl
theorem hasRoot_is {l : List (List Rat)} {i : Nat} {q : List Rat} (h : l[i]? = some q) : hasRoot l i = true ↔ q ≠ [] ∧ 1 ≤ Kqg1.countRoots q .minusInfinity .plusInfinity := by
  have e : Kqg1.polynomialIn l i = q := by
    unfold Kqg1.polynomialIn
    rw [List.getD_eq_getElem?_getD, h]
    rfl
  unfold hasRoot Kqg1.realRootCount
  rw [e, Bool.and_eq_true, bne_iff_ne, decide_eq_true_iff]
theorem topFloor_is {l : List (List Rat)} {i : Nat} {q : List Rat} (h : l[i]? = some q) (b : Nat) : topFloor l b i = Kqg1.rootFloor q (Kqg1.countRoots q .minusInfinity .plusInfinity - 1) b := by
  have e : Kqg1.polynomialIn l i = q := by
    unfold Kqg1.polynomialIn
    rw [List.getD_eq_getElem?_getD, h]
    rfl
  unfold topFloor Kqg1.realRootCount
  rw [e]
section
variable {P : Program} {w : World} {K : PySem.W.Frag} {mg : Str → Option Value} {base : Heap} {R : Addr}
/-! ### largest_roots -/
abbrev sOp20 : Stmt := top 102
abbrev nOp20 : List Str := ["slots", "arguments", "bits", "found", "slot", "polynomial", "distinct", "total"]
theorem scOp20 : FnScope nOp20 nOp (defScope sOp20) := ⟨rfl, rfl, rfl, by decide +kernel, rfl, by decide +kernel, by decide +kernel⟩
theorem ok_op20 {f : Addr} {fd : FuncData} (F : Fun K "largest_roots" "largest_roots" sOp20 f fd) (B : BI P mg base) (D1 : DnX P w K mg base "check_bits" 5 ["bits"] (spMax K R 30)) (D2 : Dn P w K mg base "count_all" 48 ["polynomial"] spAl)
    (D3 : Dn P w K mg base "whole_multiple" 43 ["polynomial"] spWm) (D4 : Dn P w K mg base "floor_of_root" 47 ["polynomial", "k", "bits"] spFl) (D5 : Dn P w K mg base "counted_pairs" 1 ["pairs"] spCo2) : FnOk P w K mg base (L2.CX P w) 60 f fd nOp (spOp K R 20) := by
  refine F.okX scOp20 spOp_len (fun cdv A outer s H vs Q E hr h => ⟨_, pss_cons (ps_set (i := 2) scOp20.nd rfl (Or.inl rfl) (pe_ix ix_list (pv 1) pe_int (fun _ _ => rfl)))
    (pss_cons (ps_expr (pe_fnX D1 (takes_of rfl rfl rfl rfl) (hr.mono (by decide)) (pa_cons (pv 2) pa_nil)))
    (pss_cons (ps_set (i := 3) scOp20.nd rfl (Or.inl rfl) (pe_lst pa_nil))
    (pss_cons (ps_for (passes_of rfl) rfl (pi_enum (by rfl) B.enumerate (pa_cons (pv 0) pa_nil)) (pg_tup rfl (pgs_cons (pg_name (i := 4) scOp20.nd rfl (Or.inl rfl)) (pgs_cons (pg_name (i := 5) scOp20.nd rfl (Or.inl rfl)) pgs_nil)))
      (pss_cons (ps_asg (pe_ifExp (pt_truth (pv 5) (fun _ => rfl)) (pe_fn D2 (hr.mono (by decide)) (pa_cons (pv 5) pa_nil)) (pe_tup (pa_cons pe_int (pa_cons pe_int pa_nil)))) (pg_tup rfl (pgs_cons (pg_name (i := 6) scOp20.nd rfl (Or.inl rfl)) (pgs_cons (pg_name (i := 7) scOp20.nd rfl (Or.inl rfl)) pgs_nil))))
      (pss_one (ps_if (pt_cmpR op_gt (pv 7) pe_int (nomark _)) (pss_one (ps_expr (pe_bm PySem.F.plainAttrs_list PySem.F.slot_list_append PySem.F.type_list_append mt_append (pv 3) (pa_cons (pe_tup (pa_cons (pv 4) (pa_cons (pe_fn D4 (hr.mono (by decide)) (pa_cons (pe_fn D3 (hr.mono (by decide)) (pa_cons (pv 5) pa_nil)) (pa_cons (pe_op op_sub (pv 7) pe_int) (pa_cons (pv 2) pa_nil)))) pa_nil))) pa_nil)))) pss_nil))))
    (pss_one (ps_ret (pe_fn D5 (hr.mono (by decide)) (pa_cons (pv 3) pa_nil))))))), ?_⟩)
  obtain ⟨S, a, c, st, rfl, hS, hA, hc, hst, k⟩ := h
  cases hc with
  | largest b h1 =>
  obtain ⟨l, rfl⟩ := hst.resolve_left (by decide)
  obtain ⟨e1, e2⟩ := step_lar l b
  have bn := nat_cast h1
  refine ⟨_, rfl, a, _, 0, .int b, rfl, rfl, seq_lst hA, atI_nat (j := 0) rfl, ?_⟩
  refine ⟨_, rfl, b, rfl, fun c1 => ?_, fun c1 => k.2 _ (e1 (by omega))⟩
  have e := e2 (by omega)
  obtain ⟨rsS, h1s, h2s, h3s, h4s⟩ := id hS
  refine ⟨by show 0 ≤ sizeLine; exact Nat.zero_le _, fun D hD => ?_⟩
  have sD := same_new (o := .lst []) hD
  have DS : D ≠ S := hS.ne hD
  refine ⟨_, rfl, S, _, rfl, seq_lst (sD _ _ h1s), for_it (walk_enum (K := K) (a := S) (xs := RI rsS)) (fun i σ H' => ∃ (rs : List Addr) (s4 s5 s6 s7 : Option V), σ = [some (.ref S), some (.ref a), some (.int b), some (.ref D), s4, s5, s6, s7] ∧ H' D = some (.lst (RI rs)) ∧ Prs H' rs (lroots l (Kqg1Neutral.nat b) i) ∧ Same H H')
    ⟨[], none, none, none, none, rfl, upd_same, True.intro, sD⟩ (fun _ _ H' _ ⟨_, _, _, _, _, _, _, _, z⟩ => seq_lst (z _ _ h1s)) ?_ ?_⟩
  · rintro i x σ H1 H2 hi ⟨rs, s4, s5, s6, s7, rfl, q1, q2, q3⟩ ⟨T, x', y', rfl, hT, rfl, h3, h4⟩
    obtain ⟨r, hr1, rfl⟩ := ri_get h4
    obtain rfl := Option.some.inj h3
    obtain ⟨_, q, hq, hp, hs⟩ := h4s i r hr1
    have hi4 : i < 4 := by have := (List.getElem?_eq_some_iff.mp hr1).1; omega
    have sT := same_new (o := .tup [V.int ((i : Nat) : Int), V.ref r]) hT
    have DT : D ≠ T := ne_of_none q1 hT
    have rlen : rs.length ≤ i := by rw [q2.len]; exact lroots_len _ _ _
    generalize eH2 : upd H1 T (.tup [V.int ((i : Nat) : Int), V.ref r]) = H2 at sT
    have q1' := sT _ _ q1
    have q2' : Prs H2 rs (lroots l (Kqg1Neutral.nat b) i) := q2.keep fun b xs e => sT _ _ e
    have q3' := q3.trans sT
    refine ⟨T, _, rfl, .inl (.inl (by rw [← eH2]; exact upd_same)), rfl, _, _, rfl, _, _, rfl, rfl, ?_⟩
    clear eH2 hT q1 q2 q3 sT
    have hp2 := hp.same q3'
    obtain ⟨xs, ex, et⟩ := poly_truth hp2
    refine ⟨_, rfl, _, .inl ⟨_, seq_lst ex, rfl⟩, ?_⟩
    rw [et]
    have skip : hasRoot l i ≠ true → ∀ H3, Same H2 H3 → ∀ s6 s7, ∃ (rs : List Addr) (t4 t5 t6 t7 : Option V), [some (V.ref S), some (.ref a), some (.int b), some (.ref D), some (.int ((i : Nat) : Int)), some (.ref r), s6, s7] = [some (.ref S), some (.ref a), some (.int b), some (.ref D), t4, t5, t6, t7] ∧ H3 D = some (.lst (RI rs)) ∧ Prs H3 rs (lroots l (Kqg1Neutral.nat b) (i + 1)) ∧ Same H H3 := by
      intro hno H3 s3 s6 s7
      rw [lroots_succ, if_neg hno]
      exact ⟨rs, _, _, _, _, rfl, s3 _ _ q1', q2'.keep fun b xs e => s3 _ _ e, q3'.trans s3⟩
    by_cases qn : q = []
    · refine if_false_of (by rw [decide_eq_true qn]; rfl) ⟨by show 2 ≤ sizeLine; decide, fun t ht => ?_⟩
      refine ⟨t, _, rfl, .inl (.inl upd_same), rfl, _, _, rfl, _, _, rfl, rfl, ?_⟩
      refine ⟨_, rfl, _, _, rfl, rfl, _, rfl, ?_⟩
      refine if_false_of (by decide) (skip (fun z => ((hasRoot_is hq).mp z).1 qn) _ (same_new ht) _ _)
    · refine if_true_of (by rw [decide_eq_false qn]; rfl) ?_
      refine ⟨_, rfl, r, q, rfl, hp2, hs, fun H3 t s3 ht et => ?_⟩
      refine ⟨t, _, rfl, .inl (.inl et), rfl, _, _, rfl, _, _, rfl, rfl, ?_⟩
      refine ⟨_, rfl, _, _, rfl, rfl, _, rfl, ?_⟩
      by_cases c2 : 1 ≤ Kqg1.countRoots q .minusInfinity .plusInfinity
      · refine if_true_of (by simp; omega) ?_
        have hy : hasRoot l i = true := (hasRoot_is hq).mpr ⟨qn, c2⟩
        refine ⟨_, rfl, .inl ⟨rfl, _, seq_lst (s3 _ _ q1')⟩, _, rfl, _, rfl, r, q, rfl, hp2.same s3, hs, fun H4 t4 s4 ht4 et4 => ?_⟩
        refine ⟨_, rfl, _, _, rfl, rfl, _, rfl, t4, q, Kqg1.countRoots q .minusInfinity .plusInfinity - 1, Kqg1Neutral.nat b, ?_, et4, hs, qn, by omega, by omega, fun H5 s5 => ?_⟩
        · rw [bn, show ((Kqg1.countRoots q .minusInfinity .plusInfinity - 1 : Nat) : Int) = ((Kqg1.countRoots q .minusInfinity .plusInfinity : Nat) : Int) - 1 by omega]
          rfl
        · refine ⟨by show 2 ≤ sizeLine; decide, fun t5 ht5 => ?_⟩
          have s25 := (s3.trans s4).trans s5
          have q5 := s25 _ _ q1'
          have D5 : D ≠ t5 := ne_of_none q5 ht5
          refine ⟨D, _, _, rfl, rfl, by rw [upd_ne D5]; exact q5, small1000 (by rw [ri_len]; omega), ?_⟩
          refine ⟨rs ++ [t5], _, _, _, _, rfl, by rw [upd_same, ri_snoc], ?_, same_upd (q3'.trans (s25.trans (same_new ht5))) hD⟩
          rw [lroots_succ, if_pos hy]
          refine Prs.snoc (by rw [upd_ne D5.symm, upd_same, topFloor_is hq]) (q2'.keep fun y ys e => ?_)
          have e5 := s25 _ _ e
          rw [upd_ne (fun z => by rw [z, q5] at e5; cases e5), upd_ne (ne_of_none e5 ht5)]
          exact e5
      · exact if_false_of (by simp; omega) (skip (fun z => c2 ((hasRoot_is hq).mp z).2) _ s3 _ _)
  · rintro σ H1 ⟨rs, s4, s5, s6, s7, rfl, q1, q2, q3⟩
    rw [ri_len, h2s] at q2
    refine ⟨_, rfl, D, rs, _, rfl, q1, q2, Nat.le_trans (lroots_len _ _ _) (by decide), fun H' l' s' hl' el' => ?_⟩
    exact (k.give hS e).later q3 s' hl' el'
end
end Rc

/-! ## Jv -/
set_option maxHeartbeats 4000000
namespace Rc
open PySem PySem.Spec PyProof.Rows L2 RcF RcG RcH RcI RcJ RcK
/-- a written table of numbers: at z stands f -/
def KDI (K : PySem.W.Frag) (p : Addr) (z : Int) (f : Addr) : Prop := ∃ (es : Array DictEntry) (n : Nat), K.lookup p = some ⟨.type "dict", none, .dict es n, #[]⟩ ∧ (∀ e ∈ es, ∃ k t, e.key = .int k t ∧ e.hash = hashInt k) ∧ findBy Value.isInt es z = some (.ref f)
def rIxDI (K : PySem.W.Frag) : R2 := fun x y H Q => ∃ (p : Addr) (z : Int) (f : Addr), x = .ref p ∧ y = .int z ∧ KDI K p z f ∧ Q (.ref f) H
section
variable {X : Cx}
theorem ix_kdi : IxR X (rIxDI X.K) := by
  intro a b pins s σ H x y v u Q I r1 r2 h plain
  obtain ⟨p, z, f, rfl, rfl, ⟨es, n, hK, hk, hf⟩, q⟩ := h
  cases r1
  obtain ⟨t, rfl⟩ := r2
  have hm : s.heap.MapOf (PySem.intKind X.prog X.w) p (fun i => findBy Value.isInt es i) :=
    ⟨_, es, n, I.kIn _ _ hK, ⟨rfl, rfl, rfl⟩, rfl, fun e he => by obtain ⟨k, t, h1, h2⟩ := hk e he; exact ⟨k, by rw [h1]; simp [PySem.intKind, Value.isInt], h2⟩, fun i => rfl⟩
  exact tail_any hm.typeIs slot_dict_getitem.lookup (wpAny_getItem_of (knd := PySem.intKind X.prog X.w) (k := z) (by simp [PySem.intKind, Value.isInt]) hm hf ⟨.ref f, H, I.tok _, rfl, q⟩) plain
end
/-- a def that a name holds -/
structure HeldX (P : Program) (w : World) (K : PySem.W.Frag) (mg : Str → Option Value) (base : Heap) (k : Nat) (ps : List Str) (f : Addr) (sp : Sp) : Prop where
  ex : ∃ fd : FuncData, FnOk P w K mg base (L2.CX P w) k f fd ps sp ∧ PySem.W.keepIn K (.ref f) = true ∧ Binds K fd ps []
def tHeld (i : Nat) (S : Addr → Sp → Prop) (E : XK) (t : TA) : TE := fun σ H Q => ∃ (f : Addr) (sp : Sp), σ[i]? = some (some (.ref f)) ∧ S f sp ∧ t σ H fun vs H1 => sp vs H1 Q E
section
variable {X : Cx} {k i : Nat} {ps : List Str} {S : Addr → Sp → Prop} {E : XK} {x : Str} {p pos : Pos} {e : Expr} {es : List Expr} {t : TA}
theorem pe_held (A : ∀ f sp, S f sp → HeldX X.prog X.w X.K X.mg X.base k ps f sp) (tk : Takes X fun cls d _ H => E cls d H) (hr : Room k X.A) (hN : X.N[i]? = some x) (hv : Vis X.env.scope x) (ha : PA X (e :: es) t)
    (hdb : (x == ("__debug__" : Str)) = false := by decide) (hcd : (x == ("__classdict__" : Str)) = false := by decide)
    (he : starEach (e :: es) X.env = (false, eval e X.env) :: starEach es X.env := by rfl) (hpl : (backTo pos (starEach es X.env)).any (·.1) = false := by rfl) : PE X (.Call (.Name x p) (e :: es) [] pos) (tHeld i S E t) := by
  refine ⟨fun pins s σ H Q I h => ?_⟩
  obtain ⟨f, sp, hs, hS, ht⟩ := h
  obtain ⟨fd, F, hk, hb⟩ := (A f sp hS).ex
  refine (pe_callL (i := i) (f := f) (sp := sp) (dvs := []) (E := E) F hr hN hv hk hb .nil (passes_call tk fun _ _ _ _ h => h) ha hdb hcd he hpl).run pins s σ H Q I ⟨hs, ?_⟩
  have e0 : (fun (vs : List V) (H1 : Hp) => sp (vs ++ []) H1 Q E) = fun vs H1 => sp vs H1 Q E := by
    funext vs H1
    rw [List.append_nil]
  show t σ H (fun vs H1 => sp (vs ++ []) H1 Q E)
  rw [e0]
  exact ht
end
/-! ### the two last errors -/
section
variable {P : Program} {w : World} {K : PySem.W.Frag} {mg : Str → Option Value} {base : Heap} {R : Addr}
theorem scIC5 : FnScope ["self"] ["self"] (defScope (inClass (top 6) 0)) := ⟨rfl, rfl, rfl, by decide +kernel, rfl, by decide +kernel, by decide +kernel⟩
theorem scIC6 : FnScope ["self"] ["self"] (defScope (inClass (top 7) 0)) := ⟨rfl, rfl, rfl, by decide +kernel, rfl, by decide +kernel, by decide +kernel⟩
theorem ok_ic5 {f C : Addr} {fd : FuncData} (F : Fun K "__init__" "NoSuchRoot.__init__" (inClass (top 6) 0) f fd) (B : Base P w K mg base R) (T : Own K C R) : FnOk P w K mg base CX0 3 f fd ["self"] (spIC C (-34)) := by
  obtain ⟨fR, fdR, mc, hm, U, FR, kR, bR⟩ := B.ex
  refine F.ok scIC5 (fun vs H Q E h => ?_) (fun cdv A outer s H vs Q E hr h => ⟨_, pss_one (ps_expr (pe_up (by rfl) hm U FR kR hr bR pass0 (pa_cons (pv 0) (pa_cons (pe_un un_neg pe_int) pa_nil)))), ?_⟩)
  · obtain ⟨a, rfl, _⟩ := h
    rfl
  · obtain ⟨a, rfl, k⟩ := h
    exact ⟨_, rfl, _, rfl, a, C, _, rfl, T, k⟩
theorem ok_ic6 {f C : Addr} {fd : FuncData} (F : Fun K "__init__" "TooLarge.__init__" (inClass (top 7) 0) f fd) (B : Base P w K mg base R) (T : Own K C R) : FnOk P w K mg base CX0 3 f fd ["self"] (spIC C (-75)) := by
  obtain ⟨fR, fdR, mc, hm, U, FR, kR, bR⟩ := B.ex
  refine F.ok scIC6 (fun vs H Q E h => ?_) (fun cdv A outer s H vs Q E hr h => ⟨_, pss_one (ps_expr (pe_up (by rfl) hm U FR kR hr bR pass0 (pa_cons (pv 0) (pa_cons (pe_un un_neg pe_int) pa_nil)))), ?_⟩)
  · obtain ⟨a, rfl, _⟩ := h
    rfl
  · obtain ⟨a, rfl, k⟩ := h
    exact ⟨_, rfl, _, rfl, a, C, _, rfl, T, k⟩
end
end Rc

/-! ## Jw -/
set_option maxHeartbeats 4000000
namespace Rc
open PySem PySem.Spec PyProof.Rows L2 RcF RcG RcH RcI RcJ RcK
/-! ### taking the list apart, in numbers -/
def plains : List Int := [0, 2, 1, 1, 3, 1, 1, 1, 5, 3, 3, 3, 1, 2, 3, 2, 3, 2, 1, 1, 1, 0]
theorem whole_id (c : List (List Int)) : PyKqg1.whole c = c := by
  unfold PyKqg1.whole
  split <;> rfl
theorem call_inv {p : Int} {r : List Int} {c : List (List Int)} {t : List Int} (h : PyFlat.call PyKqg1.shape (p :: r) = some (c, t)) :
    ∃ n k xs, PyKqg1.shape p = some (n, k) ∧ n ≤ r.length ∧ PyFlat.rows k (r.drop n) = some (xs, t) ∧ c = (p :: r.take n) :: xs := by
  cases hs : PyKqg1.shape p with
  | none => simp only [PyFlat.call, hs] at h; cases h
  | some nk =>
    obtain ⟨n, k⟩ := nk
    simp only [PyFlat.call, hs] at h
    by_cases hl : r.length < n
    · rw [if_pos hl] at h; cases h
    · rw [if_neg hl] at h
      cases hr : PyFlat.rows k (r.drop n) with
      | none => rw [hr] at h; cases h
      | some xt =>
        obtain ⟨xs, t'⟩ := xt
        rw [hr] at h
        simp only [Option.some.injEq, Prod.mk.injEq] at h
        obtain ⟨rfl, rfl⟩ := h
        exact ⟨n, k, xs, rfl, by omega, hr, rfl⟩
theorem plain_inv {p : Int} {r xs t : List Int} {n : Nat} (hs : PyKqg1.shape p = some (n, 0)) (h : PyFlat.call PyKqg1.shape r = some ([p :: xs], t)) : r = p :: (xs ++ t) ∧ xs.length = n := by
  cases r with
  | nil => cases h
  | cons q r =>
    obtain ⟨m, k, ys, h1, h2, h3, h4⟩ := call_inv h
    simp only [List.cons.injEq] at h4
    obtain ⟨⟨rfl, rfl⟩, rfl⟩ := h4
    rw [hs] at h1
    cases h1
    unfold PyFlat.rows at h3
    simp only [Option.some.injEq, Prod.mk.injEq] at h3
    obtain ⟨_, rfl⟩ := h3
    exact ⟨by rw [List.take_append_drop], by rw [List.length_take]; omega⟩
theorem row_inv {p : Int} {r xs row t : List Int} {n : Nat} (hs : PyKqg1.shape p = some (n, 1)) (h : PyFlat.call PyKqg1.shape r = some ([p :: xs, row], t)) : r = p :: (xs ++ ((row.length : Int) :: (row ++ t))) ∧ xs.length = n := by
  cases r with
  | nil => cases h
  | cons q r =>
    obtain ⟨m, k, ys, h1, h2, h3, h4⟩ := call_inv h
    simp only [List.cons.injEq] at h4
    obtain ⟨⟨rfl, rfl⟩, rfl⟩ := h4
    rw [hs] at h1
    cases h1
    have hx : (r.take n).length = n := by rw [List.length_take]; omega
    refine ⟨?_, hx⟩
    have e : r = r.take n ++ r.drop n := (List.take_append_drop n r).symm
    generalize r.drop n = d at h3 e
    have ed : d = (row.length : Int) :: (row ++ t) := by
      unfold PyFlat.rows at h3
      cases d with
      | nil => cases h3
      | cons z d =>
        unfold PyFlat.row at h3
        by_cases c : 0 ≤ z ∧ z.toNat ≤ d.length
        · simp only [if_pos c] at h3
          unfold PyFlat.rows at h3
          simp only [Option.some.injEq, Prod.mk.injEq, List.cons.injEq] at h3
          obtain ⟨⟨rfl, _⟩, rfl⟩ := h3
          rw [List.take_append_drop, List.length_take, Nat.min_eq_left c.2, Int.toNat_of_nonneg c.1]
        · simp only [if_neg c] at h3
          cases h3
    rw [← ed]
    rw [← e]
/-- an asked call stands in the list as its numbers -/
theorem call_is {n : Nat} {c : List (List Int)} {r t : List Int} (hc : Asked n c) (h : PyFlat.call PyKqg1.shape r = some (c, t)) :
    (n ≠ 1 ∧ ∃ xs, c = [(n : Int) :: xs] ∧ r = (n : Int) :: (xs ++ t) ∧ plains[n]? = some (xs.length : Int)) ∨ (n = 1 ∧ ∃ x d row, c = [[1, x, d], row] ∧ r = 1 :: x :: d :: (row.length : Int) :: (row ++ t)) := by
  cases hc
  case set x d row h1 h2 h3 => exact .inr ⟨rfl, x, d, row, rfl, (row_inv (n := 2) rfl h).1⟩
  all_goals exact .inl ⟨by decide, _, rfl, (plain_inv rfl h).1, rfl⟩
theorem asked_lt {n : Nat} {c : List (List Int)} (h : Asked n c) : n < 22 := by cases h <;> decide
/-- a piece of the list -/
theorem cut_at {l ys : List Int} {i : Nat} (h : l.drop i = ys) (a b : Nat) (hab : a ≤ b) (hb : b ≤ ys.length) : cutV (LI l) (some ((i + a : Nat) : Int)) (some ((i + b : Nat) : Int)) = LI ((ys.drop a).take (b - a)) := by
  have hl : i + b ≤ l.length ∨ b = 0 := by
    have := congrArg List.length h
    rw [List.length_drop] at this
    omega
  unfold cutV
  rw [HT.sIx_nat, HT.sIx_nat, List.length_map]
  rcases hl with hl | hl
  · rw [Nat.min_eq_left (by omega), Nat.min_eq_left (by omega)]
    have e1 : i + b - (i + a) = b - a := by omega
    rw [← h, List.drop_drop, e1]
    show List.take (b - a) (List.drop (i + a) (List.map V.int l)) = List.map V.int (List.take (b - a) (List.drop (i + a) l))
    rw [List.map_take, List.map_drop]
  · subst hl
    have : a = 0 := by omega
    subst this
    simp
theorem get_at {l ys : List Int} {i : Nat} (h : l.drop i = ys) {a : Nat} {z : Int} (hz : ys[a]? = some z) : atI (LI l) ((i + a : Nat) : Int) = some (.int z) := by
  refine atI_nat ?_
  rw [List.getElem?_map]
  have : l[i + a]? = some z := by
    rw [← List.getElem?_drop, h]
    exact hz
  rw [this]
  rfl
/-! ### the calls as they are handed on -/
/-- the arguments of a call, all of it new since H0 -/
def ArgsN (H0 H : Hp) (a : Addr) : List (List Int) → Prop
  | [_ :: xs] => H0 a = none ∧ H a = some (.lst (LI xs))
  | [_ :: xs, row] => H0 a = none ∧ ∃ b, H0 b = none ∧ H a = some (.lst (LI xs ++ [.ref b])) ∧ H b = some (.lst (LI row))
  | _ => False
/-- what is new since H0 stands -/
def Stay (H0 H H' : Hp) : Prop := ∀ b o, H0 b = none → H b = some o → H' b = some o
theorem ArgsN.args {H0 H : Hp} {a : Addr} {c : List (List Int)} (h : ArgsN H0 H a c) : Args H a c := by
  unfold ArgsN at h
  split at h
  · exact h.2
  · obtain ⟨_, b, _, h1, h2⟩ := h
    exact ⟨b, h1, h2⟩
  · exact h.elim
theorem ArgsN.stay {H0 H H' : Hp} {a : Addr} {c : List (List Int)} (h : ArgsN H0 H a c) (k : Stay H0 H H') : ArgsN H0 H' a c := by
  unfold ArgsN at h
  split at h
  · exact ⟨h.1, k _ _ h.1 h.2⟩
  · obtain ⟨h0, b, hb, h1, h2⟩ := h
    exact ⟨h0, b, hb, k _ _ h0 h1, k _ _ hb h2⟩
  · exact h.elim
theorem ArgsN.old {H0 H1 H : Hp} {a : Addr} {c : List (List Int)} (h : ArgsN H1 H a c) (k : ∀ b, H1 b = none → H0 b = none) : ArgsN H0 H a c := by
  unfold ArgsN at h
  split at h
  · exact ⟨k _ h.1, h.2⟩
  · obtain ⟨h0, b, hb, h1, h2⟩ := h
    exact ⟨k _ h0, b, k _ hb, h1, h2⟩
  · exact h.elim
/-- one call of the found list, at T -/
def CallAt (H0 H : Hp) (T : Addr) (c : List (List Int)) : Prop := ∃ (n : Nat) (b : Addr), Asked n c ∧ H0 T = none ∧ H T = some (.tup [.int n, .ref b]) ∧ ArgsN H0 H b c
theorem CallAt.stay {H0 H H' : Hp} {T : Addr} {c : List (List Int)} (h : CallAt H0 H T c) (k : Stay H0 H H') : CallAt H0 H' T c := by
  obtain ⟨n, b, h1, h2, h3, h4⟩ := h
  exact ⟨n, b, h1, h2, k _ _ h2 h3, h4.stay k⟩
theorem CallAt.old {H0 H1 H : Hp} {T : Addr} {c : List (List Int)} (h : CallAt H1 H T c) (k : ∀ b, H1 b = none → H0 b = none) : CallAt H0 H T c := by
  obtain ⟨n, b, h1, h2, h3, h4⟩ := h
  exact ⟨n, b, h1, k _ h2, h3, h4.old k⟩
def CallsAt (H0 H : Hp) (rs : List Addr) (cs : List (List (List Int))) : Prop := rs.length = cs.length ∧ ∀ (i : Nat) (T : Addr) (c : List (List Int)), rs[i]? = some T → cs[i]? = some c → CallAt H0 H T c
theorem CallsAt.stay {H0 H H' : Hp} {rs : List Addr} {cs : List (List (List Int))} (h : CallsAt H0 H rs cs) (k : Stay H0 H H') : CallsAt H0 H' rs cs := ⟨h.1, fun i T c e1 e2 => (h.2 i T c e1 e2).stay k⟩
theorem CallsAt.old {H0 H1 H : Hp} {rs : List Addr} {cs : List (List (List Int))} (h : CallsAt H1 H rs cs) (k : ∀ b, H1 b = none → H0 b = none) : CallsAt H0 H rs cs := ⟨h.1, fun i T c e1 e2 => (h.2 i T c e1 e2).old k⟩
theorem CallsAt.snoc {H0 H : Hp} {rs : List Addr} {cs : List (List (List Int))} {T : Addr} {c : List (List Int)} (h : CallsAt H0 H rs cs) (hT : CallAt H0 H T c) : CallsAt H0 H (rs ++ [T]) (cs ++ [c]) := by
  refine ⟨by rw [List.length_append, List.length_append, h.1]; rfl, fun i U d e1 e2 => ?_⟩
  by_cases hi : i < rs.length
  · rw [List.getElem?_append_left hi] at e1
    rw [List.getElem?_append_left (by rw [← h.1]; exact hi)] at e2
    exact h.2 i U d e1 e2
  · rw [List.getElem?_append_right (by omega)] at e1
    rw [List.getElem?_append_right (by rw [← h.1]; omega)] at e2
    rw [← h.1] at e2
    cases j : i - rs.length with
    | zero =>
      rw [j] at e1 e2
      cases e1
      cases e2
      exact hT
    | succ m =>
      rw [j] at e1
      simp at e1
/-! ### the answers, call by call -/
abbrev kst := Kqg1Neutral.step
def stAt (st : Option (List (List Rat))) (cs : List (List (List Int))) : Option (List (List Rat)) := cs.foldl (fun s c => (kst s c).1) st
theorem played_append (st : Option (List (List Rat))) : ∀ (a b : List (List (List Int))), PyFlat.played kst st (a ++ b) = PyFlat.played kst st a ++ PyFlat.played kst (stAt st a) b := by
  intro a
  induction a generalizing st with
  | nil => intro b; rfl
  | cons c a ih =>
    intro b
    show (kst st c).2 :: PyFlat.played kst (kst st c).1 (a ++ b) = _
    rw [ih]
    rfl
theorem told_append (a b : List (List Int)) : PyFlat.told (a ++ b) = PyFlat.told a ++ PyFlat.told b := List.flatMap_append ..
theorem told_snoc (st : Option (List (List Rat))) (a : List (List (List Int))) (c : List (List Int)) :
    PyFlat.told (PyFlat.played kst st (a ++ [c])) = PyFlat.told (PyFlat.played kst st a) ++ (((kst (stAt st a) c).2.length : Int) :: (kst (stAt st a) c).2) := by
  rw [played_append, told_append]
  show _ ++ PyFlat.told [(kst (stAt st a) c).2] = _
  simp [PyFlat.told]
theorem told_le (st : Option (List (List Rat))) (a b : List (List (List Int))) : (PyFlat.told (PyFlat.played kst st a)).length ≤ (PyFlat.told (PyFlat.played kst st (a ++ b))).length := by
  rw [played_append, told_append, List.length_append]
  omega
theorem stAt_snoc (st : Option (List (List Rat))) (a : List (List (List Int))) (c : List (List Int)) : stAt st (a ++ [c]) = (kst (stAt st a) c).1 := by
  unfold stAt
  rw [List.foldl_append]
  rfl
theorem take_one {α : Type} {l : List α} {i : Nat} {x : α} (h : l[i]? = some x) : l.take (i + 1) = l.take i ++ [x] := by
  rw [List.take_add_one, h]
  rfl
theorem answers_is {l : List Int} (h : PyKqg1.answers_asked l = true) : ∃ cs, PyFlat.calls PyKqg1.shape l.length l = some cs ∧ (∀ c ∈ cs, Kqg1Neutral.asked1 c = true) ∧ cs.length ≤ 200 ∧ PyKqg1.answers l = PyFlat.told (PyFlat.played Kqg1Neutral.step none cs) ∧ (PyKqg1.answers l).length ≤ 10000000 := by
  unfold PyKqg1.answers_asked at h
  cases e : PyFlat.calls PyKqg1.shape l.length l with
  | none => rw [e] at h; cases h
  | some raw =>
    rw [e] at h
    have w : raw.map PyKqg1.whole = raw := by
      have : PyKqg1.whole = id := funext whole_id
      rw [this, List.map_id]
    simp only [Bool.and_eq_true, w] at h
    obtain ⟨⟨⟨⟨_, h2⟩, _⟩, h4⟩, h5⟩ := h
    refine ⟨raw, rfl, ?_, of_decide_eq_true h2, ?_, of_decide_eq_true h5⟩
    · unfold Kqg1Neutral.asked at h4
      simp only [Bool.and_eq_true, List.all_eq_true] at h4
      exact h4.1.2.1
    · unfold PyKqg1.answers PyKqg1.calls
      rw [e]
      simp only [w]
      rfl
end Rc

/-! ## Jx -/
set_option maxHeartbeats 4000000
namespace Rc
open PySem PySem.Spec PyProof.Rows L2 RcF RcG RcH RcI RcJ RcK
/-- the constants of the reading -/
structure Cr (K : PySem.W.Frag) (mg : Str → Option Value) : Prop where
  create : ∃ u, mg "CREATE" = some u ∧ RelV (.int 0) u
  setp : ∃ u, mg "SET_POLYNOMIAL" = some u ∧ RelV (.int 1) u
  plain : ∃ p : Addr, mg "PLAIN_NUMBERS" = some (.ref p) ∧ ∀ H : Hp, SqT K H p (LI plains)
/-- what reading one call gives: a tuple of its number, its arguments and the place behind it -/
def RetC (H : Hp) (Q : VK) (n : Nat) (c : List (List Int)) (e : Nat) : Prop := ∀ (H' : Hp) (T b : Addr), Same H H' → H T = none → H' T = some (.tup [.int n, .ref b, .int (e : Nat)]) → ArgsN H H' b c → Q (.ref T) H'
abbrev sRc : Stmt := top 109
abbrev nRc : List Str := ["calls", "start", "number", "end", "arguments", "row_start"]
theorem scRc : FnScope nRc ["calls", "start"] (defScope sRc) := ⟨rfl, rfl, rfl, by decide +kernel, rfl, by decide +kernel, by decide +kernel⟩
def spRc (K : PySem.W.Frag) : Sp := fun vs H Q _ => ∃ (a : Addr) (l : List Int) (i n : Nat) (c : List (List Int)) (t : List Int), vs = [.ref a, .int (i : Nat)] ∧ SqL K H a (LI l) ∧ Asked n c ∧ PyFlat.call PyKqg1.shape (l.drop i) = some (c, t) ∧
  ∀ e : Nat, i < e → e ≤ l.length → l.drop e = t → RetC H Q n c e
section
variable {P : Program} {w : World} {K : PySem.W.Frag} {mg : Str → Option Value} {base : Heap}
theorem ok_rc {f : Addr} {fd : FuncData} (F : Fun K "read_call" "read_call" sRc f fd) (C : Cr K mg) : FnOk P w K mg base CX0 1 f fd ["calls", "start"] (spRc K) := by
  obtain ⟨pp, hp, hpl⟩ := C.plain
  refine F.ok scRc (fun vs H Q E h => ?_) (fun cdv A outer s H vs Q E hr h => ⟨_, pss_cons (ps_set (i := 2) scRc.nd rfl (Or.inl rfl) (pe_ix ix_list (pv 0) (pv 1) (fun _ _ => rfl)))
    (pss_cons (ps_set (i := 3) scRc.nd rfl (Or.inl rfl) (pe_op op_add (pe_op op_add (pv 1) pe_int) (pe_ix ix_tup (pe_cst (v := .ref pp) ⟨_, hp, rfl⟩) (pv 2) (fun _ _ => rfl))))
    (pss_cons (ps_set (i := 4) scRc.nd rfl (Or.inl rfl) (pe_slice sl_list (pv 0) (po_some (pe_op op_add (pv 1) pe_int)) (po_some (pv 3))))
    (pss_cons (ps_if (pt_cmpR op_eq (pv 2) (pe_cst C.setp) (nomark _))
      (pss_cons (ps_set (i := 5) scRc.nd rfl (Or.inl rfl) (pe_op op_add (pv 3) pe_int))
      (pss_cons (ps_set (i := 3) scRc.nd rfl (Or.inl rfl) (pe_op op_add (pv 5) (pe_ix ix_list (pv 0) (pe_op op_sub (pv 5) pe_int) (fun _ _ => rfl))))
      (pss_one (ps_expr (pe_bm PySem.F.plainAttrs_list PySem.F.slot_list_append PySem.F.type_list_append mt_append (pv 4) (pa_cons (pe_slice sl_list (pv 0) (po_some (pv 5)) (po_some (pv 3))) pa_nil)))))) pss_nil)
    (pss_one (ps_ret (pe_tup (pa_cons (pv 2) (pa_cons (pv 4) (pa_cons (pv 3) pa_nil))))))))), ?_⟩)
  · obtain ⟨a, l, i, n, c, t, rfl, _⟩ := h
    rfl
  · obtain ⟨a, l, i, n, c, t, rfl, hS, hA, hcall, k⟩ := h
    have hn22 := asked_lt hA
    generalize hd : l.drop i = r at hcall
    have hlen := congrArg List.length hd
    rw [List.length_drop] at hlen
    rcases call_is hA hcall with ⟨n1, xs, rfl, rfl, hx⟩ | ⟨rfl, x, d, row, rfl, rfl⟩
    · have g0 := get_at hd (a := 0) (z := (n : Int)) rfl
      simp only [List.length_cons, List.length_append] at hlen
      refine ⟨_, rfl, _, rfl, a, LI l, i, _, rfl, rfl, hS, g0, ?_⟩
      refine ⟨_, rfl, _, _, rfl, rfl, _, rfl, pp, LI plains, n, .int (xs.length : Int), rfl, rfl, hpl _, atI_nat (by rw [List.getElem?_map, hx]; rfl), _, _, rfl, rfl, ?_⟩
      have c1 := cut_at hd 1 (1 + xs.length) (by omega) (by simp only [List.length_cons, List.length_append]; omega)
      have e1 : ((i : Int) + 1) = ((i + 1 : Nat) : Int) := rfl
      have e2 : ((i : Int) + 1 + (xs.length : Int)) = ((i + (1 + xs.length) : Nat) : Int) := by omega
      have e3 : ((((n : Int) :: (xs ++ t)).drop 1).take (1 + xs.length - 1)) = xs := by
        rw [Nat.add_sub_cancel_left]
        exact List.take_left
      rw [e3] at c1
      refine ⟨_, rfl, _, rfl, _, _, rfl, rfl, _, rfl, _, rfl, _, rfl, a, LI l, rfl, hS, fun b hb => ?_⟩
      rw [e2, e1, c1]
      refine ⟨_, rfl, rfl, _, rfl, ?_⟩
      refine if_false_of (decide_eq_false fun z => n1 (by have := V.int.inj z; omega)) ?_
      refine ⟨_, rfl, _, rfl, _, rfl, by show 3 ≤ sizeLine; decide, fun T hT => ?_⟩
      have nb : b ≠ T := ne_of_none upd_same hT
      refine k (i + (1 + xs.length)) (by omega) (by omega) ?_ _ T b ((same_new hb).trans (same_new hT)) ((same_new hb).free hT) (upd_same.trans (congrArg (fun z => some (HO.tup [V.int (n : Int), V.ref b, V.int z])) (by omega))) ⟨hb, by rw [upd_ne nb]; exact upd_same⟩
      rw [← List.drop_drop, hd, Nat.add_comm 1, List.drop_succ_cons]
      exact List.drop_left
    · have g0 := get_at hd (a := 0) (z := 1) rfl
      have g3 := get_at hd (a := 3) (z := (row.length : Int)) rfl
      simp only [List.length_cons, List.length_append] at hlen
      refine ⟨_, rfl, _, rfl, a, LI l, i, _, rfl, rfl, hS, g0, ?_⟩
      refine ⟨_, rfl, _, _, rfl, rfl, _, rfl, pp, LI plains, 1, .int 2, rfl, rfl, hpl _, atI_nat (j := 1) rfl, _, _, rfl, rfl, ?_⟩
      have c1 := cut_at hd 1 3 (by omega) (by simp only [List.length_cons, List.length_append]; omega)
      change cutV (LI l) (some ((i + 1 : Nat) : Int)) (some ((i + 3 : Nat) : Int)) = LI [x, d] at c1
      have c2 := cut_at hd 4 (4 + row.length) (by omega) (by simp only [List.length_cons, List.length_append]; omega)
      have e1 : ((i : Int) + 1) = ((i + 1 : Nat) : Int) := rfl
      have e2 : ((i : Int) + 1 + 2) = ((i + 3 : Nat) : Int) := by omega
      have e4 : ((((1 : Int) :: x :: d :: (row.length : Int) :: (row ++ t)).drop 4).take (4 + row.length - 4)) = row := by
        rw [Nat.add_sub_cancel_left]
        exact List.take_left
      rw [e4] at c2
      refine ⟨_, rfl, _, rfl, _, _, rfl, rfl, _, rfl, _, rfl, _, rfl, a, LI l, rfl, hS, fun b hb => ?_⟩
      rw [e2, e1, c1]
      refine ⟨_, rfl, rfl, _, rfl, ?_⟩
      refine if_true_of (by rfl) ?_
      refine ⟨_, rfl, _, _, rfl, rfl, ?_⟩
      have s1 := same_new (o := .lst [.int x, .int d]) hb
      refine ⟨_, rfl, _, rfl, _, rfl, _, _, rfl, rfl, a, LI l, ((i : Int) + 1 + 2 + 1) - 1, .int (row.length : Int), rfl, rfl, s1.seq hS, ?_, _, _, rfl, rfl, ?_⟩
      · rw [show ((i : Int) + 1 + 2 + 1) - 1 = ((i + 3 : Nat) : Int) by omega]
        exact g3
      have e5 : (((i + 1 : Nat) : Int) + 2 + 1) = ((i + 4 : Nat) : Int) := by omega
      have e6 : (((i + 1 : Nat) : Int) + 2 + 1 + (row.length : Int)) = ((i + (4 + row.length) : Nat) : Int) := by omega
      refine ⟨_, rfl, .inl ⟨rfl, _, seq_lst upd_same⟩, _, rfl, _, rfl, _, rfl, _, rfl, _, rfl, a, LI l, rfl, s1.seq hS, fun rr hrr => ?_⟩
      have nrb : b ≠ rr := ne_of_none upd_same hrr
      rw [e6, e5, c2]
      refine ⟨b, [.int x, .int d], .ref rr, rfl, rfl, by rw [upd_ne nrb]; exact upd_same, by show 2 < sizeLine; decide, ?_⟩
      refine ⟨_, rfl, _, rfl, _, rfl, by show 3 ≤ sizeLine; decide, fun T hT => ?_⟩
      have nb : b ≠ T := ne_of_none upd_same hT
      rw [upd_ne nb.symm] at hT
      have nr : rr ≠ T := ne_of_none upd_same hT
      have hrr0 : H rr = none := s1.free hrr
      have s2 : Same H (upd (upd H b (.lst [.int x, .int d])) rr (.lst (LI row))) := s1.trans (same_new hrr)
      have s3 : Same H (upd (upd (upd H b (.lst [.int x, .int d])) rr (.lst (LI row))) b (.lst ([.int x, .int d] ++ [.ref rr]))) := same_upd s2 hb
      have hT3 : (upd (upd (upd H b (.lst [.int x, .int d])) rr (.lst (LI row))) b (.lst ([.int x, .int d] ++ [.ref rr]))) T = none := by rw [upd_ne nb.symm]; exact hT
      refine k (i + (4 + row.length)) (by omega) (by omega) ?_ _ T b (s3.trans (same_new hT3)) (s2.free hT) (upd_same.trans (congrArg (fun z => some (HO.tup [V.int (1 : Int), V.ref b, V.int z])) (by omega))) ⟨hb, rr, hrr0, ?_, ?_⟩
      · rw [← List.drop_drop, hd, Nat.add_comm 4, List.drop_succ_cons, List.drop_succ_cons, List.drop_succ_cons, List.drop_succ_cons]
        exact List.drop_left
      · rw [upd_ne nb, upd_same]
        rfl
      · rw [upd_ne nr, upd_ne nrb.symm, upd_same]
end
end Rc

/-! ## Jy -/
set_option maxHeartbeats 4000000
namespace Rc
open PySem PySem.Spec PyProof.Rows L2 RcF RcG RcH RcI RcJ RcK
theorem Same.stay' {H0 H H' : Hp} (s : Same H H') : Stay H0 H H' := fun b o _ e => s b o e
theorem RetC.call {H H' H0 : Hp} {Q : VK} {n : Nat} {c : List (List Int)} {e : Nat} (h : RetC H Q n c e) (s : Same H H') (T b : Addr) (hT : H T = none) (eT : H' T = some (.tup [.int n, .ref b, .int (e : Nat)])) (ha : ArgsN H H' b c) : Q (.ref T) H' := h H' T b s hT eT ha
theorem same_stay {H0 H1 H2 : Hp} {F : Addr} {o : HO} (s : Same H1 H2) (hF : H0 F ≠ none) : Stay H0 H1 (upd H2 F o) := fun b u hb e => by
  rw [upd_ne (fun z => hF (by rw [← z]; exact hb))]
  exact s b u e
theorem calls_step {f i : Nat} {l : List Int} {cs : List (List (List Int))} (hi : i < l.length) (h : PyFlat.calls PyKqg1.shape f (l.drop i) = some cs) : ∃ f' c t cs', PyFlat.call PyKqg1.shape (l.drop i) = some (c, t) ∧ PyFlat.calls PyKqg1.shape f' t = some cs' ∧ cs = c :: cs' := by
  generalize hd : l.drop i = r at h
  have hl := congrArg List.length hd
  rw [List.length_drop] at hl
  cases r with
  | nil => simp at hl; omega
  | cons p r =>
    cases f with
    | zero => cases h
    | succ f =>
      cases hc : PyFlat.call PyKqg1.shape (p :: r) with
      | none => simp only [PyFlat.calls, hc] at h; cases h
      | some ct =>
        obtain ⟨c, t⟩ := ct
        simp only [PyFlat.calls, hc] at h
        cases hr : PyFlat.calls PyKqg1.shape f t with
        | none => rw [hr] at h; cases h
        | some cs' =>
          rw [hr] at h
          simp only [Option.some.injEq] at h
          exact ⟨f, c, t, cs', rfl, hr, h.symm⟩
/-! ### read_calls -/
abbrev sRs : Stmt := top 110
abbrev nRs : List Str := ["calls", "found", "place", "number", "arguments"]
theorem scRs : FnScope nRs ["calls"] (defScope sRs) := ⟨rfl, rfl, rfl, by decide +kernel, rfl, by decide +kernel, by decide +kernel⟩
def spRs (K : PySem.W.Frag) : Sp := fun vs H Q _ => ∃ (a : Addr) (l : List Int) (cs : List (List (List Int))), vs = [.ref a] ∧ SqL K H a (LI l) ∧ PyFlat.calls PyKqg1.shape l.length l = some cs ∧ (∀ c ∈ cs, ∃ n, Asked n c) ∧ cs.length ≤ 200 ∧
  ∀ (H' : Hp) (F : Addr) (rs : List Addr), Same H H' → H F = none → H' F = some (.lst (RI rs)) → CallsAt H H' rs cs → Q (.ref F) H'
/-- between two calls: H the heap at first, F the list found -/
def RsInv (H : Hp) (a F : Addr) (l : List Int) (cs : List (List (List Int))) (σ : L2.St) (H1 : Hp) : Prop := ∃ (i f : Nat) (rs : List Addr) (done rest : List (List (List Int))) (s3 s4 : Option V),
  σ = [some (.ref a), some (.ref F), some (.int (i : Nat)), s3, s4] ∧ i ≤ l.length ∧ Same H H1 ∧ H1 F = some (.lst (RI rs)) ∧ CallsAt (upd H F (.lst [])) H1 rs done ∧ PyFlat.calls PyKqg1.shape f (l.drop i) = some rest ∧ done ++ rest = cs
def RsMu (l : List Int) (σ : L2.St) (_ : Hp) : Nat := match σ with
  | [_, _, some (.int i), _, _] => l.length - i.toNat
  | _ => 0
section
variable {P : Program} {w : World} {K : PySem.W.Frag} {mg : Str → Option Value} {base : Heap}
theorem ok_rs {f : Addr} {fd : FuncData} (F : Fun K "read_calls" "read_calls" sRs f fd) (B : BI P mg base) (D : Dn P w K mg base "read_call" 1 ["calls", "start"] (spRc K)) : FnOk P w K mg base CX0 2 f fd ["calls"] (spRs K) := by
  refine F.ok scRs (fun vs H Q E h => ?_) (fun cdv A outer s H vs Q E hr h => ⟨_, pss_cons (ps_set (i := 1) scRs.nd rfl (Or.inl rfl) (pe_lst pa_nil))
    (pss_cons (ps_set (i := 2) scRs.nd rfl (Or.inl rfl) pe_int)
    (pss_cons (ps_while PassesOwn.never (pt_cmpR op_lt (pv 2) (pe_callB call_len_seq (by rfl) B.len (by decide +kernel) (pa_cons (pv 0) pa_nil)) (nomark _))
      (pss_cons (ps_asg (pe_fn D (hr.mono (by decide)) (pa_cons (pv 0) (pa_cons (pv 2) pa_nil)))
        (pg_tup rfl (pgs_cons (pg_name (i := 3) scRs.nd rfl (Or.inl rfl)) (pgs_cons (pg_name (i := 4) scRs.nd rfl (Or.inl rfl)) (pgs_cons (pg_name (i := 2) scRs.nd rfl (Or.inl rfl)) pgs_nil)))))
      (pss_one (ps_expr (pe_bm PySem.F.plainAttrs_list PySem.F.slot_list_append PySem.F.type_list_append mt_append (pv 1) (pa_cons (pe_tup (pa_cons (pv 3) (pa_cons (pv 4) pa_nil))) pa_nil))))))
    (pss_one (ps_ret (pv 1))))), ?_⟩)
  · obtain ⟨a, l, cs, rfl, _⟩ := h
    rfl
  · obtain ⟨a, l, cs, rfl, hS, hc, hA, h200, k⟩ := h
    refine ⟨by show 0 ≤ sizeLine; exact Nat.zero_le _, fun Fd hF => ?_⟩
    refine while_by (RsInv H a Fd l cs) (RsMu l) ⟨0, l.length, [], [], cs, none, none, rfl, Nat.zero_le _, same_new hF, upd_same, ⟨rfl, fun i T c e _ => by simp at e⟩, hc, rfl⟩ ?_ ?_
    · rintro σ H1 ⟨i, f, rs, done, rest, s3, s4, rfl, hi, s1, e1, ca, e2, e3⟩
      have hF1 : (upd H Fd (.lst [])) Fd ≠ none := by rw [upd_same]; simp
      refine ⟨_, rfl, _, rfl, a, _, rfl, .inl (s1.seq hS), _, _, rfl, rfl, _, rfl, ?_⟩
      by_cases c : i < l.length
      · refine if_true_of (by rw [li_len]; simpa using c) ?_
        obtain ⟨f', c, t, cs', g1, g2, rfl⟩ := calls_step c e2
        obtain ⟨n, hn⟩ := hA c (by rw [← e3]; simp)
        refine ⟨_, rfl, _, rfl, a, l, i, n, c, t, rfl, s1.seq hS, hn, g1, fun e q1 q2 q3 H2 T b s2 hT eT hb => ?_⟩
        refine ⟨T, _, rfl, .inl (.inl eT), rfl, _, _, rfl, _, _, rfl, _, _, rfl, rfl, ?_⟩
        refine ⟨_, rfl, .inl ⟨rfl, _, seq_lst (s2 _ _ e1)⟩, _, rfl, _, rfl, by show 2 ≤ sizeLine; decide, fun U hU => ?_⟩
        have nU : Fd ≠ U := ne_of_none (s2 _ _ e1) hU
        have s3' := s2.trans (same_new (o := .tup [.int n, .ref b]) hU)
        refine ⟨Fd, _, _, rfl, rfl, by rw [upd_ne nU]; exact s2 _ _ e1, small1000 (by
          rw [ri_len, ca.1]
          have := congrArg List.length e3
          rw [List.length_append] at this
          omega), ?_⟩
        have old : ∀ b, H1 b = none → (upd H Fd (.lst [])) b = none := fun b hb => by
          have nb : Fd ≠ b := ne_of_none e1 hb
          rw [upd_ne nb.symm]
          exact s1.free hb
        have st : Stay (upd H Fd (.lst [])) H1 (upd (upd H2 U (.tup [.int n, .ref b])) Fd (.lst (RI rs ++ [.ref U]))) := same_stay s3' hF1
        have st2 : Stay (upd H Fd (.lst [])) H2 (upd (upd H2 U (.tup [.int n, .ref b])) Fd (.lst (RI rs ++ [.ref U]))) := same_stay (same_new hU) hF1
        refine ⟨⟨e, f', rs ++ [U], done ++ [c], cs', some (.int n), some (.ref b), rfl, q2, same_upd (s1.trans s3') hF, by rw [upd_same, ri_snoc], ?_, by rw [q3]; exact g2, by rw [← e3]; simp⟩, ?_⟩
        · refine (ca.stay st).snoc ⟨n, b, hn, old _ (s2.free hU), ?_, ?_⟩
          · rw [upd_ne nU.symm, upd_same]
          · exact (hb.old old).stay st2
        · show l.length - ((e : Nat) : Int).toNat < l.length - ((i : Nat) : Int).toNat
          omega
      · refine if_false_of (by rw [li_len]; simpa using c) ⟨_, rfl, k H1 Fd rs s1 hF e1 ?_⟩
        have hr : rest = [] := by
          have : l.drop i = [] := List.drop_eq_nil_of_le (by omega)
          rw [this] at e2
          cases f <;> exact (Option.some.inj e2).symm
        rw [hr, List.append_nil] at e3
        rw [← e3]
        refine ca.old fun b hb => ?_
        by_cases nb : b = Fd
        · rw [nb]
          exact hF
        · rw [upd_ne nb] at hb
          exact hb
    · intro σ H1 Q Q' hQ h
      obtain ⟨x, e1, y, e2, a', xs, e3, e4, i, j, e5, e6, z, e7, q⟩ := h
      exact ⟨x, e1, y, e2, a', xs, e3, e4, i, j, e5, e6, z, e7, hQ _ _ q⟩
end
end Rc

/-! ## Jz -/
set_option maxHeartbeats 4000000
namespace Rc
open PySem PySem.Spec PyProof.Rows L2 RcF RcG RcH RcI RcJ RcK
/-- create, with what is new told -/
def spOp0 : Sp := fun vs H Q _ => ∃ (S a : Addr) (st : St), vs = [.ref S, .ref a] ∧ Slots H S st ∧
  ∀ (H' : Hp) (l : Addr) (rs : List Addr), After H S H' → H' S = some (.lst (RI rs)) → rs.length = 4 → (∀ r ∈ rs, H r = none ∧ H' r = some (.lst []) ∧ r ≠ S) → H l = none → H' l = some (.lst (LI [0])) → Q (.ref l) H'
section
variable {P : Program} {w : World} {K : PySem.W.Frag} {mg : Str → Option Value} {base : Heap} {R : Addr}
theorem ok_op0f {f : Addr} {fd : FuncData} (F : Fun K "create" "create" sOp0 f fd) (B : BI P mg base) (C : Cs mg) : FnOk P w K mg base (L2.CX P w) 60 f fd nOp spOp0 := by
  refine F.okX scOp0 (fun vs H Q E h => by obtain ⟨S, a, st, rfl, _⟩ := h; rfl) (fun cdv A outer s H vs Q E hr h => ⟨_, pss_cons (ps_expr (pe_bm0 PySem.F.plainAttrs_list PySem.F.slot_list_clear PySem.F.type_list_clear mt_clear (pv 0)))
    (pss_cons (ps_expr (pe_bm PySem.F.plainAttrs_list PySem.F.slot_list_extend PySem.F.type_list_extend mt_extend (pv 0) (pa_cons
      (pe_lc (own := [("slot", 2)]) (g := gName 2) (tt := tYes) rfl scOp0.nd (pi_range1 (by rfl) B.range (pa_cons (pe_cst C.slots) pa_nil)) (blkOk_by (N := nOp0) (sc := defScope sOp0) (by decide +kernel))
        (fun _ _ _ _ _ => pg_name (i := 2) scOp0.nd rfl (Or.inl rfl)) (fun _ _ _ _ _ => pts_nil) (fun _ _ _ _ _ => pe_lst pa_nil)) pa_nil)))
    (pss_one (ps_ret (pe_lst (pa_cons pe_int pa_nil))))), ?_⟩)
  obtain ⟨S, a, st, rfl, hS, k⟩ := h
  obtain ⟨xs, hx⟩ : ∃ xs, H S = some (.lst xs) := by
    cases st with
    | none => exact ⟨_, hS⟩
    | some l => obtain ⟨rs, h1, _⟩ := hS; exact ⟨_, h1⟩
  refine ⟨_, rfl, .inl ⟨rfl, _, seq_lst hx⟩, S, xs, rfl, rfl, hx, ?_⟩
  refine ⟨_, rfl, .inl ⟨rfl, _, seq_lst upd_same⟩, ?_⟩
  have hn : H ≠ fun _ => none := fun z => by rw [z] at hx; cases hx
  refine ⟨4, rfl, by decide, by decide, fun D hD => lc_it walk_range (fun i H2 => ∃ rs : List Addr, H2 D = some (.lst (RI rs)) ∧ rs.length = i ∧ (∀ r ∈ rs, H2 r = some (.lst []) ∧ r ≠ S ∧ r ≠ D ∧ H r = none) ∧ Same (upd H S (.lst [])) H2) ⟨[], upd_same, rfl, (fun r hr => by simp at hr), same_new hD⟩ (fun _ _ _ _ => True.intro) ?_ ?_⟩
  · rintro i x H1 H2 hi ⟨rs, q1, q2, q3, q4⟩ ⟨rfl, rfl⟩
    refine ⟨rfl, ?_⟩
    refine ⟨by show 0 ≤ sizeLine; exact Nat.zero_le _, fun r hr => ?_⟩
    have nD : D ≠ r := ne_of_none q1 hr
    have nS : r ≠ S := fun z => by
      rw [z, q4 S _ upd_same] at hr
      cases hr
    refine ⟨_, by rw [upd_ne nD]; exact q1, small1000 (by rw [ri_len]; omega), rs ++ [r], by rw [upd_same, ri_snoc], by rw [List.length_append, q2]; rfl, ?_, same_upd (q4.trans (same_new hr)) hD⟩
    intro y hy
    rcases List.mem_append.mp hy with hy | hy
    · obtain ⟨e1, e2, e3, e4⟩ := q3 y hy
      rw [upd_ne e3, upd_ne (ne_of_none e1 hr)]
      exact ⟨e1, e2, e3, e4⟩
    · obtain rfl := List.mem_singleton.mp hy
      rw [upd_ne nD.symm, upd_same]
      exact ⟨rfl, nS, nD.symm, by have := q4.free hr; rw [upd_ne nS] at this; exact this⟩
  · rintro H2 ⟨rs, q1, q2, q3, q4⟩
    have nDS : D ≠ S := fun z => by
      rw [z, upd_same] at hD
      cases hD
    refine ⟨S, D, [], RI rs, rfl, rfl, q4 _ _ upd_same, q1, by rw [ri_len, q2]; decide, ?_⟩
    refine ⟨by show 1 ≤ sizeLine; decide, fun l hl => ?_⟩
    have lS : l ≠ S := fun z => by
      rw [z, upd_same] at hl
      cases hl
    rw [upd_ne lS] at hl
    have hl0 : H l = none := by
      cases e : H l with
      | none => rfl
      | some o =>
        have := q4 l o (by rw [upd_ne lS]; exact e)
        rw [hl] at this
        cases this
    refine k _ l rs (fun b o hb e => ?_) (by rw [upd_ne lS.symm, upd_same]; rfl) q2 (fun r hr => ?_) hl0 upd_same
    · rw [upd_ne (ne_of_none e hl0), upd_ne hb]
      exact q4 b o (by rw [upd_ne hb]; exact e)
    · obtain ⟨e1, e2, e3, e4⟩ := q3 r hr
      refine ⟨e4, ?_, e2⟩
      rw [upd_ne (ne_of_none e1 hl), upd_ne e2]
      exact e1
/-- what is wished of a call -/
def AnsF (K : PySem.W.Frag) (R : Addr) (H : Hp) (S : Addr) (Q : VK) (E : XK) (st : St) (c : List (List Int)) : Prop :=
  (∀ (H' : Hp) (l : Addr), After H S H' → Slots H' S (Kqg1Neutral.step st c).1 → (st = none → ∀ rs, H' S = some (.lst (RI rs)) → ∀ r ∈ rs, H r = none) → H l = none → H' l = some (.lst (LI (Kqg1Neutral.step st c).2)) → Q (.ref l) H') ∧
    (∀ z, Kqg1Neutral.step st c = (st, [z]) → Er K R E H z)
theorem ri_inj {a b : List Addr} (h : RI a = RI b) : a = b := by
  induction a generalizing b with
  | nil => cases b with
    | nil => rfl
    | cons _ _ => cases h
  | cons x a ih => cases b with
    | nil => cases h
    | cons y b =>
      have h' : V.ref x :: RI a = V.ref y :: RI b := h
      simp only [List.cons.injEq, V.ref.injEq] at h'
      rw [h'.1, ih h'.2]
theorem step_none {n : Nat} {c : List (List Int)} (h : Asked n c) (h0 : n ≠ 0) : Kqg1Neutral.step none c = (none, [-11]) := by
  cases h
  case create => exact absurd rfl h0
  all_goals rfl
structure Ops (P : Program) (w : World) (K : PySem.W.Frag) (mg : Str → Option Value) (base : Heap) (R : Addr) : Prop where
  ex : ∃ p : Addr, mg "OPERATIONS" = some (.ref p) ∧ (∃ f, KDI K p 0 f ∧ HeldX P w K mg base 60 nOp f spOp0) ∧ ∀ n : Nat, n ≠ 0 → n < 22 → ∃ f, KDI K p n f ∧ HeldX P w K mg base 60 nOp f (spOp K R n)
/-! ### run_call -/
abbrev sRu : Stmt := top 112
abbrev nRu : List Str := ["slots", "number", "arguments", "operation"]
theorem scRu : FnScope nRu ["slots", "number", "arguments"] (defScope sRu) := ⟨rfl, rfl, rfl, by decide +kernel, rfl, by decide +kernel, by decide +kernel⟩
def spRu (K : PySem.W.Frag) (R : Addr) : Sp := fun vs H Q E => ∃ (S : Addr) (n : Nat) (a : Addr) (c : List (List Int)) (st : St), vs = [.ref S, .int (n : Nat), .ref a] ∧ Slots H S st ∧ Args H a c ∧ Asked n c ∧ AnsF K R H S Q E st c
theorem ok_ru {f : Addr} {fd : FuncData} (F : Fun K "run_call" "run_call" sRu f fd) (C : Cr K mg) (D : Ec P w K mg base R "NotCreated" (-11)) (O : Ops P w K mg base R) : FnOk P w K mg base (L2.CX P w) 61 f fd ["slots", "number", "arguments"] (spRu K R) := by
  obtain ⟨p, hp, ⟨f0, k0, h0⟩, hO⟩ := O.ex
  refine F.okX scRu (fun vs H Q E h => ?_) (fun cdv A outer s H vs Q E hr h => ⟨_, pss_cons (ps_if (PW.pt (pw_and (pt_cmpR op_ne (pv 1) (pe_cst C.create) (nomark _)) (pw_and1 (pt_not (pt_truth (pv 0) (fun _ => rfl)))))) (pss_one (ps_rz rfl (takes_of rfl rfl rfl rfl) D (hr.mono (by decide)))) pss_nil)
    (pss_cons (ps_set (i := 3) scRu.nd rfl (Or.inl rfl) (pe_ix ix_kdi (pe_cst (v := .ref p) ⟨_, hp, rfl⟩) (pv 1) (fun _ _ => rfl)))
    (pss_one (ps_ret (pe_held (i := 3) (S := fun f sp => HeldX P w K mg base 60 nOp f sp) (E := E) (fun _ _ h => h) (takes_of rfl rfl rfl rfl) hr rfl (Or.inl rfl) (pa_cons (pv 0) (pa_cons (pv 2) pa_nil)))))), ?_⟩)
  · obtain ⟨S, n, a, c, st, rfl, _⟩ := h
    rfl
  · obtain ⟨S, n, a, c, st, rfl, hS, hA, hc, k⟩ := h
    refine ⟨_, rfl, rfl, _, rfl, ?_⟩
    by_cases c0 : n = 0
    · subst c0
      have ec : c = [[0]] := by cases hc; rfl
      subst ec
      refine if_false_of (by decide) ?_
      refine if_false_of rfl ?_
      refine ⟨_, rfl, p, 0, f0, rfl, rfl, k0, ?_⟩
      refine ⟨f0, spOp0, rfl, h0, ?_⟩
      refine ⟨_, rfl, _, rfl, S, a, st, rfl, hS, fun H' l rs a1 a2 a3 a4 a5 a6 => k.1 H' l a1 ?_ ?_ a5 a6⟩
      · refine ⟨rs, a2, a3, rfl, fun i r hr => ?_⟩
        obtain ⟨b1, b2, b3⟩ := a4 r (List.mem_of_getElem? hr)
        have hi : i < 4 := by
          have := (List.getElem?_eq_some_iff.mp hr).1
          omega
        refine ⟨b3, [], ?_, ⟨[], b2, True.intro⟩, small_nil⟩
        show (List.replicate 4 ([] : List Rat))[i]? = some []
        rw [List.getElem?_replicate, if_pos hi]
      · intro _ rs' e r hr
        have e2 : V.ref <$> rs = V.ref <$> rs' := by
          rw [a2] at e
          exact (by simpa using e : RI rs = RI rs')
        obtain rfl := ri_inj e2
        exact (a4 r hr).1
    · refine if_true_of (by simpa using c0) ?_
      cases st with
      | none =>
        refine ⟨_, rfl, false, .inl ⟨[], seq_lst hS, rfl⟩, ?_⟩
        refine if_true_of rfl ?_
        exact (k.2 _ (step_none hc c0)).raise (Same.refl H)
      | some l =>
        obtain ⟨rs, h1, h2, h3, h4⟩ := id hS
        refine ⟨_, rfl, true, .inl ⟨_, seq_lst h1, ?_⟩, ?_⟩
        · cases rs with
          | nil => simp at h2
          | cons _ _ => rfl
        refine if_false_of rfl ?_
        obtain ⟨f1, k1, g1⟩ := hO n c0 (asked_lt hc)
        refine ⟨_, rfl, p, n, f1, rfl, rfl, k1, ?_⟩
        refine ⟨f1, spOp K R n, rfl, g1, ?_⟩
        exact ⟨_, rfl, _, rfl, S, a, c, some l, rfl, hS, hA, hc, .inr ⟨l, rfl⟩, fun H' l' b1 b2 b3 b4 => k.1 H' l' b1 b2 (fun z => by cases z) b3 b4, k.2⟩
end
end Rc

/-! ## Ma -/
set_option maxHeartbeats 4000000
namespace Rc
open PySem PySem.Spec PyProof.Rows L2 RcF RcG RcH RcI RcJ RcK
/-! ### answer_call -/
abbrev sAc : Stmt := top 113
abbrev nAc : List Str := ["slots", "number", "arguments", "refusal"]
theorem scAc : FnScope nAc ["slots", "number", "arguments"] (defScope sAc) := ⟨rfl, rfl, rfl, by decide +kernel, rfl, by decide +kernel, by decide +kernel⟩
def spAc : Sp := fun vs H Q _ => ∃ (S : Addr) (n : Nat) (a : Addr) (c : List (List Int)) (st : St), vs = [.ref S, .int (n : Nat), .ref a] ∧ Slots H S st ∧ Args H a c ∧ Asked n c ∧
  ∀ (H' : Hp) (l : Addr), After H S H' → Slots H' S (Kqg1Neutral.step st c).1 → (st = none → ∀ rs, H' S = some (.lst (RI rs)) → ∀ r ∈ rs, H r = none) → H l = none → H' l = some (.lst (LI (Kqg1Neutral.step st c).2)) → Q (.ref l) H'
section
variable {P : Program} {w : World} {K : PySem.W.Frag} {mg : Str → Option Value} {base : Heap} {R : Addr}
theorem ok_ac {f : Addr} {fd : FuncData} (F : Fun K "answer_call" "answer_call" sAc f fd) (gR : mg "Refusal" = some (.ref R)) (D : DnX P w K mg base "run_call" 61 ["slots", "number", "arguments"] (spRu K R)) : FnOk P w K mg base CX0 62 f fd ["slots", "number", "arguments"] spAc := by
  obtain ⟨fT, fdT, gT, kT, bT, FT⟩ := D.ex
  refine F.ok scAc (fun vs H Q E h => ?_) (fun cdv A outer s H vs Q E hr h => ⟨_, pss_one (ps_try_as (i := 3) (tb := fun W => tRet (tCallS (spRu K R) (WE W) (tCons (tVar 0) (tCons (tVar 1) (tCons (tVar 2) tNil)))))
      (ts := fun a cls d => tRet (tLst (tCons (tGot K R a cls d (tVar 3)) tNil))) (Wout := fun _ _ _ _ => False) rfl rfl scAc.nd rfl rfl ⟨rfl, by decide, Or.inl gR⟩ takes0
      (fun W pn xe tk _ => pss_one (ps_ret (pe_callS FT hr rfl gT kT bT (fun σ => passAt tk σ) (by exact (pa_cons (pv 0) (pa_cons (pv 1) (pa_cons (pv 2) pa_nil)))))))
      (fun a oe cls d pn hz hf => pss_one (ps_ret (pe_lst (pa_cons (pe_got hz hf (pv 3)) pa_nil))))), ?_⟩)
  · obtain ⟨S, n, a, c, st, rfl, _⟩ := h
    rfl
  · obtain ⟨S, n, a, c, st, rfl, hS, hA, hc, k⟩ := h
    refine ⟨_, rfl, _, rfl, _, rfl, S, n, a, c, st, rfl, hS, hA, hc, k, fun z hz H' C d T s1 ed => ?_⟩
    refine ⟨true, T.te, fun _ a0 _ => ?_, fun q => Bool.noConfusion q⟩
    refine ⟨_, rfl, rfl, C, d, _, rfl, T, rfl, ed, by show 1 ≤ sizeLine; decide, fun l hl => ?_⟩
    refine k _ l (.of_same (s1.trans (same_new hl))) ?_ (fun e rs er r hr => ?_) (s1.free hl) ?_
    · rw [hz]
      exact hS.same (s1.trans (same_new hl))
    · subst e
      have e0 : H S = some (.lst []) := hS
      rw [(s1.trans (same_new hl)) _ _ e0] at er
      have : rs = [] := by simpa using er
      rw [this] at hr
      simp at hr
    · rw [upd_same, hz]
      rfl
end
end Rc

/-! ## Mb -/
set_option maxHeartbeats 4000000
namespace Rc
open PySem PySem.Spec PyProof.Rows L2 RcF RcG RcH RcI RcJ RcK
/-! ### answers -/
theorem told_ne (st : St) (a : List (List (List Int))) (c : List (List Int)) : PyFlat.told (PyFlat.played kst st (a ++ [c])) ≠ [] := by
  rw [told_snoc]
  simp
/-- a list of numbers, not empty, isn't one of references -/
theorem lst_far {H : Hp} {a b : Addr} {xs : List Int} {rs : List Addr} (ha : H a = some (.lst (LI xs))) (hx : xs ≠ []) (hb : H b = some (.lst (RI rs))) : a ≠ b := fun z => by
  rw [z, hb] at ha
  cases xs with
  | nil => exact hx rfl
  | cons x xs => cases rs with
    | nil => simp at ha
    | cons r rs => simp at ha
theorem poly_upd {H : Hp} {r p : Addr} {q : List Rat} {ys zs : List V} (h : PolyAt H r q) (hp : H p = some (.lst ys)) (n : r ≠ p) : PolyAt (upd H p (.lst zs)) r q := by
  obtain ⟨rs, h1, h2⟩ := h
  refine ⟨rs, by rw [upd_ne n]; exact h1, h2.keep fun b xs e => ?_⟩
  have nb : b ≠ p := fun z => by
    rw [z, hp] at e
    cases e
  rw [upd_ne nb]
  exact e
theorem slots_upd {H : Hp} {S p : Addr} {st : St} {ys zs : List V} (h : Slots H S st) (hp : H p = some (.lst ys)) (n : p ≠ S) (far : ∀ rs, H S = some (.lst (RI rs)) → p ∉ rs) : Slots (upd H p (.lst zs)) S st := by
  cases st with
  | none =>
    show upd H p (.lst zs) S = _
    rw [upd_ne n.symm]
    exact h
  | some l =>
    obtain ⟨rs, h1, h2, h3, h4⟩ := h
    refine ⟨rs, by rw [upd_ne n.symm]; exact h1, h2, h3, fun i r e => ?_⟩
    obtain ⟨e1, q, e2, e3, e4⟩ := h4 i r e
    refine ⟨e1, q, e2, poly_upd e3 hp (fun z => far rs h1 ?_), e4⟩
    rw [← z]
    exact List.mem_of_getElem? e
abbrev sAn : Stmt := top 114
abbrev nAn : List Str := ["calls", "slots", "reply", "number", "arguments", "answered"]
theorem scAn : FnScope nAn ["calls"] (defScope sAn) := ⟨rfl, rfl, rfl, by decide +kernel, rfl, by decide +kernel, by decide +kernel⟩
def spAn (K : PySem.W.Frag) : Sp := fun vs H Q _ => ∃ (a : Addr) (l : List Int), vs = [.ref a] ∧ SqL K H a (LI l) ∧ PyKqg1.answers_asked l = true ∧ ∀ (H' : Hp) (p : Addr), H' p = some (.lst (LI (PyKqg1.answers l))) → Q (.ref p) H'
/-- before the call at i: S the slots, p the reply, Fd the calls found; H0 the heap with both made -/
def AnInv (H0 : Hp) (a S p Fd : Addr) (rs : List Addr) (cs : List (List (List Int))) (i : Nat) (σ : L2.St) (H1 : Hp) : Prop := ∃ s3 s4 s5 : Option V, σ = [some (.ref a), some (.ref S), some (.ref p), s3, s4, s5] ∧
  H1 p = some (.lst (LI (PyFlat.told (PyFlat.played kst none (cs.take i))))) ∧ Slots H1 S (stAt none (cs.take i)) ∧ H1 Fd = some (.lst (RI rs)) ∧ CallsAt H0 H1 rs cs
theorem size_fit {a b n : Nat} (h : a + (1 + b) ≤ n) (hn : n ≤ 10000000) : a + 1 ≤ 10000000 ∧ a + 1 + b ≤ 10000000 := by omega
section
variable {P : Program} {w : World} {K : PySem.W.Frag} {mg : Str → Option Value} {base : Heap} {R : Addr}
theorem ok_an {f : Addr} {fd : FuncData} (F : Fun K "answers" "answers" sAn f fd) (B : BI P mg base) (D1 : Dn P w K mg base "read_calls" 2 ["calls"] (spRs K)) (D2 : Dn P w K mg base "answer_call" 62 ["slots", "number", "arguments"] spAc) :
    FnOk P w K mg base CX0 63 f fd ["calls"] (spAn K) := by
  refine F.ok scAn (fun vs H Q E h => ?_) (fun cdv A outer s H vs Q E hr h => ⟨_, pss_cons (ps_set (i := 1) scAn.nd rfl (Or.inl rfl) (pe_lst pa_nil))
    (pss_cons (ps_set (i := 2) scAn.nd rfl (Or.inl rfl) (pe_lst pa_nil))
    (pss_cons (ps_for PassesOwn.never rfl (pi_list (pe_fn D1 (hr.mono (by decide)) (pa_cons (pv 0) pa_nil))) (pg_tup rfl (pgs_cons (pg_name (i := 3) scAn.nd rfl (Or.inl rfl)) (pgs_cons (pg_name (i := 4) scAn.nd rfl (Or.inl rfl)) pgs_nil)))
      (pss_cons (ps_set (i := 5) scAn.nd rfl (Or.inl rfl) (pe_fn D2 hr (pa_cons (pv 1) (pa_cons (pv 3) (pa_cons (pv 4) pa_nil)))))
      (pss_cons (ps_expr (pe_bm PySem.F.plainAttrs_list PySem.F.slot_list_append PySem.F.type_list_append mt_append (pv 2) (pa_cons (pe_callB call_len_seq (by rfl) B.len (by decide +kernel) (pa_cons (pv 5) pa_nil)) pa_nil)))
      (pss_one (ps_expr (pe_bm PySem.F.plainAttrs_list PySem.F.slot_list_extend PySem.F.type_list_extend mt_extend (pv 2) (pa_cons (pv 5) pa_nil)))))))
    (pss_one (ps_ret (pv 2))))), ?_⟩)
  · obtain ⟨a, l, rfl, _⟩ := h
    rfl
  · obtain ⟨a, l, rfl, hS, hask, k⟩ := h
    obtain ⟨cs, hcs, hall, h200, hans, hlen⟩ := answers_is hask
    rw [hans] at k hlen
    refine ⟨by show 0 ≤ sizeLine; exact Nat.zero_le _, fun S hS0 => ?_⟩
    refine ⟨by show 0 ≤ sizeLine; exact Nat.zero_le _, fun p hp0 => ?_⟩
    have nSp : S ≠ p := ne_of_none upd_same hp0
    have s1 : Same H (upd (upd H S (.lst [])) p (.lst [])) := (same_new hS0).trans (same_new hp0)
    generalize hH0 : upd (upd H S (.lst [])) p (.lst []) = H0 at s1
    have e0S : H0 S = some (.lst []) := by rw [← hH0, upd_ne nSp, upd_same]
    have e0p : H0 p = some (.lst []) := by rw [← hH0, upd_same]
    refine ⟨_, rfl, a, l, cs, rfl, s1.seq hS, hcs, fun c hc => asked_of (hall c hc), h200, fun H1 Fd rs s2 hF eF ca => ?_⟩
    have nFp : p ≠ Fd := ne_of_none e0p hF
    have nFS : S ≠ Fd := ne_of_none e0S hF
    refine ⟨Fd, rfl, ⟨_, seq_lst eF⟩, for_list (K := K) (a := Fd) (xs := RI rs) (AnInv H0 a S p Fd rs cs) ⟨none, none, none, rfl, s2 _ _ e0p, s2 _ _ e0S, eF, ca⟩ (fun i σ H' _ ⟨_, _, _, _, _, _, e, _⟩ => seq_lst e) ?_ ?_⟩
    · rintro i x σ H2 hi ⟨s3, s4, s5, rfl, e1, e2, e3, e4⟩
      obtain ⟨T, hT, rfl⟩ := ri_get hi
      obtain ⟨c, hc⟩ : ∃ c, cs[i]? = some c := by
        have : i < cs.length := by
          rw [← ca.1]
          exact (List.getElem?_eq_some_iff.mp hT).1
        exact ⟨cs[i], List.getElem?_eq_getElem this⟩
      obtain ⟨n, b, hn, hT0, eT, hb⟩ := e4.2 i T c hT hc
      have tk := take_one hc
      have ht : PyFlat.told (PyFlat.played kst none (cs.take (i + 1))) = PyFlat.told (PyFlat.played kst none (cs.take i)) ++ (((kst (stAt none (cs.take i)) c).2.length : Int) :: (kst (stAt none (cs.take i)) c).2) := by
        rw [tk, told_snoc]
      have hst : stAt none (cs.take (i + 1)) = (kst (stAt none (cs.take i)) c).1 := by rw [tk, stAt_snoc]
      have hl1 : (PyFlat.told (PyFlat.played kst none (cs.take (i + 1)))).length ≤ 10000000 := by
        have := told_le none (cs.take (i + 1)) (cs.drop (i + 1))
        rw [List.take_append_drop] at this
        exact Nat.le_trans this hlen
      -- the reply is none of the slots' lists
      have far : ∀ (H3 : Hp), (stAt none (cs.take i) = none → ∀ rs, H3 S = some (.lst (RI rs)) → ∀ r ∈ rs, H2 r = none) → Slots H3 S (kst (stAt none (cs.take i)) c).1 → H3 p = some (.lst (LI (PyFlat.told (PyFlat.played kst none (cs.take i))))) → ∀ rs, H3 S = some (.lst (RI rs)) → p ∉ rs := by
        intro H3 g1 g2 g3 rs' g4 hp
        cases i with
        | zero =>
          have := g1 rfl rs' g4 p hp
          rw [e1] at this
          cases this
        | succ j =>
          have hj : ∃ d, cs[j]? = some d := by
            have : j < cs.length := by
              have := (List.getElem?_eq_some_iff.mp hc).1
              omega
            exact ⟨cs[j], List.getElem?_eq_getElem this⟩
          obtain ⟨d, hd⟩ := hj
          rw [take_one hd] at g3
          cases hst' : (kst (stAt none (cs.take (j + 1))) c).1 with
          | none =>
            rw [hst'] at g2
            have e : H3 S = some (.lst []) := g2
            rw [e] at g4
            have : rs' = [] := by simpa using g4
            rw [this] at hp
            simp at hp
          | some ll =>
            rw [hst'] at g2
            obtain ⟨rs2, q1, q2, q3, q4⟩ := g2
            rw [q1] at g4
            have e : RI rs2 = RI rs' := by simpa using g4
            obtain rfl := ri_inj e
            obtain ⟨m, hm⟩ := List.mem_iff_getElem?.mp hp
            obtain ⟨_, q, _, ⟨rr, g5, _⟩, _⟩ := q4 m p hm
            exact lst_far g3 (told_ne _ _ _) g5 rfl
      generalize hold : PyFlat.told (PyFlat.played kst none (cs.take i)) = old at e1 ht far
      generalize hst0 : stAt none (cs.take i) = st at e2 hst ht far
      refine ⟨T, _, rfl, .inl (.inl eT), rfl, _, _, rfl, _, _, rfl, rfl, ?_⟩
      refine ⟨_, rfl, _, rfl, _, rfl, S, n, b, c, st, rfl, e2, hb.args, hn, fun H3 A a1 a2 a3 a4 a5 => ?_⟩
      have nAp : A ≠ p := fun z => by
        rw [z, e1] at a4
        cases a4
      have e1' : H3 p = some (.lst (LI old)) := a1 _ _ nSp.symm e1
      have hsz := hl1
      rw [ht, List.length_append, List.length_cons] at hsz
      change old.length + ((kst st c).2.length + 1) ≤ 10000000 at hsz
      refine ⟨_, rfl, .inl ⟨rfl, _, seq_lst e1'⟩, _, rfl, A, _, rfl, .inl (seq_lst a5), p, _, _, rfl, rfl, e1', ?_, ?_⟩
      · rw [li_len]
        show old.length < sizeLine
        exact Nat.lt_of_lt_of_le (show old.length < 10000001 by omega) (by decide)
      · refine ⟨_, rfl, .inl ⟨rfl, _, seq_lst upd_same⟩, _, rfl, p, A, _, _, rfl, rfl, upd_same, by rw [upd_ne nAp]; exact a5, ?_, ?_⟩
        · rw [List.length_append, li_len, li_len]
          show old.length + 1 + (kst st c).2.length ≤ sizeLine
          exact Nat.le_trans (show old.length + 1 + (kst st c).2.length ≤ 10000000 by omega) (by decide)
        · have fr := far H3 a3 a2 e1'
          have hu : upd (upd H3 p (.lst (LI old ++ [.int ((LI (kst st c).2).length : Nat)]))) p (.lst (LI old ++ [.int ((LI (kst st c).2).length : Nat)] ++ LI (kst st c).2)) = upd H3 p (.lst (LI old ++ [.int ((LI (kst st c).2).length : Nat)] ++ LI (kst st c).2)) := by
            funext y
            by_cases hy : y = p
            · rw [hy, upd_same, upd_same]
            · rw [upd_ne hy, upd_ne hy, upd_ne hy]
          refine ⟨some (.int n), some (.ref b), some (.ref A), rfl, ?_, ?_, ?_, ?_⟩
          · rw [upd_same, ht, li_len]
            simp
          · rw [hst]
            have := slots_upd (zs := LI old ++ [.int ((LI (kst st c).2).length : Nat)] ++ LI (kst st c).2) a2 e1' nSp.symm fr
            rw [← hu] at this
            exact this
          · rw [upd_ne nFp.symm, upd_ne nFp.symm]
            exact a1 _ _ nFS.symm e3
          · refine e4.stay fun y o y0 ey => ?_
            have yp : y ≠ p := fun z => by rw [z, e0p] at y0; cases y0
            have yS : y ≠ S := fun z => by rw [z, e0S] at y0; cases y0
            rw [upd_ne yp, upd_ne yp]
            exact a1 _ _ yS ey
    · rintro σ H2 ⟨s3, s4, s5, rfl, e1, _⟩
      rw [ri_len, ca.1, List.take_length] at e1
      exact ⟨_, rfl, k H2 p e1⟩
end
end Rc

/-! ## Mc -/
set_option maxHeartbeats 4000000
/-! The end: the walk with what the long divisions lean on. -/
namespace Rc
open PySem PySem.Spec PyProof.Rows L2
open PySem.W (Codec OpenSpec)
/-- objects that are no lists, as they stand -/
def Stands (L : PySem.W.Frag) (h : Heap) : Prop := ∀ p ∈ L, h.get? p.1 = some p.2
def NoSeqs (L : PySem.W.Frag) : Prop := ∀ p ∈ L, p.2.cls ≠ .type "list" ∨ ∀ its n, p.2.data ≠ .seq its n
theorem ns_held {h : Heap} {a : Addr} {m : Str → Option Value} (x : h.Ns a m) : ∃ o : Obj, h.get? a = some o ∧ (∀ its n, o.data ≠ .seq its n) ∧ ∀ b : Heap, b.get? a = some o → b.Ns a m := by
  obtain ⟨o, es, ep, e, d, r⟩ := x
  exact ⟨o, e, fun its n z => (by rw [d] at z; cases z), fun b hb => ⟨o, es, ep, hb, d, r⟩⟩
theorem seer_held {h : Heap} (x : h.NoSeer) : ∃ L : PySem.W.Frag, Stands L h ∧ NoSeqs L ∧ ∀ b : Heap, Stands L b → b.NoSeer := by
  obtain ⟨m1, s1, s2, s3⟩ := x.statics
  obtain ⟨m2, t1, t2⟩ := x.mods
  obtain ⟨m3, u1, u2⟩ := x.imp
  obtain ⟨m4, bm, ob, v1, v2, v3, v4, v5⟩ := x.main
  obtain ⟨o1, a1, b1, c1⟩ := ns_held s1
  obtain ⟨o2, a2, b2, c2⟩ := ns_held t1
  obtain ⟨o3, a3, b3, c3⟩ := ns_held u1
  obtain ⟨o4, a4, b4, c4⟩ := ns_held v1
  refine ⟨[(cStatics, o1), (sysModules, o2), (builtinsNs, o3), (mainGlobals, o4), (bm, ob)], fun p hp => ?_, fun p hp => ?_, fun b hb => ?_⟩
  · simp only [List.mem_cons, List.not_mem_nil, or_false] at hp
    rcases hp with rfl | rfl | rfl | rfl | rfl
    · exact a1
    · exact a2
    · exact a3
    · exact a4
    · exact v3
  · simp only [List.mem_cons, List.not_mem_nil, or_false] at hp
    rcases hp with rfl | rfl | rfl | rfl | rfl
    · exact .inr b1
    · exact .inr b2
    · exact .inr b3
    · exact .inr b4
    · refine .inl ?_
      show ob.cls ≠ _
      rw [v4]
      intro z
      exact absurd (Value.type.inj z) (by decide)
  · exact ⟨⟨m1, c1 b (hb (cStatics, o1) (by simp)), s2, s3⟩, ⟨m2, c2 b (hb (sysModules, o2) (by simp)), t2⟩, ⟨m3, c3 b (hb (builtinsNs, o3) (by simp)), u2⟩, ⟨m4, bm, ob, c4 b (hb (mainGlobals, o4) (by simp)), v2, hb (bm, ob) (by simp), v4, v5⟩⟩
theorem look_app {L K : PySem.W.Frag} {a : Addr} {o : Obj} (h : (L ++ K).lookup a = some o) : (a, o) ∈ L ∨ K.lookup a = some o := by
  induction L with
  | nil => exact .inr h
  | cons p L ih =>
    obtain ⟨b, u⟩ := p
    rw [List.cons_append, List.lookup_cons] at h
    cases e : a == b with
    | true =>
      rw [e] at h
      have e1 : a = b := by simpa using e
      have e2 : u = o := Option.some.inj h
      rw [e1, e2]
      exact .inl List.mem_cons_self
    | false =>
      rw [e] at h
      rcases ih h with q | q
      · exact .inl (List.mem_cons_of_mem _ q)
      · exact .inr q
theorem look_in {L K : PySem.W.Frag} {p : Addr × Obj} (h : p ∈ L) : ∃ o, (L ++ K).lookup p.1 = some o ∧ (p.1, o) ∈ L := by
  induction L with
  | nil => simp at h
  | cons q L ih =>
    obtain ⟨b, u⟩ := q
    rw [List.cons_append, List.lookup_cons]
    cases e : p.1 == b with
    | true =>
      have e1 : p.1 = b := by simpa using e
      exact ⟨u, rfl, by rw [e1]; exact List.mem_cons_self⟩
    | false =>
      have hp : p ∈ L := by
        rcases List.mem_cons.mp h with q | q
        · rw [q] at e
          simp at e
        · exact q
      obtain ⟨o, e1, e2⟩ := ih hp
      exact ⟨o, e1, List.mem_cons_of_mem _ e2⟩
theorem look_or {L K : PySem.W.Frag} {a : Addr} {o : Obj} (h : K.lookup a = some o) : (L ++ K).lookup a = some o ∨ ∃ u, (L ++ K).lookup a = some u ∧ (a, u) ∈ L := by
  induction L with
  | nil => exact .inl h
  | cons p L ih =>
    obtain ⟨b, u⟩ := p
    rw [List.cons_append, List.lookup_cons]
    cases e : a == b with
    | true =>
      have e1 : a = b := by simpa using e
      exact .inr ⟨u, rfl, by rw [e1]; exact List.mem_cons_self⟩
    | false =>
      rcases ih with q | ⟨v, q, m⟩
      · exact .inl q
      · exact .inr ⟨v, q, List.mem_cons_of_mem _ m⟩
theorem app_in {L K : PySem.W.Frag} {h : Heap} (hL : Stands L h) (hK : K.In h) : PySem.W.Frag.In (L ++ K) h := fun a o e => by
  rcases look_app e with q | q
  · exact hL _ q
  · exact hK _ _ q
theorem app_stands {L K : PySem.W.Frag} {h b : Heap} (hL : Stands L h) (hb : PySem.W.Frag.In (L ++ K) b) : Stands L b := fun p hp => by
  obtain ⟨o, e, m⟩ := look_in (K := K) hp
  rw [hb _ _ e, ← hL _ m, hL _ hp]
theorem app_keeps {L K : PySem.W.Frag} {h b : Heap} (hL : Stands L h) (hK : K.In h) (hb : PySem.W.Frag.In (L ++ K) b) : K.In b := fun a o e => by
  rcases look_or (L := L) e with q | ⟨u, q, m⟩
  · exact hb _ _ q
  · rw [hb _ _ q, ← hL _ m, hK _ _ e]
theorem app_seq {L K : PySem.W.Frag} {H : Hp} (hL : NoSeqs L) {a : Addr} {xs : List V} (h : SqL (L ++ K) H a xs) : SqL K H a xs := by
  rcases h with q | ⟨o, its, n, e, c, d, f, r⟩
  · exact .inl q
  · rcases look_app e with m | m
    · rcases hL _ m with z | z
      · exact absurd c z
      · exact absurd f (z _ _)
    · exact .inr ⟨o, its, n, m, c, d, f, r⟩
theorem fn_app {P : Program} {w : World} {K K' : PySem.W.Frag} {mg : Str → Option Value} {base : Heap} {k : Nat} {f : Addr} {fd : FuncData} {ps : List Str} {sp : Sp} (kb : K.In base) (F : FnOk P w K mg base CX0 k f fd ps sp) : FnOk P w K' mg base CX0 k f fd ps sp :=
  ⟨F.len, fun A outer s H args us vs Q E hr e hb hv hs => F.run A outer s H args us vs Q E hr ⟨e.frames, ⟨kb, e.mod.glob, e.mod.blt, e.mod.nolimit⟩, e.bs, e.bsz, e.funs, e.frf, e.hok, e.bare⟩ hb hv hs⟩
/-- what k_headS leaves, for a def whose body divides long -/
theorem walk_long {r : OpenSpec} {k : Nat} {q : Program} {loose : List Str} {XP : (Str → Option Value) → Heap → Prop} {YP : World → Heap → Prop} {d : DefRec} {K : Params → PySem.W.Frag} {ps : List Str} {sp : PySem.W.Frag → Sp}
    (hq : importsNone q = true) (hwell : r.wellSaid = true) (hlen : r.args.length = ps.length) (hr : Room k callerA) (hY : ∀ (w : World) (h : Heap), YP w h → (K w.params).In h)
    (F : ∀ (w : World) (mg : Str → Option Value) (fa : Addr) (h : Heap), (K w.params).In h → h.Ns mainGlobals mg → mg d.name = some (.ref fa) →
      ∃ fd : FuncData, (∀ (s : Shared) (us : List Value), us.length = ps.length → BindsTo s fd ⟨us, []⟩ (ps.zip us)) ∧
        ∀ base : Heap, (K w.params).In base → base.NoSeer → base.Ns mainGlobals mg → FnOk r.prog w (K w.params) mg base CX0 k fa fd ps (sp (K w.params)))
    (hsp : ∀ (K K' : PySem.W.Frag) (H : Hp) (xs : List V) (a : Codec.denoteAll r.args), (∀ b ys, SqL K' H b ys → SqL K H b ys) → Codec.app r.args r.asked a = true → DwAll K' H xs (Codec.encAll r.args a) →
      sp K xs H (fun v H' => Dw K' H' v (r.ret.enc (Codec.app r.args r.f a))) fun _ _ _ => False) :
    PySem.W.WalkOS q loose XP YP r d [] (fun f vs => PySem.call f vs) := by
  intro w s₀ s₁ mg mb Gr hYP fa ob pm cv dc dv kv g1 g2 g3 g4 g5 g6 args vals as p1 p2 p3 p4 p5
  obtain ⟨a, e1, e2⟩ := PySem.W.os_pre_some p1
  obtain ⟨rfl, e3⟩ := Codec.encAll_of_decAll r.args args a e1
  have kin := hY w _ hYP
  obtain ⟨fd, hbd, hF⟩ := F w mg fa _ kin Gr.T.g g5
  obtain ⟨L, l1, l2, l3⟩ := seer_held (Gr.T.seer hq)
  refine PySem.W.enter_call (codeAny_mono (spec_call (K := L ++ K w.params) (CX := CX0) (fd := fd) (sp := sp (K w.params)) (R := []) (cl := classAt s₀.heap) (d0 := r.ret.enc (Codec.app r.args r.f a))
    (app_in l1 kin) Gr.T.g Gr.T.b Gr.T.builtins Gr.T.nolimit g6 p4 (pl_encAll _ _) (layable_weight p2) hr
    (fun b hb hn => fn_app (app_keeps l1 kin hb) (hF b (app_keeps l1 kin hb) (l3 b (app_stands l1 hb)) hn)) hbd (by rw [encAll_len]; exact hlen)
    (fun H xs _ hS => hsp (K w.params) (L ++ K w.params) H xs a (fun _ _ z => app_seq l2 z) e2 hS) fun _ _ _ z => z) fun r' s' y => ?_)
  obtain ⟨u, as', rfl, y1, y2, y3, y4⟩ := y
  exact ⟨.inl ⟨u, _, as', rfl, fun _ => rfl, y1, (OpenSpec.post_iff hwell e3 _ _).mpr rfl, fun z => by cases z⟩, y2, y3, y4⟩
end Rc

/-! ## Na -/
set_option maxHeartbeats 4000000
/-! What is read off the heap behind the top: the defs, the classes, the constants, each a Bool of the part of the heap that is kept. -/
namespace Rc
open PySem PySem.Spec PyProof.Rows L2
open He (ga ma fAd eqO eqO_ok ba)
/-- a def of the top, or a method of a class of the top -/
structure Df where
  at_ : Str × Option Str
  name : Str
  qual : Str
  st : Stmt
def Df.toD (d : Df) : He.FnD := ⟨d.at_, d.name, d.qual, defArgs d.st, defBody d.st, defScope d.st⟩
def Df.ok (K : PySem.W.Frag) (d : Df) : Bool := (He.Fa.code d.at_ d.qual).ok K && (PySem.W.keepIn K (.ref (fAd K d.at_)) && (match d.at_.2 with
  | none => eqO (PySem.W.nsIn K mainGlobals d.at_.1) (some (some (.ref (fAd K d.at_))))
  | some m => eqO (PySem.W.findIn K (.ref (ga K d.at_.1)) m) (some (some (.ref (fAd K d.at_)))) && decide (PySem.W.typeIn K (.ref (fAd K d.at_)) = some (.type "function"))))
abbrev Fx : Type := PySem.W.Frag → Bool
def obsX (fx : List Fx) (fn : List Df) (K : PySem.W.Frag) : He.Al := ((fx.all fun f => f K) && fn.all fun d => d.ok K, fn.map fun d => He.fnObs K d.at_)
def valX (fn : List Df) : He.Al := (true, fn.map fun d => d.toD.val)
def SaysX (fx : List Fx) (fn : List Df) (K : PySem.W.Frag) : Prop := obsX fx fn K = valX fn
/-- the list, each of its cells looked at first -/
def frL {α : Type} : List (Addr × Obj) → (List (Addr × Obj) → α) → α
  | [], k => k []
  | p :: r, k => match p with
    | (a, o) => frL r fun r => k ((a, o) :: r)
theorem frL_eq {α : Type} : ∀ (l : List (Addr × Obj)) (k : List (Addr × Obj) → α), frL l k = k l
  | [], _ => rfl
  | (a, o) :: r, k => frL_eq r fun r => k ((a, o) :: r)
def obsXG (as : List Addr) (fx : List Fx) (fn : List Df) (g : Addr → Option Obj) : He.Al := frL (He.frG g as) fun K => obsX fx fn K
def hookX (as : List Addr) (fx : List Fx) (fn : List Df) : PySem.W.Hook where
  α := He.Al
  obs := fun s => obsXG as fx fn s.heap.get?
  val := fun _ => valX fn
  says := fun _ h => ∃ K : PySem.W.Frag, K.In h ∧ SaysX fx fn K
  of := fun _ _ e => ⟨_, He.frG_in, (frL_eq _ _).symm.trans e⟩
  keeps := fun _ _ _ ⟨K, hK, c⟩ k => ⟨K, PySem.W.Frag.In.keeps hK k, c⟩
theorem obsXG_eq {as : List Addr} {fx : List Fx} {fn : List Df} {g : Addr → Option Obj} {s : Shared} (h : ∀ a, g a = s.heap.get? a) : obsXG as fx fn g = (hookX as fx fn).obs s := by
  have e : g = s.heap.get? := funext h
  rw [e] <;> rfl
section
variable {fx : List Fx} {fn : List Df} {K : PySem.W.Frag}
theorem SaysX.fact (c : SaysX fx fn K) (i : Nat) {f : Fx} (h : fx[i]? = some f) : f K = true := by
  have c1 := (ba (show ((fx.all fun f => f K) && fn.all fun d => d.ok K) = true from congrArg (fun z : He.Al => z.1) c)).1
  exact List.all_eq_true.mp c1 f (List.mem_of_getElem? h)
theorem SaysX.def_ (c : SaysX fx fn K) (i : Nat) {d : Df} (h : fn[i]? = some d) : d.ok K = true ∧ ∃ fd, Fun K d.name d.qual d.st (fAd K d.at_) fd := by
  have c2 := (ba (show ((fx.all fun f => f K) && fn.all fun d => d.ok K) = true from congrArg (fun z : He.Al => z.1) c)).2
  have e : (fn.map fun d => He.fnObs K d.at_) = fn.map fun d => d.toD.val := congrArg (fun z : He.Al => z.2) c
  have e2 : (fn.map fun d => He.fnObs K d.at_)[i]? = (fn.map fun d => d.toD.val)[i]? := by rw [e]
  rw [List.getElem?_map, List.getElem?_map, h] at e2
  have k := List.all_eq_true.mp c2 d (List.mem_of_getElem? h)
  refine ⟨k, ?_⟩
  obtain ⟨k1, k2⟩ := ba k
  obtain ⟨k3, _⟩ := ba k2
  obtain ⟨oc, od, osl, kV, doc, pm, an, cdv, ct, l, cc⟩ := He.fn_ok (d := d.toD) (Option.some.inj e2) k1
  exact ⟨_, fun_mk (st := d.st) l cc k3⟩
end
def gl (x : Str) (st : Stmt) : Df := ⟨(x, none), x, x, st⟩
def me (C q : Str) (st : Stmt) : Df := ⟨(C, some "__init__"), "__init__", q, st⟩
theorem SaysX.gl_ {fx : List Fx} {fn : List Df} {K : PySem.W.Frag} {h : Heap} {mg : Str → Option Value} (X : K.In h) (G : h.Ns mainGlobals mg) (c : SaysX fx fn K) (i : Nat) {x : Str} {st : Stmt} (e : fn[i]? = some (gl x st)) :
    mg x = some (.ref (ga K x)) ∧ PySem.W.keepIn K (.ref (ga K x)) = true ∧ ∃ fd, Fun K x x st (ga K x) fd := by
  obtain ⟨k, F⟩ := c.def_ i e
  obtain ⟨_, k2⟩ := ba k
  obtain ⟨k3, k4⟩ := ba k2
  exact ⟨PySem.W.mg_of X G (eqO_ok k4), k3, F⟩
theorem SaysX.me_ {fx : List Fx} {fn : List Df} {K : PySem.W.Frag} (c : SaysX fx fn K) (i : Nat) {C q : Str} {st : Stmt} (e : fn[i]? = some (me C q st)) :
    PySem.W.findIn K (.ref (ga K C)) "__init__" = some (some (.ref (ma K (ga K C) "__init__"))) ∧ PySem.W.typeIn K (.ref (ma K (ga K C) "__init__")) = some (.type "function") ∧ PySem.W.keepIn K (.ref (ma K (ga K C) "__init__")) = true ∧
      ∃ fd, Fun K "__init__" q st (ma K (ga K C) "__init__") fd := by
  obtain ⟨k, F⟩ := c.def_ i e
  obtain ⟨_, k2⟩ := ba k
  obtain ⟨k3, k4⟩ := ba k2
  obtain ⟨k5, k6⟩ := ba k4
  exact ⟨eqO_ok k5, of_decide_eq_true k6, k3, F⟩
/-! ### the classes of errors -/
def ownO (C R : Addr) (o : Obj) : Bool := match o with
  | ⟨c, _, .cls cd, sl⟩ => decide (c = .type "type") && (decide (cd.mro = .ref C :: .ref R :: tailE) && (cd.hasDict && (!cd.hasDel && (match sl.toList with
    | [_, _, _, _, some b, _] => decide (b = .builtin "Exception.__new__")
    | _ => false))))
  | _ => false
theorem ownO_ok {C R : Addr} {o : Obj} (h : ownO C R o = true) : ∃ nm q N bs sn sub ab col dd k0 k1 k2 k3 k5, o = excClassObj nm q C N bs (.ref R :: tailE) true sn sub ab col dd k0 k1 k2 k3 k5 "Exception.__new__" := by
  obtain ⟨c, dd, dt, sl⟩ := o
  cases dt with
  | cls cd =>
    obtain ⟨h1, h2⟩ := ba (show (decide (c = .type "type") && (decide (cd.mro = .ref C :: .ref R :: tailE) && (cd.hasDict && (!cd.hasDel && (match sl.toList with
      | [_, _, _, _, some b, _] => decide (b = .builtin "Exception.__new__")
      | _ => false))))) = true from h)
    obtain ⟨h3, h4⟩ := ba h2
    obtain ⟨h5, h6⟩ := ba h4
    obtain ⟨h7, h8⟩ := ba h6
    obtain ⟨nm, bs, mro, N, q, hd, sn, sub, ab, col, dl⟩ := cd
    obtain ⟨l⟩ := sl
    have e1 := of_decide_eq_true h1
    have e2 : mro = _ := of_decide_eq_true h3
    have e3 : hd = true := h5
    have e4 : dl = false := by
      have z : (!dl) = true := h7
      cases dl with
      | false => rfl
      | true => cases z
    subst e1 e2 e3 e4
    match l, h8 with
    | [k0, k1, k2, k3, some b, k5], h8 =>
      have e5 : b = .builtin "Exception.__new__" := of_decide_eq_true h8
      subst e5
      exact ⟨nm, q, N, bs, sn, sub, ab, col, dd, k0, k1, k2, k3, k5, rfl⟩
  | _ => cases h
def ownB (K : PySem.W.Frag) (C R : Addr) : Bool := (match K.lookup C with
    | some o => ownO C R o
    | none => false) && (eqO (PySem.W.findIn K (.ref C) "__setattr__") (some (some (.builtin "object.__setattr__"))) && (decide (PySem.W.subIn K (.ref C) (.type "BaseException") = some true) && (decide (PySem.W.typeIn K (.ref C) = some (.type "type")) &&
    (PySem.W.keepIn K (.ref C) && (eqO (PySem.W.findIn K (.ref C) "code") (some none) && (eqO (PySem.W.findIn K (.ref C) "__getattribute__") (some (some (.builtin "BaseException.__getattribute__"))) && (eqO (PySem.W.findIn K (.ref C) "__getattr__") (some none) &&
    (PySem.W.hasDictIn K C && decide (PySem.W.exmOne K (.ref C) (.ref R) = some true)))))))))
theorem ownB_ok {K : PySem.W.Frag} {C R : Addr} (h : ownB K C R = true) : Own K C R := by
  obtain ⟨h1, h⟩ := ba h
  obtain ⟨h2, h⟩ := ba h
  obtain ⟨h3, h⟩ := ba h
  obtain ⟨h4, h⟩ := ba h
  obtain ⟨h5, h⟩ := ba h
  obtain ⟨h6, h⟩ := ba h
  obtain ⟨h7, h⟩ := ba h
  obtain ⟨h8, h⟩ := ba h
  obtain ⟨h9, h10⟩ := ba h
  refine ⟨?_, eqO_ok h2, of_decide_eq_true h3, of_decide_eq_true h4, h5, eqO_ok h6, eqO_ok h7, eqO_ok h8, h9, of_decide_eq_true h10⟩
  cases q : K.lookup C with
  | none =>
    rw [q] at h1
    cases h1
  | some o =>
    rw [q] at h1
    obtain ⟨nm, q', N, bs, sn, sub, ab, col, dd, k0, k1, k2, k3, k5, e⟩ := ownO_ok h1
    exact ⟨nm, q', N, bs, sn, sub, ab, col, dd, k0, k1, k2, k3, k5, by rw [e]⟩
def fOwn (x : Str) : Fx := fun K => eqO (PySem.W.nsIn K mainGlobals x) (some (some (.ref (ga K x)))) && ownB K (ga K x) (ga K "Refusal")
def valB (c : Option PySem.W.CFound) (v : Value) : Bool := match c with
  | some (.val u) => decide (u = v)
  | _ => false
theorem valB_ok {c : Option PySem.W.CFound} {v : Value} (h : valB c v = true) : c = some (.val v) := by
  cases c with
  | none => cases h
  | some u =>
    cases u with
    | val u =>
      have e : u = v := of_decide_eq_true h
      rw [e]
    | get _ _ _ _ => cases h
def fUp : Fx := fun K => eqO (PySem.W.nsIn K mainGlobals "Refusal") (some (some (.ref (ga K "Refusal")))) && (PySem.W.readsIn K (ga K "Refusal") (.type "type") && (eqO (PySem.W.specialIn K (.ref (ga K "Refusal")) "__getattribute__") (some (some (.builtin "type.__getattribute__"))) &&
  valB (PySem.W.findCls K (.ref (ga K "Refusal")) (.type "type") "__init__") (.ref (ma K (ga K "Refusal") "__init__"))))
theorem fUp_ok {K : PySem.W.Frag} {h : Heap} {mg : Str → Option Value} (X : K.In h) (G : h.Ns mainGlobals mg) (c : fUp K = true) : mg "Refusal" = some (.ref (ga K "Refusal")) ∧ Up K (ga K "Refusal") (ma K (ga K "Refusal") "__init__") (.type "type") := by
  obtain ⟨h1, c⟩ := ba c
  obtain ⟨h2, c⟩ := ba c
  obtain ⟨h3, h4⟩ := ba c
  exact ⟨PySem.W.mg_of X G (eqO_ok h1), h2, eqO_ok h3, valB_ok h4⟩
def fExB : Fx := fun K => valB (PySem.W.findCls K (.type "Exception") (.type "type") "__init__") (.builtin "Exception.__init__")
theorem fExB_ok {K : PySem.W.Frag} (c : fExB K = true) : ExB K := valB_ok c
/-! ### constants -/
theorem cst_ok {K : PySem.W.Frag} {h : Heap} {mg : Str → Option Value} (X : K.In h) (G : h.Ns mainGlobals mg) {x : Str} {i : Int} (c : (He.Fa.int x i).ok K = true) : ∃ u, mg x = some u ∧ RelV (.int i) u := by
  obtain ⟨t, e⟩ := He.int_ok X G c
  exact ⟨_, e, t, rfl⟩
def fPlain : Fx := fun K => eqO (PySem.W.nsIn K mainGlobals "PLAIN_NUMBERS") (some (some (.ref (ga K "PLAIN_NUMBERS")))) && He.tupB K "PLAIN_NUMBERS" (plains.map He.Dv.int)
theorem fPlain_ok {K : PySem.W.Frag} {h : Heap} {mg : Str → Option Value} (X : K.In h) (G : h.Ns mainGlobals mg) (c : fPlain K = true) : ∃ p : Addr, mg "PLAIN_NUMBERS" = some (.ref p) ∧ ∀ H : Hp, SqT K H p (LI plains) := by
  obtain ⟨h1, h2⟩ := ba c
  exact ⟨_, PySem.W.mg_of X G (eqO_ok h1), fun H => He.tupB_ok h2 H⟩
/-- the table of operations: at each place the def of that name -/
def opNames : List Str := ["create", "set_polynomial", "get_polynomial", "degree", "evaluate", "count_distinct_roots", "count_roots", "is_real_rooted", "count_roots_between", "count_roots_up_to", "multiplicity", "root_floor", "root_bound", "squarefree", "gcd", "derivative", "multiply", "power_sums", "hermite_inertia", "first_newton_violation", "largest_roots", "summary"]
def kdiO (K : PySem.W.Frag) (o : Obj) : Bool := match o with
  | ⟨c, none, .dict es _, sl⟩ => decide (c = .type "dict") && (sl.toList.isEmpty && ((es.toList.all fun e => match e.key with
      | .int k _ => decide (e.hash = hashInt k)
      | _ => false) && (List.range 22).all fun i => decide (findBy Value.isInt es (i : Int) = some (.ref (ga K (opNames.getD i ""))))))
  | _ => false
theorem kdiO_ok {K : PySem.W.Frag} {p : Addr} {o : Obj} (hp : K.lookup p = some o) (h : kdiO K o = true) (i : Nat) (hi : i < 22) : KDI K p i (ga K (opNames.getD i "")) := by
  obtain ⟨c, od, dt, sl⟩ := o
  cases od with
  | some a => cases dt <;> cases h
  | none =>
    cases dt with
    | dict es n =>
      obtain ⟨h1, h2⟩ := ba (show (decide (c = .type "dict") && (sl.toList.isEmpty && ((es.toList.all fun e => match e.key with
        | .int k _ => decide (e.hash = hashInt k)
        | _ => false) && (List.range 22).all fun i => decide (findBy Value.isInt es (i : Int) = some (.ref (ga K (opNames.getD i ""))))))) = true from h)
      obtain ⟨h3, h4⟩ := ba h2
      obtain ⟨h5, h6⟩ := ba h4
      have e1 : c = .type "dict" := of_decide_eq_true h1
      have e2 : sl = #[] := by
        obtain ⟨l⟩ := sl
        cases l with
        | nil => rfl
        | cons _ _ => cases h3
      subst e1 e2
      refine ⟨es, n, hp, fun e he => ?_, of_decide_eq_true (List.all_eq_true.mp h6 i (List.mem_range.mpr hi))⟩
      have z := List.all_eq_true.mp h5 e (Array.mem_def.mp he)
      cases ek : e.key with
      | int k t =>
        rw [ek] at z
        exact ⟨k, t, rfl, of_decide_eq_true z⟩
      | _ =>
        rw [ek] at z
        cases z
    | _ => cases h
def fOps : Fx := fun K => eqO (PySem.W.nsIn K mainGlobals "OPERATIONS") (some (some (.ref (ga K "OPERATIONS")))) && (match K.lookup (ga K "OPERATIONS") with
  | some o => kdiO K o
  | none => false)
theorem fOps_ok {K : PySem.W.Frag} {h : Heap} {mg : Str → Option Value} (X : K.In h) (G : h.Ns mainGlobals mg) (c : fOps K = true) : mg "OPERATIONS" = some (.ref (ga K "OPERATIONS")) ∧ ∀ i : Nat, i < 22 → KDI K (ga K "OPERATIONS") i (ga K (opNames.getD i "")) := by
  obtain ⟨h1, h2⟩ := ba c
  refine ⟨PySem.W.mg_of X G (eqO_ok h1), fun i hi => ?_⟩
  cases q : K.lookup (ga K "OPERATIONS") with
  | none =>
    rw [q] at h2
    cases h2
  | some o =>
    rw [q] at h2
    exact kdiO_ok q h2 i hi
end Rc

/-! ## Nb -/
set_option maxHeartbeats 4000000
/-! Each def of the program, by its name. -/
namespace Rc
open PySem PySem.Spec PyProof.Rows L2 RcF RcG RcH RcI RcJ RcK
open He (ga ma fAd)
def tab0 : List Df := [gl "check_slot" (top 15), gl "check_numerator" (top 16), gl "check_denominator" (top 17), gl "check_argument" (top 18), gl "check_coefficients" (top 19), gl "check_interval" (top 20), gl "check_bits" (top 21), gl "check_max_power" (top 22), gl "check_result" (top 23), gl "common_divisor" (top 25), gl "lowest_terms" (top 26), gl "trimmed" (top 28)]
def tab1 : List Df := [gl "primitive_part" (top 29), gl "with_positive_lead" (top 30), gl "whole_derivative" (top 31), gl "whole_product" (top 32), gl "scaled_value" (top 33), gl "scaled_remainder" (top 34), gl "common_factor" (top 35), gl "exact_quotient" (top 36), gl "squarefree_part" (top 37), gl "scaled_to_monic" (top 39), gl "scaled_power_sums" (top 40), gl "power_sum_fractions" (top 41)]
def tab2 : List Df := [gl "hermite_matrix" (top 43), gl "has_entry" (top 44), gl "place_of_diagonal_entry" (top 45), gl "added" (top 46), gl "moved" (top 47), gl "reduced" (top 48), gl "inertia" (top 49), gl "newton_holds" (top 51), gl "violated_index" (top 52), gl "over_denominator" (top 54), gl "common_denominator" (top 55), gl "whole_multiple" (top 56)]
def tab3 : List Df := [gl "monic" (top 57), gl "derivative_of" (top 58), gl "product_of" (top 59), gl "value_at" (top 60), gl "counted_pairs" (top 61), gl "point_below_all" (top 63), gl "point_above_all" (top 64), gl "multiplicity_layers" (top 65), gl "sturm_chain" (top 66), gl "sign_changes" (top 67), gl "layer_chains" (top 68), gl "count_on_chain" (top 69)]
def tab4 : List Df := [gl "count_in_interval" (top 70), gl "multiplicity_at" (top 71), gl "cauchy_bound" (top 73), gl "count_below" (top 74), gl "power_of_two" (top 75), gl "floor_of_root" (top 76), gl "stored_polynomial" (top 78), gl "nonzero_polynomial" (top 79), gl "count_all" (top 80), gl "store_result" (top 81), gl "create" (top 82), gl "set_polynomial" (top 83)]
def tab5 : List Df := [gl "get_polynomial" (top 84), gl "degree" (top 85), gl "evaluate" (top 86), gl "count_distinct_roots" (top 87), gl "count_roots" (top 88), gl "is_real_rooted" (top 89), gl "count_roots_between" (top 90), gl "count_roots_up_to" (top 91), gl "multiplicity" (top 92), gl "root_floor" (top 93), gl "root_bound" (top 94), gl "squarefree" (top 95)]
def tab6 : List Df := [gl "gcd" (top 96), gl "derivative" (top 97), gl "multiply" (top 98), gl "power_sums" (top 99), gl "hermite_inertia" (top 100), gl "first_newton_violation" (top 101), gl "largest_roots" (top 102), gl "summary" (top 103), gl "read_call" (top 109), gl "read_calls" (top 110), gl "run_call" (top 112), gl "answer_call" (top 113)]
def tab7 : List Df := [gl "answers" (top 114)]
def tabM : List Df := [me "Refusal" "Refusal.__init__" (inClass (top 1) 0), me "NotCreated" "NotCreated.__init__" (inClass (top 2) 0), me "NoSuchSlot" "NoSuchSlot.__init__" (inClass (top 3) 0), me "ZeroPolynomial" "ZeroPolynomial.__init__" (inClass (top 4) 0), me "OutOfRange" "OutOfRange.__init__" (inClass (top 5) 0), me "NoSuchRoot" "NoSuchRoot.__init__" (inClass (top 6) 0), me "TooLarge" "TooLarge.__init__" (inClass (top 7) 0)]
def tab : List Df := tabM ++ (tab0 ++ (tab1 ++ (tab2 ++ (tab3 ++ (tab4 ++ (tab5 ++ (tab6 ++ (tab7))))))))
def fFree (x : Str) : Fx := fun K => (He.Fa.free x).ok K
def fInt (x : Str) (i : Int) : Fx := fun K => (He.Fa.int x i).ok K
def facts : List Fx := [fUp, fExB, fPlain, fOps, fOwn "NotCreated", fOwn "NoSuchSlot", fOwn "ZeroPolynomial", fOwn "OutOfRange", fOwn "NoSuchRoot", fOwn "TooLarge", fFree "abs", fFree "len", fFree "list", fFree "range", fFree "enumerate", fFree "reversed", fFree "sum", fFree "any", fFree "max", fFree "min", fFree "zip", fFree "Exception", fInt "SLOT_COUNT" 4, fInt "MOST_COEFFICIENTS" 9, fInt "GREATEST_NUMERATOR" 1000000, fInt "GREATEST_DENOMINATOR" 1000, fInt "GREATEST_BITS" 30, fInt "GREATEST_POWER" 12, fInt "CREATE" 0, fInt "SET_POLYNOMIAL" 1]
structure Ev (P : Program) (w : World) (K : PySem.W.Frag) (mg : Str → Option Value) (base : Heap) : Prop where
  fn : ∀ (i : Nat) {x : Str} {st : Stmt}, tab[i]? = some (gl x st) → mg x = some (.ref (ga K x)) ∧ PySem.W.keepIn K (.ref (ga K x)) = true ∧ ∃ fd, Fun K x x st (ga K x) fd
  me : ∀ (i : Nat) {C q : Str} {st : Stmt}, tab[i]? = some (me C q st) → PySem.W.findIn K (.ref (ga K C)) "__init__" = some (some (.ref (ma K (ga K C) "__init__"))) ∧ PySem.W.typeIn K (.ref (ma K (ga K C) "__init__")) = some (.type "function") ∧ PySem.W.keepIn K (.ref (ma K (ga K C) "__init__")) = true ∧
      ∃ fd, Fun K "__init__" q st (ma K (ga K C) "__init__") fd
  own : ∀ (i : Nat) {x : Str}, facts[i]? = some (fOwn x) → mg x = some (.ref (ga K x)) ∧ Own K (ga K x) (ga K "Refusal")
  up : mg "Refusal" = some (.ref (ga K "Refusal")) ∧ Up K (ga K "Refusal") (ma K (ga K "Refusal") "__init__") (.type "type")
  exb : ExB K
  exc : mg "Exception" = none
  B : BI P mg base
  C : Cs mg
  R : Cr K mg
  ops : mg "OPERATIONS" = some (.ref (ga K "OPERATIONS")) ∧ ∀ i : Nat, i < 22 → KDI K (ga K "OPERATIONS") i (ga K (opNames.getD i ""))

theorem ev_mk {P : Program} {w : World} {K : PySem.W.Frag} {h base : Heap} {mg : Str → Option Value} (X : K.In h) (G : h.Ns mainGlobals mg) (c : SaysX facts tab K) (G0 : Ground0 P base) : Ev P w K mg base := by
  have fr : ∀ (i : Nat) {x : Str}, facts[i]? = some (fFree x) → mg x = none := fun i x e => He.free_ok X G (c.fact i e)
  have it : ∀ (i : Nat) {x : Str} {z : Int}, facts[i]? = some (fInt x z) → ∃ u, mg x = some u ∧ RelV (.int z) u := fun i x z e => cst_ok X G (c.fact i e)
  refine ⟨fun i x st e => c.gl_ X G i e, fun i C q st e => c.me_ i e, fun i x e => ?_, fUp_ok X G (c.fact 0 rfl), fExB_ok (c.fact 1 rfl), fr 21 rfl, ⟨G0, fr 10 rfl, fr 11 rfl, fr 12 rfl, fr 13 rfl, fr 14 rfl, fr 15 rfl, fr 16 rfl, fr 17 rfl, fr 18 rfl, fr 19 rfl, fr 20 rfl⟩, ⟨it 22 rfl, it 23 rfl, it 24 rfl, it 25 rfl, it 26 rfl, it 27 rfl⟩, ⟨it 28 rfl, it 29 rfl, fPlain_ok X G (c.fact 2 rfl)⟩, fOps_ok X G (c.fact 3 rfl)⟩
  obtain ⟨h1, h2⟩ := He.ba (c.fact i e)
  exact ⟨PySem.W.mg_of X G (He.eqO_ok h1), ownB_ok h2⟩
section
variable {P : Program} {w : World} {K : PySem.W.Frag} {mg : Str → Option Value} {base : Heap}
theorem d_base (e : Ev P w K mg base) : Base P w K mg base (ga K "Refusal") := by
  obtain ⟨h1, h2, h3, fd, F⟩ := e.me 0 (C := "Refusal") (q := "Refusal.__init__") (st := sIR) rfl
  exact ⟨_, fd, _, e.up.1, e.up.2, (ok_ir F e.exc e.exb).mono (by decide), h3, F.binds (ps := ["self", "code"]) fun _ _ _ _ _ _ us hl => match us, hl with | [_, _], _ => rfl⟩
theorem e_NotCreated (e : Ev P w K mg base) : Ec P w K mg base (ga K "Refusal") "NotCreated" (-11) := by
  obtain ⟨h1, h2, h3, fd, F⟩ := e.me 1 (C := "NotCreated") (q := "NotCreated.__init__") (st := inClass (top 2) 0) rfl
  obtain ⟨k1, k2⟩ := e.own 4 (x := "NotCreated") rfl
  exact ⟨_, _, fd, k1, k2, h1, h2, ok_ic1 F (d_base e) k2, F.binds (ps := ["self"]) fun _ _ _ _ _ _ us hl => match us, hl with | [_], _ => rfl⟩
theorem e_NoSuchSlot (e : Ev P w K mg base) : Ec P w K mg base (ga K "Refusal") "NoSuchSlot" (-2) := by
  obtain ⟨h1, h2, h3, fd, F⟩ := e.me 2 (C := "NoSuchSlot") (q := "NoSuchSlot.__init__") (st := inClass (top 3) 0) rfl
  obtain ⟨k1, k2⟩ := e.own 5 (x := "NoSuchSlot") rfl
  exact ⟨_, _, fd, k1, k2, h1, h2, ok_ic2 F (d_base e) k2, F.binds (ps := ["self"]) fun _ _ _ _ _ _ us hl => match us, hl with | [_], _ => rfl⟩
theorem e_ZeroPolynomial (e : Ev P w K mg base) : Ec P w K mg base (ga K "Refusal") "ZeroPolynomial" (-33) := by
  obtain ⟨h1, h2, h3, fd, F⟩ := e.me 3 (C := "ZeroPolynomial") (q := "ZeroPolynomial.__init__") (st := inClass (top 4) 0) rfl
  obtain ⟨k1, k2⟩ := e.own 6 (x := "ZeroPolynomial") rfl
  exact ⟨_, _, fd, k1, k2, h1, h2, ok_ic3 F (d_base e) k2, F.binds (ps := ["self"]) fun _ _ _ _ _ _ us hl => match us, hl with | [_], _ => rfl⟩
theorem e_OutOfRange (e : Ev P w K mg base) : Ec P w K mg base (ga K "Refusal") "OutOfRange" (-22) := by
  obtain ⟨h1, h2, h3, fd, F⟩ := e.me 4 (C := "OutOfRange") (q := "OutOfRange.__init__") (st := inClass (top 5) 0) rfl
  obtain ⟨k1, k2⟩ := e.own 7 (x := "OutOfRange") rfl
  exact ⟨_, _, fd, k1, k2, h1, h2, ok_ic4 F (d_base e) k2, F.binds (ps := ["self"]) fun _ _ _ _ _ _ us hl => match us, hl with | [_], _ => rfl⟩
theorem e_NoSuchRoot (e : Ev P w K mg base) : Ec P w K mg base (ga K "Refusal") "NoSuchRoot" (-34) := by
  obtain ⟨h1, h2, h3, fd, F⟩ := e.me 5 (C := "NoSuchRoot") (q := "NoSuchRoot.__init__") (st := inClass (top 6) 0) rfl
  obtain ⟨k1, k2⟩ := e.own 8 (x := "NoSuchRoot") rfl
  exact ⟨_, _, fd, k1, k2, h1, h2, ok_ic5 F (d_base e) k2, F.binds (ps := ["self"]) fun _ _ _ _ _ _ us hl => match us, hl with | [_], _ => rfl⟩
theorem e_TooLarge (e : Ev P w K mg base) : Ec P w K mg base (ga K "Refusal") "TooLarge" (-75) := by
  obtain ⟨h1, h2, h3, fd, F⟩ := e.me 6 (C := "TooLarge") (q := "TooLarge.__init__") (st := inClass (top 7) 0) rfl
  obtain ⟨k1, k2⟩ := e.own 9 (x := "TooLarge") rfl
  exact ⟨_, _, fd, k1, k2, h1, h2, ok_ic6 F (d_base e) k2, F.binds (ps := ["self"]) fun _ _ _ _ _ _ us hl => match us, hl with | [_], _ => rfl⟩
theorem d_rc (e : Ev P w K mg base) : Dn P w K mg base "read_call" 1 ["calls", "start"] (spRc K) := by
  obtain ⟨h1, h2, fd, F⟩ := e.fn 87 (x := "read_call") (st := sRc) rfl
  exact ⟨_, fd, h1, h2, F.binds (ps := ["calls", "start"]) fun _ _ _ _ _ _ us hl => match us, hl with | [_, _], _ => rfl, ok_rc F e.R⟩
theorem d_rs (e : Ev P w K mg base) : Dn P w K mg base "read_calls" 2 ["calls"] (spRs K) := by
  obtain ⟨h1, h2, fd, F⟩ := e.fn 88 (x := "read_calls") (st := sRs) rfl
  exact ⟨_, fd, h1, h2, F.binds (ps := ["calls"]) fun _ _ _ _ _ _ us hl => match us, hl with | [_], _ => rfl, ok_rs F e.B (d_rc e)⟩
theorem d_op0f (e : Ev P w K mg base) : DnX P w K mg base "create" 60 nOp spOp0 := by
  obtain ⟨h1, h2, fd, F⟩ := e.fn 65 (x := "create") (st := sOp0) rfl
  exact ⟨_, fd, h1, h2, F.binds (ps := nOp) fun _ _ _ _ _ _ us hl => match us, hl with | [_, _], _ => rfl, ok_op0f F e.B e.C⟩
theorem d_cs (e : Ev P w K mg base) : DnX P w K mg base "check_slot" 5 ["slot"] (spCs K (ga K "Refusal")) := by
  obtain ⟨h1, h2, fd, F⟩ := e.fn 7 (x := "check_slot") (st := sCs) rfl
  exact ⟨_, fd, h1, h2, F.binds (ps := ["slot"]) fun _ _ _ _ _ _ us hl => match us, hl with | [_], _ => rfl, ok_cs F e.C (e_NoSuchSlot e)⟩
theorem d_cn (e : Ev P w K mg base) : DnX P w K mg base "check_numerator" 5 ["numerator"] (spCn K (ga K "Refusal")) := by
  obtain ⟨h1, h2, fd, F⟩ := e.fn 8 (x := "check_numerator") (st := sCn) rfl
  exact ⟨_, fd, h1, h2, F.binds (ps := ["numerator"]) fun _ _ _ _ _ _ us hl => match us, hl with | [_], _ => rfl, ok_cn F e.B e.C (e_OutOfRange e)⟩
theorem d_ckd (e : Ev P w K mg base) : DnX P w K mg base "check_denominator" 5 ["denominator"] (spCkd K (ga K "Refusal")) := by
  obtain ⟨h1, h2, fd, F⟩ := e.fn 9 (x := "check_denominator") (st := sCkd) rfl
  exact ⟨_, fd, h1, h2, F.binds (ps := ["denominator"]) fun _ _ _ _ _ _ us hl => match us, hl with | [_], _ => rfl, ok_ckd F e.C (e_OutOfRange e)⟩
theorem d_cc (e : Ev P w K mg base) : DnX P w K mg base "check_coefficients" 6 ["denominator", "coefficients"] (spCc K (ga K "Refusal")) := by
  obtain ⟨h1, h2, fd, F⟩ := e.fn 11 (x := "check_coefficients") (st := sCc) rfl
  exact ⟨_, fd, h1, h2, F.binds (ps := ["denominator", "coefficients"]) fun _ _ _ _ _ _ us hl => match us, hl with | [_, _], _ => rfl, ok_cc F e.B e.C (e_OutOfRange e) (d_cn e) (d_ckd e)⟩
theorem d_trim (e : Ev P w K mg base) : Dn P w K mg base "trimmed" 1 ["coefficients"] (spTrim K) := by
  obtain ⟨h1, h2, fd, F⟩ := e.fn 18 (x := "trimmed") (st := sTrim) rfl
  exact ⟨_, fd, h1, h2, F.binds (ps := ["coefficients"]) fun _ _ _ _ _ _ us hl => match us, hl with | [_], _ => rfl, ok_trim F e.B⟩
theorem d_gcd (e : Ev P w K mg base) : Dn P w K mg base "common_divisor" 1 ["first", "second"] spGcd := by
  obtain ⟨h1, h2, fd, F⟩ := e.fn 16 (x := "common_divisor") (st := sGcd) rfl
  exact ⟨_, fd, h1, h2, F.binds (ps := ["first", "second"]) fun _ _ _ _ _ _ us hl => match us, hl with | [_, _], _ => rfl, ok_gcd F e.B⟩
theorem d_lt (e : Ev P w K mg base) : Dn P w K mg base "lowest_terms" 42 ["numerator", "denominator"] spLt := by
  obtain ⟨h1, h2, fd, F⟩ := e.fn 17 (x := "lowest_terms") (st := sLt) rfl
  exact ⟨_, fd, h1, h2, F.binds (ps := ["numerator", "denominator"]) fun _ _ _ _ _ _ us hl => match us, hl with | [_, _], _ => rfl, ok_lt F e.B (d_gcd e)⟩
theorem d_od (e : Ev P w K mg base) : Dn P w K mg base "over_denominator" 43 ["coefficients", "denominator"] (spOd K) := by
  obtain ⟨h1, h2, fd, F⟩ := e.fn 40 (x := "over_denominator") (st := sOd) rfl
  exact ⟨_, fd, h1, h2, F.binds (ps := ["coefficients", "denominator"]) fun _ _ _ _ _ _ us hl => match us, hl with | [_, _], _ => rfl, ok_od F (d_trim e) (d_lt e)⟩
theorem d_co (e : Ev P w K mg base) : Dn P w K mg base "counted_pairs" 1 ["pairs"] spCo := by
  obtain ⟨h1, h2, fd, F⟩ := e.fn 47 (x := "counted_pairs") (st := sCo) rfl
  exact ⟨_, fd, h1, h2, F.binds (ps := ["pairs"]) fun _ _ _ _ _ _ us hl => match us, hl with | [_], _ => rfl, ok_co F e.B⟩
theorem d_op1 (e : Ev P w K mg base) : DnX P w K mg base "set_polynomial" 60 nOp (spOp K (ga K "Refusal") 1) := by
  obtain ⟨h1, h2, fd, F⟩ := e.fn 66 (x := "set_polynomial") (st := sOp1) rfl
  exact ⟨_, fd, h1, h2, F.binds (ps := nOp) fun _ _ _ _ _ _ us hl => match us, hl with | [_, _], _ => rfl, ok_op1 F e.B (d_cs e) (d_cc e) (d_od e) (d_co e)⟩
theorem d_st (e : Ev P w K mg base) : DnX P w K mg base "stored_polynomial" 6 ["slots", "slot"] (spSt K (ga K "Refusal")) := by
  obtain ⟨h1, h2, fd, F⟩ := e.fn 61 (x := "stored_polynomial") (st := sSp) rfl
  exact ⟨_, fd, h1, h2, F.binds (ps := ["slots", "slot"]) fun _ _ _ _ _ _ us hl => match us, hl with | [_, _], _ => rfl, ok_st F (d_cs e)⟩
theorem d_op2 (e : Ev P w K mg base) : DnX P w K mg base "get_polynomial" 60 nOp (spOp K (ga K "Refusal") 2) := by
  obtain ⟨h1, h2, fd, F⟩ := e.fn 67 (x := "get_polynomial") (st := sOp2) rfl
  exact ⟨_, fd, h1, h2, F.binds (ps := nOp) fun _ _ _ _ _ _ us hl => match us, hl with | [_, _], _ => rfl, ok_op2 F (d_st e) (d_co e)⟩
theorem d_nz (e : Ev P w K mg base) : DnX P w K mg base "nonzero_polynomial" 7 ["slots", "slot"] (spNz K (ga K "Refusal")) := by
  obtain ⟨h1, h2, fd, F⟩ := e.fn 62 (x := "nonzero_polynomial") (st := sNz) rfl
  exact ⟨_, fd, h1, h2, F.binds (ps := ["slots", "slot"]) fun _ _ _ _ _ _ us hl => match us, hl with | [_, _], _ => rfl, ok_nz F (d_st e) (e_ZeroPolynomial e)⟩
theorem d_op3 (e : Ev P w K mg base) : DnX P w K mg base "degree" 60 nOp (spOp K (ga K "Refusal") 3) := by
  obtain ⟨h1, h2, fd, F⟩ := e.fn 68 (x := "degree") (st := sOp3) rfl
  exact ⟨_, fd, h1, h2, F.binds (ps := nOp) fun _ _ _ _ _ _ us hl => match us, hl with | [_, _], _ => rfl, ok_op3 F e.B (d_nz e)⟩
theorem d_ca (e : Ev P w K mg base) : DnX P w K mg base "check_argument" 6 ["numerator", "denominator"] (spCa K (ga K "Refusal")) := by
  obtain ⟨h1, h2, fd, F⟩ := e.fn 10 (x := "check_argument") (st := sCa) rfl
  exact ⟨_, fd, h1, h2, F.binds (ps := ["numerator", "denominator"]) fun _ _ _ _ _ _ us hl => match us, hl with | [_, _], _ => rfl, ok_ca F (d_cn e) (d_ckd e)⟩
theorem d_cd (e : Ev P w K mg base) : Dn P w K mg base "common_denominator" 42 ["polynomial"] spCd := by
  obtain ⟨h1, h2, fd, F⟩ := e.fn 41 (x := "common_denominator") (st := sCd) rfl
  exact ⟨_, fd, h1, h2, F.binds (ps := ["polynomial"]) fun _ _ _ _ _ _ us hl => match us, hl with | [_], _ => rfl, ok_cd F e.B (d_gcd e)⟩
theorem d_wm (e : Ev P w K mg base) : Dn P w K mg base "whole_multiple" 43 ["polynomial"] spWm := by
  obtain ⟨h1, h2, fd, F⟩ := e.fn 42 (x := "whole_multiple") (st := sWm) rfl
  exact ⟨_, fd, h1, h2, F.binds (ps := ["polynomial"]) fun _ _ _ _ _ _ us hl => match us, hl with | [_], _ => rfl, ok_wm' F e.B (d_cd e)⟩
theorem d_val (e : Ev P w K mg base) : Dn P w K mg base "scaled_value" 1 ["polynomial", "numerator", "denominator"] (spVal K) := by
  obtain ⟨h1, h2, fd, F⟩ := e.fn 23 (x := "scaled_value") (st := sVal) rfl
  exact ⟨_, fd, h1, h2, F.binds (ps := ["polynomial", "numerator", "denominator"]) fun _ _ _ _ _ _ us hl => match us, hl with | [_, _, _], _ => rfl, ok_val F e.B⟩
theorem d_va (e : Ev P w K mg base) : Dn P w K mg base "value_at" 44 ["polynomial", "numerator", "denominator"] spVa := by
  obtain ⟨h1, h2, fd, F⟩ := e.fn 46 (x := "value_at") (st := sVa) rfl
  exact ⟨_, fd, h1, h2, F.binds (ps := ["polynomial", "numerator", "denominator"]) fun _ _ _ _ _ _ us hl => match us, hl with | [_, _, _], _ => rfl, ok_va F e.B (d_cd e) (d_wm e) (d_val e) (d_lt e)⟩
theorem d_op4 (e : Ev P w K mg base) : DnX P w K mg base "evaluate" 60 nOp (spOp K (ga K "Refusal") 4) := by
  obtain ⟨h1, h2, fd, F⟩ := e.fn 69 (x := "evaluate") (st := sOp4) rfl
  exact ⟨_, fd, h1, h2, F.binds (ps := nOp) fun _ _ _ _ _ _ us hl => match us, hl with | [_, _], _ => rfl, ok_op4 F (d_st e) (d_ca e) (d_va e)⟩
theorem d_pb (e : Ev P w K mg base) : Dn P w K mg base "point_below_all" 1 [] (spPt (-1)) := by
  obtain ⟨h1, h2, fd, F⟩ := e.fn 48 (x := "point_below_all") (st := (top 63)) rfl
  exact ⟨_, fd, h1, h2, F.binds (ps := []) fun _ _ _ _ _ _ us hl => match us, hl with | [], _ => rfl, ok_pb F ⟩
theorem d_pa (e : Ev P w K mg base) : Dn P w K mg base "point_above_all" 1 [] (spPt 1) := by
  obtain ⟨h1, h2, fd, F⟩ := e.fn 49 (x := "point_above_all") (st := (top 64)) rfl
  exact ⟨_, fd, h1, h2, F.binds (ps := []) fun _ _ _ _ _ _ us hl => match us, hl with | [], _ => rfl, ok_pa F ⟩
theorem d_der (e : Ev P w K mg base) : Dn P w K mg base "whole_derivative" 1 ["polynomial"] (spDer K) := by
  obtain ⟨h1, h2, fd, F⟩ := e.fn 21 (x := "whole_derivative") (st := sDer) rfl
  exact ⟨_, fd, h1, h2, F.binds (ps := ["polynomial"]) fun _ _ _ _ _ _ us hl => match us, hl with | [_], _ => rfl, ok_der F e.B⟩
theorem d_prim (e : Ev P w K mg base) : Dn P w K mg base "primitive_part" 42 ["polynomial"] (spPrim K) := by
  obtain ⟨h1, h2, fd, F⟩ := e.fn 19 (x := "primitive_part") (st := sPrim) rfl
  exact ⟨_, fd, h1, h2, F.binds (ps := ["polynomial"]) fun _ _ _ _ _ _ us hl => match us, hl with | [_], _ => rfl, ok_prim' F e.B (d_gcd e)⟩
theorem d_rem (e : Ev P w K mg base) : Dn P w K mg base "scaled_remainder" 43 ["dividend", "divisor"] (spRem K) := by
  obtain ⟨h1, h2, fd, F⟩ := e.fn 24 (x := "scaled_remainder") (st := sRem) rfl
  exact ⟨_, fd, h1, h2, F.binds (ps := ["dividend", "divisor"]) fun _ _ _ _ _ _ us hl => match us, hl with | [_, _], _ => rfl, ok_rem F e.B (d_trim e) (d_prim e)⟩
theorem d_cf (e : Ev P w K mg base) : Dn P w K mg base "common_factor" 44 ["first", "second"] (spCf K) := by
  obtain ⟨h1, h2, fd, F⟩ := e.fn 25 (x := "common_factor") (st := sCf) rfl
  exact ⟨_, fd, h1, h2, F.binds (ps := ["first", "second"]) fun _ _ _ _ _ _ us hl => match us, hl with | [_, _], _ => rfl, ok_cf F e.B (d_rem e) (d_prim e)⟩
theorem d_eq (e : Ev P w K mg base) : Dn P w K mg base "exact_quotient" 42 ["dividend", "divisor"] (spEq K) := by
  obtain ⟨h1, h2, fd, F⟩ := e.fn 26 (x := "exact_quotient") (st := sEq) rfl
  exact ⟨_, fd, h1, h2, F.binds (ps := ["dividend", "divisor"]) fun _ _ _ _ _ _ us hl => match us, hl with | [_, _], _ => rfl, ok_eq F e.B⟩
theorem d_lay (e : Ev P w K mg base) : Dn P w K mg base "multiplicity_layers" 45 ["polynomial"] spLay := by
  obtain ⟨h1, h2, fd, F⟩ := e.fn 50 (x := "multiplicity_layers") (st := sLay) rfl
  exact ⟨_, fd, h1, h2, F.binds (ps := ["polynomial"]) fun _ _ _ _ _ _ us hl => match us, hl with | [_], _ => rfl, ok_lay F e.B (d_der e) (d_cf e) (d_eq e)⟩
theorem d_ch (e : Ev P w K mg base) : Dn P w K mg base "sturm_chain" 44 ["polynomial"] spCh := by
  obtain ⟨h1, h2, fd, F⟩ := e.fn 51 (x := "sturm_chain") (st := sCh) rfl
  exact ⟨_, fd, h1, h2, F.binds (ps := ["polynomial"]) fun _ _ _ _ _ _ us hl => match us, hl with | [_], _ => rfl, ok_ch F e.B (d_der e) (d_rem e)⟩
theorem d_lc (e : Ev P w K mg base) : Dn P w K mg base "layer_chains" 46 ["polynomial"] spLc := by
  obtain ⟨h1, h2, fd, F⟩ := e.fn 53 (x := "layer_chains") (st := sLc) rfl
  exact ⟨_, fd, h1, h2, F.binds (ps := ["polynomial"]) fun _ _ _ _ _ _ us hl => match us, hl with | [_], _ => rfl, ok_lc F (d_lay e) (d_ch e)⟩
theorem d_sc (e : Ev P w K mg base) : Dn P w K mg base "sign_changes" 2 ["chain", "point"] (spSc K) := by
  obtain ⟨h1, h2, fd, F⟩ := e.fn 52 (x := "sign_changes") (st := sSc) rfl
  exact ⟨_, fd, h1, h2, F.binds (ps := ["chain", "point"]) fun _ _ _ _ _ _ us hl => match us, hl with | [_, _], _ => rfl, ok_sc F e.B (d_val e)⟩
theorem d_cl (e : Ev P w K mg base) : Dn P w K mg base "count_on_chain" 3 ["chain", "low", "high"] (spCl K) := by
  obtain ⟨h1, h2, fd, F⟩ := e.fn 54 (x := "count_on_chain") (st := sCl) rfl
  exact ⟨_, fd, h1, h2, F.binds (ps := ["chain", "low", "high"]) fun _ _ _ _ _ _ us hl => match us, hl with | [_, _, _], _ => rfl, ok_cl F (d_sc e)⟩
theorem d_ci (e : Ev P w K mg base) : Dn P w K mg base "count_in_interval" 47 ["polynomial", "low", "high"] (spCi K) := by
  obtain ⟨h1, h2, fd, F⟩ := e.fn 55 (x := "count_in_interval") (st := sCi) rfl
  exact ⟨_, fd, h1, h2, F.binds (ps := ["polynomial", "low", "high"]) fun _ _ _ _ _ _ us hl => match us, hl with | [_, _, _], _ => rfl, ok_ci F e.B (d_lc e) (d_cl e)⟩
theorem d_al (e : Ev P w K mg base) : Dn P w K mg base "count_all" 48 ["polynomial"] spAl := by
  obtain ⟨h1, h2, fd, F⟩ := e.fn 63 (x := "count_all") (st := sAl) rfl
  exact ⟨_, fd, h1, h2, F.binds (ps := ["polynomial"]) fun _ _ _ _ _ _ us hl => match us, hl with | [_], _ => rfl, ok_al F (d_wm e) (d_pb e) (d_pa e) (d_ci e)⟩
theorem d_op5 (e : Ev P w K mg base) : DnX P w K mg base "count_distinct_roots" 60 nOp (spOp K (ga K "Refusal") 5) := by
  obtain ⟨h1, h2, fd, F⟩ := e.fn 70 (x := "count_distinct_roots") (st := sOp5) rfl
  exact ⟨_, fd, h1, h2, F.binds (ps := nOp) fun _ _ _ _ _ _ us hl => match us, hl with | [_, _], _ => rfl, ok_op5 F (d_nz e) (d_al e)⟩
theorem d_op6 (e : Ev P w K mg base) : DnX P w K mg base "count_roots" 60 nOp (spOp K (ga K "Refusal") 6) := by
  obtain ⟨h1, h2, fd, F⟩ := e.fn 71 (x := "count_roots") (st := sOp6) rfl
  exact ⟨_, fd, h1, h2, F.binds (ps := nOp) fun _ _ _ _ _ _ us hl => match us, hl with | [_, _], _ => rfl, ok_op6 F (d_nz e) (d_al e)⟩
theorem d_op7 (e : Ev P w K mg base) : DnX P w K mg base "is_real_rooted" 60 nOp (spOp K (ga K "Refusal") 7) := by
  obtain ⟨h1, h2, fd, F⟩ := e.fn 72 (x := "is_real_rooted") (st := sOp7) rfl
  exact ⟨_, fd, h1, h2, F.binds (ps := nOp) fun _ _ _ _ _ _ us hl => match us, hl with | [_, _], _ => rfl, ok_op7 F e.B (d_nz e) (d_al e)⟩
theorem d_cv (e : Ev P w K mg base) : DnX P w K mg base "check_interval" 7 nCv (spCv K (ga K "Refusal")) := by
  obtain ⟨h1, h2, fd, F⟩ := e.fn 12 (x := "check_interval") (st := sCv) rfl
  exact ⟨_, fd, h1, h2, F.binds (ps := nCv) fun _ _ _ _ _ _ us hl => match us, hl with | [_, _, _, _], _ => rfl, ok_cv F (e_OutOfRange e) (d_ca e)⟩
theorem d_op8 (e : Ev P w K mg base) : DnX P w K mg base "count_roots_between" 60 nOp (spOp K (ga K "Refusal") 8) := by
  obtain ⟨h1, h2, fd, F⟩ := e.fn 73 (x := "count_roots_between") (st := sOp8) rfl
  exact ⟨_, fd, h1, h2, F.binds (ps := nOp) fun _ _ _ _ _ _ us hl => match us, hl with | [_, _], _ => rfl, ok_op8 F e.B (d_nz e) (d_cv e) (d_wm e) (d_ci e)⟩
theorem d_op9 (e : Ev P w K mg base) : DnX P w K mg base "count_roots_up_to" 60 nOp (spOp K (ga K "Refusal") 9) := by
  obtain ⟨h1, h2, fd, F⟩ := e.fn 74 (x := "count_roots_up_to") (st := sOp9) rfl
  exact ⟨_, fd, h1, h2, F.binds (ps := nOp) fun _ _ _ _ _ _ us hl => match us, hl with | [_, _], _ => rfl, ok_op9 F (d_nz e) (d_ca e) (d_wm e) (d_ci e) (d_pb e)⟩
theorem d_ma (e : Ev P w K mg base) : Dn P w K mg base "multiplicity_at" 46 ["polynomial", "numerator", "denominator"] spMa := by
  obtain ⟨h1, h2, fd, F⟩ := e.fn 56 (x := "multiplicity_at") (st := sMa) rfl
  exact ⟨_, fd, h1, h2, F.binds (ps := ["polynomial", "numerator", "denominator"]) fun _ _ _ _ _ _ us hl => match us, hl with | [_, _, _], _ => rfl, ok_ma F e.B (d_lay e) (d_val e)⟩
theorem d_op10 (e : Ev P w K mg base) : DnX P w K mg base "multiplicity" 60 nOp (spOp K (ga K "Refusal") 10) := by
  obtain ⟨h1, h2, fd, F⟩ := e.fn 75 (x := "multiplicity") (st := sOp10) rfl
  exact ⟨_, fd, h1, h2, F.binds (ps := nOp) fun _ _ _ _ _ _ us hl => match us, hl with | [_, _], _ => rfl, ok_op10 F (d_nz e) (d_ca e) (d_wm e) (d_ma e)⟩
theorem d_cbi (e : Ev P w K mg base) : DnX P w K mg base "check_bits" 5 ["bits"] (spMax K (ga K "Refusal") 30) := by
  obtain ⟨h1, h2, fd, F⟩ := e.fn 13 (x := "check_bits") (st := sCbi) rfl
  exact ⟨_, fd, h1, h2, F.binds (ps := ["bits"]) fun _ _ _ _ _ _ us hl => match us, hl with | [_], _ => rfl, ok_cbi F e.C (e_OutOfRange e)⟩
theorem d_p2 (e : Ev P w K mg base) : Dn P w K mg base "power_of_two" 1 ["bits"] spP2 := by
  obtain ⟨h1, h2, fd, F⟩ := e.fn 59 (x := "power_of_two") (st := sP2) rfl
  exact ⟨_, fd, h1, h2, F.binds (ps := ["bits"]) fun _ _ _ _ _ _ us hl => match us, hl with | [_], _ => rfl, ok_p2 F e.B⟩
theorem d_cb (e : Ev P w K mg base) : Dn P w K mg base "cauchy_bound" 42 ["polynomial"] spCb := by
  obtain ⟨h1, h2, fd, F⟩ := e.fn 57 (x := "cauchy_bound") (st := sCb) rfl
  exact ⟨_, fd, h1, h2, F.binds (ps := ["polynomial"]) fun _ _ _ _ _ _ us hl => match us, hl with | [_], _ => rfl, ok_cb F e.B⟩
theorem d_bl (e : Ev P w K mg base) : Dn P w K mg base "count_below" 4 ["chains", "point"] (spBl K) := by
  obtain ⟨h1, h2, fd, F⟩ := e.fn 58 (x := "count_below") (st := sBl) rfl
  exact ⟨_, fd, h1, h2, F.binds (ps := ["chains", "point"]) fun _ _ _ _ _ _ us hl => match us, hl with | [_, _], _ => rfl, ok_bl F (d_cl e) (d_pb e) (d_val e)⟩
theorem d_fl (e : Ev P w K mg base) : Dn P w K mg base "floor_of_root" 47 ["polynomial", "k", "bits"] spFl := by
  obtain ⟨h1, h2, fd, F⟩ := e.fn 60 (x := "floor_of_root") (st := sFl) rfl
  exact ⟨_, fd, h1, h2, F.binds (ps := ["polynomial", "k", "bits"]) fun _ _ _ _ _ _ us hl => match us, hl with | [_, _, _], _ => rfl, ok_fl F e.B (d_lc e) (d_p2 e) (d_cb e) (d_bl e)⟩
theorem d_op11 (e : Ev P w K mg base) : DnX P w K mg base "root_floor" 60 nOp (spOp K (ga K "Refusal") 11) := by
  obtain ⟨h1, h2, fd, F⟩ := e.fn 76 (x := "root_floor") (st := sOp11) rfl
  exact ⟨_, fd, h1, h2, F.binds (ps := nOp) fun _ _ _ _ _ _ us hl => match us, hl with | [_, _], _ => rfl, ok_op11 F (d_nz e) (d_cbi e) (d_al e) (d_wm e) (d_fl e) (e_NoSuchRoot e)⟩
theorem d_op12 (e : Ev P w K mg base) : DnX P w K mg base "root_bound" 60 nOp (spOp K (ga K "Refusal") 12) := by
  obtain ⟨h1, h2, fd, F⟩ := e.fn 77 (x := "root_bound") (st := sOp12) rfl
  exact ⟨_, fd, h1, h2, F.binds (ps := nOp) fun _ _ _ _ _ _ us hl => match us, hl with | [_, _], _ => rfl, ok_op12 F (d_nz e) (d_wm e) (d_cb e)⟩
theorem d_sq (e : Ev P w K mg base) : Dn P w K mg base "squarefree_part" 45 ["polynomial"] spSq := by
  obtain ⟨h1, h2, fd, F⟩ := e.fn 27 (x := "squarefree_part") (st := sSq) rfl
  exact ⟨_, fd, h1, h2, F.binds (ps := ["polynomial"]) fun _ _ _ _ _ _ us hl => match us, hl with | [_], _ => rfl, ok_sq F (d_der e) (d_cf e) (d_eq e)⟩
theorem d_wp (e : Ev P w K mg base) : Dn P w K mg base "with_positive_lead" 1 ["polynomial"] spWp := by
  obtain ⟨h1, h2, fd, F⟩ := e.fn 20 (x := "with_positive_lead") (st := sWp) rfl
  exact ⟨_, fd, h1, h2, F.binds (ps := ["polynomial"]) fun _ _ _ _ _ _ us hl => match us, hl with | [_], _ => rfl, ok_wp F e.B⟩
theorem d_mo (e : Ev P w K mg base) : Dn P w K mg base "monic" 44 ["whole_polynomial"] spMo := by
  obtain ⟨h1, h2, fd, F⟩ := e.fn 43 (x := "monic") (st := sMo) rfl
  exact ⟨_, fd, h1, h2, F.binds (ps := ["whole_polynomial"]) fun _ _ _ _ _ _ us hl => match us, hl with | [_], _ => rfl, ok_mo F (d_wp e) (d_od e)⟩
theorem d_cr (e : Ev P w K mg base) : DnX P w K mg base "check_result" 5 ["polynomial"] (spCr K (ga K "Refusal")) := by
  obtain ⟨h1, h2, fd, F⟩ := e.fn 15 (x := "check_result") (st := sCr) rfl
  exact ⟨_, fd, h1, h2, F.binds (ps := ["polynomial"]) fun _ _ _ _ _ _ us hl => match us, hl with | [_], _ => rfl, ok_cr F e.B e.C (e_TooLarge e)⟩
theorem d_sr (e : Ev P w K mg base) : DnX P w K mg base "store_result" 6 nSr (spSr K (ga K "Refusal")) := by
  obtain ⟨h1, h2, fd, F⟩ := e.fn 64 (x := "store_result") (st := sSr) rfl
  exact ⟨_, fd, h1, h2, F.binds (ps := nSr) fun _ _ _ _ _ _ us hl => match us, hl with | [_, _, _], _ => rfl, ok_sr F (d_cr e) (d_co e)⟩
theorem d_op13 (e : Ev P w K mg base) : DnX P w K mg base "squarefree" 60 nOp (spOp K (ga K "Refusal") 13) := by
  obtain ⟨h1, h2, fd, F⟩ := e.fn 78 (x := "squarefree") (st := sOp13) rfl
  exact ⟨_, fd, h1, h2, F.binds (ps := nOp) fun _ _ _ _ _ _ us hl => match us, hl with | [_, _], _ => rfl, ok_op13 F (d_cs e) (d_nz e) (d_wm e) (d_sq e) (d_mo e) (d_sr e)⟩
theorem d_op14 (e : Ev P w K mg base) : DnX P w K mg base "gcd" 60 nOp (spOp K (ga K "Refusal") 14) := by
  obtain ⟨h1, h2, fd, F⟩ := e.fn 79 (x := "gcd") (st := sOp14) rfl
  exact ⟨_, fd, h1, h2, F.binds (ps := nOp) fun _ _ _ _ _ _ us hl => match us, hl with | [_, _], _ => rfl, ok_op14 F (d_cs e) (d_nz e) (d_wm e) (d_cf e) (d_mo e) (d_sr e)⟩
theorem d_do (e : Ev P w K mg base) : Dn P w K mg base "derivative_of" 44 ["polynomial"] spDo := by
  obtain ⟨h1, h2, fd, F⟩ := e.fn 44 (x := "derivative_of") (st := sDo) rfl
  exact ⟨_, fd, h1, h2, F.binds (ps := ["polynomial"]) fun _ _ _ _ _ _ us hl => match us, hl with | [_], _ => rfl, ok_do F (d_wm e) (d_der e) (d_cd e) (d_od e)⟩
theorem d_op15 (e : Ev P w K mg base) : DnX P w K mg base "derivative" 60 nOp (spOp K (ga K "Refusal") 15) := by
  obtain ⟨h1, h2, fd, F⟩ := e.fn 80 (x := "derivative") (st := sOp15) rfl
  exact ⟨_, fd, h1, h2, F.binds (ps := nOp) fun _ _ _ _ _ _ us hl => match us, hl with | [_, _], _ => rfl, ok_op15 F (d_cs e) (d_st e) (d_do e) (d_sr e)⟩
theorem d_wr (e : Ev P w K mg base) : Dn P w K mg base "whole_product" 1 ["first", "second"] (spWr K) := by
  obtain ⟨h1, h2, fd, F⟩ := e.fn 22 (x := "whole_product") (st := sWr) rfl
  exact ⟨_, fd, h1, h2, F.binds (ps := ["first", "second"]) fun _ _ _ _ _ _ us hl => match us, hl with | [_, _], _ => rfl, ok_wr F e.B⟩
theorem d_po (e : Ev P w K mg base) : Dn P w K mg base "product_of" 44 ["first", "second"] spPo := by
  obtain ⟨h1, h2, fd, F⟩ := e.fn 45 (x := "product_of") (st := sPo) rfl
  exact ⟨_, fd, h1, h2, F.binds (ps := ["first", "second"]) fun _ _ _ _ _ _ us hl => match us, hl with | [_, _], _ => rfl, ok_po F (d_wm e) (d_wr e) (d_cd e) (d_od e)⟩
theorem d_op16 (e : Ev P w K mg base) : DnX P w K mg base "multiply" 60 nOp (spOp K (ga K "Refusal") 16) := by
  obtain ⟨h1, h2, fd, F⟩ := e.fn 81 (x := "multiply") (st := sOp16) rfl
  exact ⟨_, fd, h1, h2, F.binds (ps := nOp) fun _ _ _ _ _ _ us hl => match us, hl with | [_, _], _ => rfl, ok_op16 F (d_cs e) (d_st e) (d_po e) (d_sr e)⟩
theorem d_cmp (e : Ev P w K mg base) : DnX P w K mg base "check_max_power" 5 ["max_power"] (spMax K (ga K "Refusal") 12) := by
  obtain ⟨h1, h2, fd, F⟩ := e.fn 14 (x := "check_max_power") (st := sCmp) rfl
  exact ⟨_, fd, h1, h2, F.binds (ps := ["max_power"]) fun _ _ _ _ _ _ us hl => match us, hl with | [_], _ => rfl, ok_cmp F e.C (e_OutOfRange e)⟩
theorem d_sm (e : Ev P w K mg base) : Dn P w K mg base "scaled_to_monic" 1 ["polynomial"] (spSm K) := by
  obtain ⟨h1, h2, fd, F⟩ := e.fn 28 (x := "scaled_to_monic") (st := sSm) rfl
  exact ⟨_, fd, h1, h2, F.binds (ps := ["polynomial"]) fun _ _ _ _ _ _ us hl => match us, hl with | [_], _ => rfl, ok_sm F e.B⟩
theorem d_su (e : Ev P w K mg base) : Dn P w K mg base "scaled_power_sums" 2 ["polynomial", "max_power"] (spSu K) := by
  obtain ⟨h1, h2, fd, F⟩ := e.fn 29 (x := "scaled_power_sums") (st := sSu) rfl
  exact ⟨_, fd, h1, h2, F.binds (ps := ["polynomial", "max_power"]) fun _ _ _ _ _ _ us hl => match us, hl with | [_, _], _ => rfl, ok_su F e.B (d_sm e)⟩
theorem d_pf (e : Ev P w K mg base) : Dn P w K mg base "power_sum_fractions" 43 ["polynomial", "max_power"] spPf := by
  obtain ⟨h1, h2, fd, F⟩ := e.fn 30 (x := "power_sum_fractions") (st := sPf) rfl
  exact ⟨_, fd, h1, h2, F.binds (ps := ["polynomial", "max_power"]) fun _ _ _ _ _ _ us hl => match us, hl with | [_, _], _ => rfl, ok_pf F (d_wp e) (d_su e) (d_lt e)⟩
theorem d_op17 (e : Ev P w K mg base) : DnX P w K mg base "power_sums" 60 nOp (spOp K (ga K "Refusal") 17) := by
  obtain ⟨h1, h2, fd, F⟩ := e.fn 82 (x := "power_sums") (st := sOp17) rfl
  exact ⟨_, fd, h1, h2, F.binds (ps := nOp) fun _ _ _ _ _ _ us hl => match us, hl with | [_, _], _ => rfl, ok_op17 F (d_nz e) (d_cmp e) (d_wm e) (d_pf e) (d_co e)⟩
theorem d_hm (e : Ev P w K mg base) : Dn P w K mg base "hermite_matrix" 3 ["polynomial"] (spHm K) := by
  obtain ⟨h1, h2, fd, F⟩ := e.fn 31 (x := "hermite_matrix") (st := sHm) rfl
  exact ⟨_, fd, h1, h2, F.binds (ps := ["polynomial"]) fun _ _ _ _ _ _ us hl => match us, hl with | [_], _ => rfl, ok_hm F e.B (d_su e)⟩
theorem d_he (e : Ev P w K mg base) : Dn P w K mg base "has_entry" 1 ["matrix"] spHe := by
  obtain ⟨h1, h2, fd, F⟩ := e.fn 32 (x := "has_entry") (st := sHe) rfl
  exact ⟨_, fd, h1, h2, F.binds (ps := ["matrix"]) fun _ _ _ _ _ _ us hl => match us, hl with | [_], _ => rfl, ok_he F e.B⟩
theorem d_pl (e : Ev P w K mg base) : Dn P w K mg base "place_of_diagonal_entry" 1 ["matrix"] spPl := by
  obtain ⟨h1, h2, fd, F⟩ := e.fn 33 (x := "place_of_diagonal_entry") (st := sPl) rfl
  exact ⟨_, fd, h1, h2, F.binds (ps := ["matrix"]) fun _ _ _ _ _ _ us hl => match us, hl with | [_], _ => rfl, ok_pl F e.B⟩
theorem d_ad (e : Ev P w K mg base) : Dn P w K mg base "added" 1 ["matrix"] spAd := by
  obtain ⟨h1, h2, fd, F⟩ := e.fn 34 (x := "added") (st := sAd) rfl
  exact ⟨_, fd, h1, h2, F.binds (ps := ["matrix"]) fun _ _ _ _ _ _ us hl => match us, hl with | [_], _ => rfl, ok_ad F e.B⟩
theorem d_mv (e : Ev P w K mg base) : Dn P w K mg base "moved" 1 ["matrix", "place"] spMv := by
  obtain ⟨h1, h2, fd, F⟩ := e.fn 35 (x := "moved") (st := sMv) rfl
  exact ⟨_, fd, h1, h2, F.binds (ps := ["matrix", "place"]) fun _ _ _ _ _ _ us hl => match us, hl with | [_, _], _ => rfl, ok_mv F e.B⟩
theorem d_rd (e : Ev P w K mg base) : Dn P w K mg base "reduced" 42 ["matrix", "divisor"] spRd := by
  obtain ⟨h1, h2, fd, F⟩ := e.fn 36 (x := "reduced") (st := sRd) rfl
  exact ⟨_, fd, h1, h2, F.binds (ps := ["matrix", "divisor"]) fun _ _ _ _ _ _ us hl => match us, hl with | [_, _], _ => rfl, ok_rd F e.B⟩
theorem d_in (e : Ev P w K mg base) : Dn P w K mg base "inertia" 43 ["matrix"] spIn := by
  obtain ⟨h1, h2, fd, F⟩ := e.fn 37 (x := "inertia") (st := sIn) rfl
  exact ⟨_, fd, h1, h2, F.binds (ps := ["matrix"]) fun _ _ _ _ _ _ us hl => match us, hl with | [_], _ => rfl, ok_in F e.B (d_he e) (d_pl e) (d_ad e) (d_mv e) (d_rd e)⟩
theorem d_op18 (e : Ev P w K mg base) : DnX P w K mg base "hermite_inertia" 60 nOp (spOp K (ga K "Refusal") 18) := by
  obtain ⟨h1, h2, fd, F⟩ := e.fn 83 (x := "hermite_inertia") (st := sOp18) rfl
  exact ⟨_, fd, h1, h2, F.binds (ps := nOp) fun _ _ _ _ _ _ us hl => match us, hl with | [_, _], _ => rfl, ok_op18 F e.B (d_nz e) (d_wm e) (d_hm e) (d_in e)⟩
theorem d_nh (e : Ev P w K mg base) : Dn P w K mg base "newton_holds" 1 ["polynomial", "k"] (spNh K) := by
  obtain ⟨h1, h2, fd, F⟩ := e.fn 38 (x := "newton_holds") (st := sNh) rfl
  exact ⟨_, fd, h1, h2, F.binds (ps := ["polynomial", "k"]) fun _ _ _ _ _ _ us hl => match us, hl with | [_, _], _ => rfl, ok_nh F e.B⟩
theorem d_vi (e : Ev P w K mg base) : Dn P w K mg base "violated_index" 2 ["polynomial"] (spVi K) := by
  obtain ⟨h1, h2, fd, F⟩ := e.fn 39 (x := "violated_index") (st := sVi) rfl
  exact ⟨_, fd, h1, h2, F.binds (ps := ["polynomial"]) fun _ _ _ _ _ _ us hl => match us, hl with | [_], _ => rfl, ok_vi F e.B (d_nh e)⟩
theorem d_op19 (e : Ev P w K mg base) : DnX P w K mg base "first_newton_violation" 60 nOp (spOp K (ga K "Refusal") 19) := by
  obtain ⟨h1, h2, fd, F⟩ := e.fn 84 (x := "first_newton_violation") (st := sOp19) rfl
  exact ⟨_, fd, h1, h2, F.binds (ps := nOp) fun _ _ _ _ _ _ us hl => match us, hl with | [_, _], _ => rfl, ok_op19 F (d_nz e) (d_wm e) (d_vi e)⟩
theorem d_co2 (e : Ev P w K mg base) : Dn P w K mg base "counted_pairs" 1 ["pairs"] spCo2 := by
  obtain ⟨h1, h2, fd, F⟩ := e.fn 47 (x := "counted_pairs") (st := sCo) rfl
  exact ⟨_, fd, h1, h2, F.binds (ps := ["pairs"]) fun _ _ _ _ _ _ us hl => match us, hl with | [_], _ => rfl, ok_co2 F e.B⟩
theorem d_op20 (e : Ev P w K mg base) : DnX P w K mg base "largest_roots" 60 nOp (spOp K (ga K "Refusal") 20) := by
  obtain ⟨h1, h2, fd, F⟩ := e.fn 85 (x := "largest_roots") (st := sOp20) rfl
  exact ⟨_, fd, h1, h2, F.binds (ps := nOp) fun _ _ _ _ _ _ us hl => match us, hl with | [_, _], _ => rfl, ok_op20 F e.B (d_cbi e) (d_al e) (d_wm e) (d_fl e) (d_co2 e)⟩
theorem d_op21 (e : Ev P w K mg base) : DnX P w K mg base "summary" 60 nOp (spOp K (ga K "Refusal") 21) := by
  obtain ⟨h1, h2, fd, F⟩ := e.fn 86 (x := "summary") (st := sOp21) rfl
  exact ⟨_, fd, h1, h2, F.binds (ps := nOp) fun _ _ _ _ _ _ us hl => match us, hl with | [_, _], _ => rfl, ok_op21 F e.B e.C⟩
theorem held_of {x : Str} {sp : Sp} (D : DnX P w K mg base x 60 nOp sp) (h : mg x = some (.ref (ga K x))) : HeldX P w K mg base 60 nOp (ga K x) sp := by
  obtain ⟨f, fd, h1, h2, h3, h4⟩ := D.ex
  have e : f = ga K x := by
    rw [h] at h1
    injection h1 with h1
    injection h1 with h1
    exact h1.symm
  subst e
  exact ⟨fd, h4, h2, h3⟩
theorem d_ops (e : Ev P w K mg base) : Ops P w K mg base (ga K "Refusal") := by
  refine ⟨_, e.ops.1, ⟨_, e.ops.2 0 (by decide), held_of (d_op0f e) (e.fn 65 (x := "create") (st := sOp0) rfl).1⟩, fun n h0 h => ?_⟩
  match n, h0, h with
  | 1, _, _ => exact ⟨_, e.ops.2 1 (by decide), held_of (d_op1 e) (e.fn 66 (x := "set_polynomial") (st := sOp1) rfl).1⟩
  | 2, _, _ => exact ⟨_, e.ops.2 2 (by decide), held_of (d_op2 e) (e.fn 67 (x := "get_polynomial") (st := sOp2) rfl).1⟩
  | 3, _, _ => exact ⟨_, e.ops.2 3 (by decide), held_of (d_op3 e) (e.fn 68 (x := "degree") (st := sOp3) rfl).1⟩
  | 4, _, _ => exact ⟨_, e.ops.2 4 (by decide), held_of (d_op4 e) (e.fn 69 (x := "evaluate") (st := sOp4) rfl).1⟩
  | 5, _, _ => exact ⟨_, e.ops.2 5 (by decide), held_of (d_op5 e) (e.fn 70 (x := "count_distinct_roots") (st := sOp5) rfl).1⟩
  | 6, _, _ => exact ⟨_, e.ops.2 6 (by decide), held_of (d_op6 e) (e.fn 71 (x := "count_roots") (st := sOp6) rfl).1⟩
  | 7, _, _ => exact ⟨_, e.ops.2 7 (by decide), held_of (d_op7 e) (e.fn 72 (x := "is_real_rooted") (st := sOp7) rfl).1⟩
  | 8, _, _ => exact ⟨_, e.ops.2 8 (by decide), held_of (d_op8 e) (e.fn 73 (x := "count_roots_between") (st := sOp8) rfl).1⟩
  | 9, _, _ => exact ⟨_, e.ops.2 9 (by decide), held_of (d_op9 e) (e.fn 74 (x := "count_roots_up_to") (st := sOp9) rfl).1⟩
  | 10, _, _ => exact ⟨_, e.ops.2 10 (by decide), held_of (d_op10 e) (e.fn 75 (x := "multiplicity") (st := sOp10) rfl).1⟩
  | 11, _, _ => exact ⟨_, e.ops.2 11 (by decide), held_of (d_op11 e) (e.fn 76 (x := "root_floor") (st := sOp11) rfl).1⟩
  | 12, _, _ => exact ⟨_, e.ops.2 12 (by decide), held_of (d_op12 e) (e.fn 77 (x := "root_bound") (st := sOp12) rfl).1⟩
  | 13, _, _ => exact ⟨_, e.ops.2 13 (by decide), held_of (d_op13 e) (e.fn 78 (x := "squarefree") (st := sOp13) rfl).1⟩
  | 14, _, _ => exact ⟨_, e.ops.2 14 (by decide), held_of (d_op14 e) (e.fn 79 (x := "gcd") (st := sOp14) rfl).1⟩
  | 15, _, _ => exact ⟨_, e.ops.2 15 (by decide), held_of (d_op15 e) (e.fn 80 (x := "derivative") (st := sOp15) rfl).1⟩
  | 16, _, _ => exact ⟨_, e.ops.2 16 (by decide), held_of (d_op16 e) (e.fn 81 (x := "multiply") (st := sOp16) rfl).1⟩
  | 17, _, _ => exact ⟨_, e.ops.2 17 (by decide), held_of (d_op17 e) (e.fn 82 (x := "power_sums") (st := sOp17) rfl).1⟩
  | 18, _, _ => exact ⟨_, e.ops.2 18 (by decide), held_of (d_op18 e) (e.fn 83 (x := "hermite_inertia") (st := sOp18) rfl).1⟩
  | 19, _, _ => exact ⟨_, e.ops.2 19 (by decide), held_of (d_op19 e) (e.fn 84 (x := "first_newton_violation") (st := sOp19) rfl).1⟩
  | 20, _, _ => exact ⟨_, e.ops.2 20 (by decide), held_of (d_op20 e) (e.fn 85 (x := "largest_roots") (st := sOp20) rfl).1⟩
  | 21, _, _ => exact ⟨_, e.ops.2 21 (by decide), held_of (d_op21 e) (e.fn 86 (x := "summary") (st := sOp21) rfl).1⟩
  | 0, h0, _ => exact absurd rfl h0
  | n + 22, _, h => exact absurd h (by omega)
theorem d_ru (e : Ev P w K mg base) : DnX P w K mg base "run_call" 61 ["slots", "number", "arguments"] (spRu K (ga K "Refusal")) := by
  obtain ⟨h1, h2, fd, F⟩ := e.fn 89 (x := "run_call") (st := sRu) rfl
  exact ⟨_, fd, h1, h2, F.binds (ps := ["slots", "number", "arguments"]) fun _ _ _ _ _ _ us hl => match us, hl with | [_, _, _], _ => rfl, ok_ru F e.R (e_NotCreated e) (d_ops e)⟩
theorem d_ac (e : Ev P w K mg base) : Dn P w K mg base "answer_call" 62 ["slots", "number", "arguments"] spAc := by
  obtain ⟨h1, h2, fd, F⟩ := e.fn 90 (x := "answer_call") (st := sAc) rfl
  exact ⟨_, fd, h1, h2, F.binds (ps := ["slots", "number", "arguments"]) fun _ _ _ _ _ _ us hl => match us, hl with | [_, _, _], _ => rfl, ok_ac F e.up.1 (d_ru e)⟩
theorem d_an (e : Ev P w K mg base) : Dn P w K mg base "answers" 63 ["calls"] (spAn K) := by
  obtain ⟨h1, h2, fd, F⟩ := e.fn 91 (x := "answers") (st := sAn) rfl
  exact ⟨_, fd, h1, h2, F.binds (ps := ["calls"]) fun _ _ _ _ _ _ us hl => match us, hl with | [_], _ => rfl, ok_an F e.B (d_rs e) (d_ac e)⟩
end
end Rc

/-! ## Nc -/
set_option maxHeartbeats 0
/-! The run of the top. -/
namespace Rc
open PySem PySem.W PySem.Calls PyProof.Rows
def names0 : List PySem.Str := ["Refusal", "NotCreated", "NoSuchSlot", "ZeroPolynomial", "OutOfRange", "NoSuchRoot", "TooLarge", "SLOT_COUNT", "MOST_COEFFICIENTS", "GREATEST_NUMERATOR", "GREATEST_DENOMINATOR", "GREATEST_BITS", "GREATEST_POWER", "check_slot", "check_numerator", "check_denominator", "check_argument", "check_coefficients", "check_interval", "check_bits", "check_max_power", "check_result", "common_divisor", "lowest_terms", "trimmed", "primitive_part", "with_positive_lead", "whole_derivative", "whole_product", "scaled_value"]
def names1 : List PySem.Str := ["scaled_remainder", "common_factor", "exact_quotient", "squarefree_part", "scaled_to_monic", "scaled_power_sums", "power_sum_fractions", "hermite_matrix", "has_entry", "place_of_diagonal_entry", "added", "moved", "reduced", "inertia", "newton_holds", "violated_index", "over_denominator", "common_denominator", "whole_multiple", "monic", "derivative_of", "product_of", "value_at", "counted_pairs", "point_below_all", "point_above_all", "multiplicity_layers", "sturm_chain", "sign_changes", "layer_chains"]
def names2 : List PySem.Str := ["count_on_chain", "count_in_interval", "multiplicity_at", "cauchy_bound", "count_below", "power_of_two", "floor_of_root", "stored_polynomial", "nonzero_polynomial", "count_all", "store_result", "create", "set_polynomial", "get_polynomial", "degree", "evaluate", "count_distinct_roots", "count_roots", "is_real_rooted", "count_roots_between", "count_roots_up_to", "multiplicity", "root_floor", "root_bound", "squarefree", "gcd", "derivative", "multiply", "power_sums", "hermite_inertia"]
def names3 : List PySem.Str := ["first_newton_violation", "largest_roots", "summary", "OPERATIONS", "CREATE", "SET_POLYNOMIAL", "PLAIN_NUMBERS", "read_call", "read_calls", "run_call", "answer_call"]
def names : List PySem.Str := names0 ++ (names1 ++ (names2 ++ (names3)))
abbrev Rw : OpenSpec := PySem.Challenge.rw_rootcounts_s01_answers
abbrev qv : Program := view Rw.prog [114]
/-- the objects that are kept: the globals, the statics, each class with its names, its __init__ and that one's code, the two tables, each def with its code -/
def kept0 : List Addr := [3, 2, 31, 30, 28, 27, 51, 50, 48, 47, 70, 69, 67, 66, 89, 88, 86, 85, 108, 107, 105, 104, 127, 126, 124, 123, 146, 145, 143, 142, 673, 675, 155, 154, 162, 161, 169, 168, 176, 175]
def kept1 : List Addr := [183, 182, 190, 189, 197, 196, 204, 203, 211, 210, 218, 217, 225, 224, 232, 231, 237, 236, 242, 241, 247, 246, 254, 253, 261, 260, 266, 265, 273, 272, 280, 279, 287, 286, 294, 293, 301, 300, 308, 307]
def kept2 : List Addr := [313, 312, 318, 317, 325, 324, 330, 329, 335, 334, 340, 339, 347, 346, 354, 353, 361, 360, 366, 365, 373, 372, 378, 377, 385, 384, 392, 391, 399, 398, 406, 405, 413, 412, 420, 419, 427, 426, 434, 433]
def kept3 : List Addr := [439, 438, 446, 445, 451, 450, 458, 457, 463, 462, 468, 467, 473, 472, 480, 479, 487, 486, 494, 493, 501, 500, 508, 507, 515, 514, 522, 521, 527, 526, 534, 533, 541, 540, 548, 547, 555, 554, 562, 561]
def kept4 : List Addr := [569, 568, 576, 575, 583, 582, 590, 589, 597, 596, 604, 603, 611, 610, 618, 617, 625, 624, 632, 631, 639, 638, 646, 645, 653, 652, 660, 659, 667, 666, 672, 671, 682, 681, 689, 688, 696, 695, 703, 702]
def kept5 : List Addr := [710, 709]
def kept : List Addr := kept0 ++ (kept1 ++ (kept2 ++ (kept3 ++ (kept4 ++ (kept5)))))
abbrev hk : Hook := hookX kept facts tab
def ob (s : SharedT) : He.Al := obsXG kept facts tab (HandSHeadRun.getT s)
theorem ob_eq (s : SharedT) : ob s = hk.obs s.abs := obsXG_eq (HandSHeadRun.getT_eq s)
theorem both_of {A B C D : Type} {x : Option A} {f : A → B} {g : A → C} {k : A → D} {b : B} {c : C} {d : D} (e1 : x.map (fun s => (f s, g s)) = some (b, c)) (e2 : x.map k = some d) : x.map (fun s => (f s, g s, k s)) = some (b, c, d) := by
  cases x with
  | none => cases e1
  | some s =>
    have h1 : (f s, g s) = (b, c) := Option.some.inj e1
    have h2 : k s = d := Option.some.inj e2
    obtain ⟨h3, h4⟩ := Prod.mk.inj h1
    show some (f s, g s, k s) = some (b, c, d)
    rw [h3, h4, h2]
open HandSHeadRun
noncomputable abbrev endAt (w : World) (os : OsState) : Option SharedT := endF (stepQ (denQ tabQ) Rw.prog w) 12000 Rw.prog w os
def LooksAt (b : Bool) : Prop := ∀ (w : World) (os : OsState), (endAt (w.withFollow "special-get-raises" b) os).map (fun s => (looksF Rw.prog (boot_heap (w.withFollow "special-get-raises" b).params) s.abs, seenQ qv names (importedModules Rw.prog.main.body) (fun s => xlAt qv [] s && recOk [] s) s.abs)) = some (true, openGood qv names)
def KeptAt (b : Bool) : Prop := ∀ (w : World) (os : OsState), (endAt (w.withFollow "special-get-raises" b) os).map ob = some (hk.val (w.withFollow "special-get-raises" b))
theorem looks0 : LooksAt false := by
  intro w os
  kernel_rfl
theorem looks1 : LooksAt true := by
  intro w os
  kernel_rfl
theorem kept0_ : KeptAt false := by
  intro w os
  kernel_rfl
theorem kept1_ : KeptAt true := by
  intro w os
  kernel_rfl
theorem run (w : World) : RunEqS Rw qv hk ob 12000 names w := byRow2 "special-get-raises" (P := fun w => RunEqS Rw qv hk ob 12000 names w) (fun w os => both_of (looks0 w os) (kept0_ w os)) (fun w os => both_of (looks1 w os) (kept1_ w os)) w
end Rc

/-! ## Nd -/
set_option maxHeartbeats 4000000
/-! The end. -/
namespace Rc
open PySem PySem.Spec PyProof.Rows L2
open PySem.W (Codec OpenSpec)
/-- the call of the row's def, whose body divides long; F gives the part of the heap that is kept -/
theorem walk_longE {r : OpenSpec} {k : Nat} {q : Program} {loose : List Str} {XP : (Str → Option Value) → Heap → Prop} {YP : World → Heap → Prop} {d : DefRec} {ps : List Str} {sp : PySem.W.Frag → Sp}
    (hq : importsNone q = true) (hwell : r.wellSaid = true) (hlen : r.args.length = ps.length) (hr : Room k callerA)
    (F : ∀ (w : World) (mg : Str → Option Value) (fa : Addr) (h : Heap), YP w h → h.Ns mainGlobals mg → mg d.name = some (.ref fa) →
      ∃ (K : PySem.W.Frag) (fd : FuncData), K.In h ∧ (∀ (s : Shared) (us : List Value), us.length = ps.length → BindsTo s fd ⟨us, []⟩ (ps.zip us)) ∧
        ∀ base : Heap, K.In base → base.NoSeer → base.Ns mainGlobals mg → FnOk r.prog w K mg base CX0 k fa fd ps (sp K))
    (hsp : ∀ (K K' : PySem.W.Frag) (H : Hp) (xs : List V) (a : Codec.denoteAll r.args), (∀ b ys, SqL K' H b ys → SqL K H b ys) → Codec.app r.args r.asked a = true → DwAll K' H xs (Codec.encAll r.args a) →
      sp K xs H (fun v H' => Dw K' H' v (r.ret.enc (Codec.app r.args r.f a))) fun _ _ _ => False) :
    PySem.W.WalkOS q loose XP YP r d [] (fun f vs => PySem.call f vs) := by
  intro w s₀ s₁ mg mb Gr hYP fa ob pm cv dc dv kv g1 g2 g3 g4 g5 g6 args vals as p1 p2 p3 p4 p5
  obtain ⟨a, e1, e2⟩ := PySem.W.os_pre_some p1
  obtain ⟨rfl, e3⟩ := Codec.encAll_of_decAll r.args args a e1
  obtain ⟨K, fd, kin, hbd, hF⟩ := F w mg fa _ hYP Gr.T.g g5
  obtain ⟨L, l1, l2, l3⟩ := seer_held (Gr.T.seer hq)
  refine PySem.W.enter_call (codeAny_mono (spec_call (K := L ++ K) (CX := CX0) (fd := fd) (sp := sp K) (R := []) (cl := classAt s₀.heap) (d0 := r.ret.enc (Codec.app r.args r.f a))
    (app_in l1 kin) Gr.T.g Gr.T.b Gr.T.builtins Gr.T.nolimit g6 p4 (pl_encAll _ _) (layable_weight p2) hr
    (fun b hb hn => fn_app (app_keeps l1 kin hb) (hF b (app_keeps l1 kin hb) (l3 b (app_stands l1 hb)) hn)) hbd (by rw [encAll_len]; exact hlen)
    (fun H xs _ hS => hsp K (L ++ K) H xs a (fun _ _ z => app_seq l2 z) e2 hS) fun _ _ _ z => z) fun r' s' y => ?_)
  obtain ⟨u, as', rfl, y1, y2, y3, y4⟩ := y
  exact ⟨.inl ⟨u, _, as', rfl, fun _ => rfl, y1, (OpenSpec.post_iff hwell e3 _ _).mpr rfl, fun z => by cases z⟩, y2, y3, y4⟩
theorem all_mk {P : Program} {w : World} {K : PySem.W.Frag} {h : Heap} {mg : Str → Option Value} {fa : Addr} (X : K.In h) (G : h.Ns mainGlobals mg) (hfa : mg "answers" = some (.ref fa)) (c : SaysX facts tab K) (hP : P.given.tree = none) :
    ∃ fd : FuncData, (∀ (s : Shared) (us : List Value), us.length = (["calls"] : List Str).length → BindsTo s fd ⟨us, []⟩ ((["calls"] : List Str).zip us)) ∧
      ∀ base : Heap, K.In base → base.NoSeer → base.Ns mainGlobals mg → FnOk P w K mg base CX0 63 fa fd ["calls"] (spAn K) := by
  obtain ⟨h1, h2, fd, F⟩ := c.gl_ X G 91 (x := "answers") (st := sAn) rfl
  have e := hfa.symm.trans h1
  cases e
  obtain ⟨oc, od, kV, doc, pm, an, cdv, ct, osl, rfl, lk, hcd⟩ := id F.ex
  refine ⟨PySem.W.fnOf "answers" "answers" (defArgs sAn) (defBody sAn) (defScope sAn) .none kV doc pm an cdv ct, fun s us hu => match us, hu with | [_], _ => .of_eq rfl, fun base kb ns G' => ?_⟩
  have E : Ev P w K mg base := ev_mk kb G' c ⟨ns, hP⟩
  exact ok_an F E.B (d_rs E) (d_ac E)
end Rc
open PySem PySem.W PySem.Calls PyProof.Rows
set_option maxRecDepth 100000 in
set_option maxHeartbeats 8000000 in
theorem PySem.Challenge.cw_rootcounts_s01_answers_holds : PySem.Challenge.rw_rootcounts_s01_answers.Holds := by
  w_on
  refine HandSHeadRun.head_spec (r := PySem.Challenge.rw_rootcounts_s01_answers) (q := Rc.qv) (H := Rc.hk) (ob := Rc.ob) (M := 12000) (loose := Rc.names) (d := HandSHeadRun.topDef Rc.Rw.prog 114) (kwd := []) Rc.ob_eq
    (by kernel_rfl) (fun s => by kernel_rfl) Rc.run (by kernel_rfl) (by kernel_rfl) (by kernel_rfl) os_shapes (by first | assumption | decide +kernel) (by decide +kernel) ⟨rfl, rfl, rfl, rfl, rfl, by decide +kernel⟩ ?hw ?hc
  case hw => exact ⟨[.list [.int 0]], by decide +kernel, by decide +kernel⟩
  case hc =>
    refine Rc.walk_longE (r := PySem.Challenge.rw_rootcounts_s01_answers) (k := 63) (ps := ["calls"]) (sp := Rc.spAn) (by decide +kernel) (by decide +kernel) rfl ⟨rfl, by decide, by decide⟩ ?F ?S
    case F =>
      intro w mg fa h Y G hmg0
      obtain ⟨K, KX, c⟩ := Y
      have hmg : mg ("answers" : PySem.Str) = some (.ref fa) := by
        have e : (HandSHeadRun.topDef Rc.Rw.prog 114).name = ("answers" : PySem.Str) := by kernel_rfl
        rw [← e]
        exact hmg0
      obtain ⟨fd, hb, hF⟩ := Rc.all_mk (P := (PySem.Challenge.rw_rootcounts_s01_answers).prog) (w := w) KX G hmg c (by kernel_rfl)
      exact ⟨K, fd, KX, hb, hF⟩
    case S =>
      intro K K' H xs a hq hask hx
      cases hx with
      | cons h1 h2 =>
        cases h2
        cases h1 with
        | lst hs ha =>
          have e := L2.ints_dw a.1 _ ha
          subst e
          exact ⟨_, a.1, rfl, hq _ _ hs, hask, fun H' p hp => .lst (L2.SqL.of hp) (L2.dw_ints _)⟩
#print axioms PySem.Challenge.cw_rootcounts_s01_answers_holds
