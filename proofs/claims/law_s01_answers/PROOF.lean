import PyProof.Rows.All
import Wide.All
import OpenK.AllK
import Wide.FinOn
import Open.SpecLaws
import KE.OsHead
import KE.OsGo
import HandS.ForSpec
import HandS.Comp
import HandS.Dict
import HandS.Iter
import HandS.Walk
import HandS.Conv
import HandS.Wide
import HandS.Lambda
import HandS.Nested
import KE.KMinKey
import HandS.EndTab
import PySem.Challenge.RW_doubtviews_s01_answers
set_option Elab.async false
section
/-! Sums, dictionaries of a linear system, and why the least number's rule never comes back. Core Lean alone. -/
namespace Bl

/-- the sum of f 0, .., f (n - 1) -/
def sm : Nat → (Nat → Rat) → Rat
  | 0, _ => 0
  | n + 1, f => sm n f + f n

theorem sm_congr {f g : Nat → Rat} : ∀ {n : Nat}, (∀ i, i < n → f i = g i) → sm n f = sm n g
  | 0, _ => rfl
  | n + 1, h => by
    show sm n f + f n = sm n g + g n
    rw [sm_congr (n := n) (fun i hi => h i (by omega)), h n (by omega)]

theorem sm_zero : ∀ (n : Nat), sm n (fun _ => 0) = 0
  | 0 => rfl
  | n + 1 => by
    show sm n (fun _ => 0) + 0 = 0
    rw [sm_zero n]; grind

theorem sm_zero' {f : Nat → Rat} {n : Nat} (h : ∀ i, i < n → f i = 0) : sm n f = 0 :=
  (sm_congr h).trans (sm_zero n)

theorem sm_add (f g : Nat → Rat) : ∀ (n : Nat), sm n (fun i => f i + g i) = sm n f + sm n g
  | 0 => by show (0 : Rat) = 0 + 0; grind
  | n + 1 => by
    show sm n (fun i => f i + g i) + (f n + g n) = (sm n f + f n) + (sm n g + g n)
    rw [sm_add f g n]; grind

theorem sm_mul (k : Rat) (f : Nat → Rat) : ∀ (n : Nat), sm n (fun i => k * f i) = k * sm n f
  | 0 => by simp [sm]
  | n + 1 => by
    show sm n (fun i => k * f i) + k * f n = k * (sm n f + f n)
    rw [sm_mul k f n]; grind

theorem sm_nonneg {f : Nat → Rat} : ∀ {n : Nat}, (∀ i, i < n → 0 ≤ f i) → 0 ≤ sm n f
  | 0, _ => by simp [sm]
  | n + 1, h => by
    have h1 := sm_nonneg (n := n) (fun i hi => h i (by omega))
    have h2 := h n (by omega)
    show 0 ≤ sm n f + f n
    grind

theorem sm_le {f g : Nat → Rat} : ∀ {n : Nat}, (∀ i, i < n → f i ≤ g i) → sm n f ≤ sm n g
  | 0, _ => by simp [sm]
  | n + 1, h => by
    have h1 := sm_le (n := n) (fun i hi => h i (by omega))
    have h2 := h n (by omega)
    show sm n f + f n ≤ sm n g + g n
    grind

/-- all but one are 0 -/
theorem sm_single {f : Nat → Rat} {s : Nat} : ∀ {n : Nat}, s < n → (∀ i, i < n → i ≠ s → f i = 0) → sm n f = f s
  | 0, h, _ => absurd h (by omega)
  | n + 1, h, k => by
    show sm n f + f n = f s
    by_cases e : s = n
    · subst e
      rw [sm_zero' (fun i hi => k i (by omega) (by omega))]; grind
    · rw [sm_single (s := s) (n := n) (by omega) (fun i hi => k i (by omega)), k n (by omega) (fun q => e q.symm)]; grind

/-- a sum below 0 has a term below 0 -/
theorem sm_neg {f : Nat → Rat} {n : Nat} (h : sm n f < 0) : ∃ i, i < n ∧ f i < 0 := by
  apply Classical.byContradiction
  intro q
  have h1 : 0 ≤ sm n f := sm_nonneg (fun i hi => by
    apply Classical.byContradiction
    intro q2
    exact q ⟨i, hi, by grind⟩)
  grind

/-- one is taken out -/
theorem sm_take {f : Nat → Rat} {s : Nat} : ∀ {n : Nat}, s < n → sm n f = f s + sm n (fun i => if i = s then 0 else f i)
  | 0, h => absurd h (by omega)
  | n + 1, h => by
    show sm n f + f n = f s + (sm n (fun i => if i = s then 0 else f i) + (if n = s then 0 else f n))
    by_cases e : s = n
    · subst e
      rw [sm_congr (n := s) (f := fun i => if i = s then 0 else f i) (g := f) (fun i hi => if_neg (by omega)), if_pos rfl]; grind
    · rw [sm_take (s := s) (n := n) (by omega), if_neg (by omega : ¬ n = s)]; grind

abbrev Asg := Nat → Rat

/-- A dictionary of a system S with a sum f: who's reckoned (B), how, and the sum by the others. -/
structure Dict (N : Nat) (S : Asg → Prop) (f : Asg → Rat) where
  B : Nat → Bool
  b : Nat → Rat
  a : Nat → Nat → Rat
  c : Nat → Rat
  v : Rat
  a0 : ∀ i j, B j = true → a i j = 0
  c0 : ∀ j, B j = true → c j = 0
  row : ∀ z, S z → ∀ i, i < N → B i = true → z i = b i - sm N (fun j => a i j * z j)
  obj : ∀ z, S z → f z = v + sm N (fun j => c j * z j)
  ex : ∀ t : Nat → Rat, ∃ z, S z ∧ ∀ j, j < N → B j = false → z j = t j

variable {N : Nat} {S : Asg → Prop} {f : Asg → Rat}

def Dict.Feas (D : Dict N S f) : Prop := ∀ i, i < N → D.B i = true → 0 ≤ D.b i
/-- what a number has at the dictionary's own point -/
def Dict.val (D : Dict N S f) (i : Nat) : Rat := if D.B i = true then D.b i else 0

/-- One step by the least number's rule, from D to D': s comes in, t goes out. Only those of E may come in. -/
structure Step (E : Nat → Prop) (D D' : Dict N S f) (s t : Nat) : Prop where
  sN : s < N
  tN : t < N
  sE : E s
  sB : D.B s = false
  tB : D.B t = true
  cs : 0 < D.c s
  least : ∀ j, j < s → E j → D.c j ≤ 0
  ats : 0 < D.a t s
  ratio : ∀ i, i < N → D.B i = true → 0 < D.a i s → D.b t * D.a i s ≤ D.b i * D.a t s
  tie : ∀ i, i < N → D.B i = true → 0 < D.a i s → D.b t * D.a i s = D.b i * D.a t s → t ≤ i
  B' : ∀ j, D'.B j = if j = s then true else if j = t then false else D.B j

/-- the point where one of the others is y, the rest of them 0 -/
theorem along (D : Dict N S f) {s : Nat} (sN : s < N) (sB : D.B s = false) (y : Rat) :
    ∃ z, S z ∧ z s = y ∧ (∀ j, j < N → D.B j = false → j ≠ s → z j = 0) ∧
      (∀ i, i < N → D.B i = true → z i = D.b i - D.a i s * y) ∧ f z = D.v + D.c s * y := by
  obtain ⟨z, hz, h⟩ := D.ex (fun j => if j = s then y else 0)
  have hs : z s = y := (h s sN sB).trans (if_pos rfl)
  have ho : ∀ j, j < N → D.B j = false → j ≠ s → z j = 0 := fun j hj hb hn => (h j hj hb).trans (if_neg hn)
  refine ⟨z, hz, hs, ho, fun i hi hb => ?_, ?_⟩
  · rw [D.row z hz i hi hb, sm_single sN (fun j hj hn => ?_), hs]
    cases e : D.B j with
    | true => rw [D.a0 i j e]; grind
    | false => rw [ho j hj e hn]; grind
  · rw [D.obj z hz, sm_single sN (fun j hj hn => ?_), hs]
    cases e : D.B j with
    | true => rw [D.c0 j e]; grind
    | false => rw [ho j hj e hn]; grind

/-- the dictionary's own point -/
theorem point (D : Dict N S f) : ∃ z, S z ∧ (∀ j, j < N → z j = D.val j) ∧ f z = D.v := by
  obtain ⟨z, hz, h⟩ := D.ex (fun _ => 0)
  have zero : ∀ j, j < N → D.B j = false → z j = 0 := fun j hj e => h j hj e
  refine ⟨z, hz, fun j hj => ?_, ?_⟩
  · unfold Dict.val
    cases e : D.B j with
    | false => rw [zero j hj e]; rfl
    | true =>
      rw [if_pos rfl, D.row z hz j hj e, sm_zero' (fun k hk => ?_)]
      · grind
      · cases e2 : D.B k with
        | true => rw [D.a0 j k e2]; grind
        | false => rw [zero k hk e2]; grind
  · rw [D.obj z hz, sm_zero' (fun k hk => ?_)]
    · grind
    · cases e2 : D.B k with
      | true => rw [D.c0 k e2]; grind
      | false => rw [zero k hk e2]; grind

/-- two dictionaries with the same B have the same point and sum -/
theorem same_point (D D' : Dict N S f) (h : ∀ j, j < N → D.B j = D'.B j) : (∀ j, j < N → D.val j = D'.val j) ∧ D.v = D'.v := by
  obtain ⟨z, hz, h1, h2⟩ := point D
  have zero : ∀ j, j < N → D'.B j = false → z j = 0 := fun j hj e => by
    rw [h1 j hj]; unfold Dict.val; rw [h j hj, e]; rfl
  have v' : f z = D'.v := by
    rw [D'.obj z hz, sm_zero' (fun k hk => ?_)]
    · grind
    · cases e2 : D'.B k with
      | true => rw [D'.c0 k e2]; grind
      | false => rw [zero k hk e2]; grind
  refine ⟨fun j hj => ?_, h2.symm.trans v'⟩
  rw [← h1 j hj]
  unfold Dict.val
  cases e : D'.B j with
  | false => rw [zero j hj e]; rfl
  | true =>
    rw [if_pos rfl, D'.row z hz j hj e, sm_zero' (fun k hk => ?_)]
    · grind
    · cases e2 : D'.B k with
      | true => rw [D'.a0 j k e2]; grind
      | false => rw [zero k hk e2]; grind

variable {E : Nat → Prop} {D D' : Dict N S f} {s t : Nat}

theorem Step.ne (h : Step E D D' s t) : s ≠ t := fun e => by
  have h1 := h.sB
  rw [e, h.tB] at h1
  exact Bool.noConfusion h1

/-- what a step makes of the point and of the sum -/
theorem Step.next (h : Step E D D' s t) : ∃ y, y * D.a t s = D.b t ∧ D'.v = D.v + D.c s * y ∧ D'.val s = y ∧ D'.val t = 0 ∧
    (∀ i, i < N → D.B i = true → i ≠ t → D'.val i = D.b i - D.a i s * y) ∧ (∀ j, j < N → D.B j = false → j ≠ s → D'.val j = 0) := by
  have ne := h.ne
  have hne : D.a t s ≠ 0 := by have := h.ats; grind
  obtain ⟨y, hy⟩ : ∃ y, y * D.a t s = D.b t := ⟨D.b t / D.a t s, Rat.div_mul_cancel hne⟩
  obtain ⟨z, hz, zs, zo, zb, zf⟩ := along D h.sN h.sB y
  have zt : z t = 0 := by rw [zb t h.tN h.tB]; grind
  have zero : ∀ j, j < N → D'.B j = false → z j = 0 := fun j hj e => by
    have e2 := h.B' j
    rw [e] at e2
    by_cases c1 : j = s
    · rw [if_pos c1] at e2; exact Bool.noConfusion e2
    · rw [if_neg c1] at e2
      by_cases c2 : j = t
      · rw [c2]; exact zt
      · rw [if_neg c2] at e2
        exact zo j hj e2.symm c1
  have zv : ∀ j, j < N → z j = D'.val j := fun j hj => by
    unfold Dict.val
    cases e : D'.B j with
    | false => rw [zero j hj e]; rfl
    | true =>
      rw [if_pos rfl, D'.row z hz j hj e, sm_zero' (fun k hk => ?_)]
      · grind
      · cases e2 : D'.B k with
        | true => rw [D'.a0 j k e2]; grind
        | false => rw [zero k hk e2]; grind
  have v' : f z = D'.v := by
    rw [D'.obj z hz, sm_zero' (fun k hk => ?_)]
    · grind
    · cases e2 : D'.B k with
      | true => rw [D'.c0 k e2]; grind
      | false => rw [zero k hk e2]; grind
  refine ⟨y, hy, v'.symm.trans zf, (zv s h.sN).symm.trans zs, (zv t h.tN).symm.trans zt, fun i hi hb _ => (zv i hi).symm.trans (zb i hi hb), fun j hj hb hn => (zv j hj).symm.trans (zo j hj hb hn)⟩

theorem pos_of_mul {x y : Rat} (hy : 0 < y) (h : 0 ≤ x * y) : 0 ≤ x := by
  rcases (Rat.le_total : 0 ≤ x ∨ x ≤ 0) with q | q
  · exact q
  · have h1 : x * y ≤ 0 * y := Rat.mul_le_mul_of_nonneg_right q (Rat.le_of_lt hy)
    have h2 : x * y = 0 := by grind
    rcases Rat.mul_eq_zero.mp h2 with e | e <;> grind

/-- a step keeps the point at 0 or above -/
theorem Step.feas (h : Step E D D' s t) (F : D.Feas) : D'.Feas := by
  obtain ⟨y, hy, hv, vs, vt, vb, vo⟩ := h.next
  have y0 : 0 ≤ y := pos_of_mul h.ats (by rw [hy]; exact F t h.tN h.tB)
  intro i hi hb
  have e : D'.val i = D'.b i := if_pos hb
  rw [← e]
  have e2 := h.B' i
  rw [hb] at e2
  by_cases c1 : i = s
  · rw [c1, vs]; exact y0
  · rw [if_neg c1] at e2
    by_cases c2 : i = t
    · rw [if_pos c2] at e2; exact Bool.noConfusion e2
    · rw [if_neg c2] at e2
      rw [vb i hi e2.symm c2]
      rcases (Rat.le_total : D.a i s ≤ 0 ∨ 0 ≤ D.a i s) with q | q
      · have h1 := F i hi e2.symm
        have h2 : D.a i s * y ≤ 0 * y := Rat.mul_le_mul_of_nonneg_right q y0
        grind
      · by_cases q2 : D.a i s = 0
        · have h1 := F i hi e2.symm
          rw [q2]; grind
        · have q3 : 0 < D.a i s := by grind
          have h1 := h.ratio i hi e2.symm q3
          refine pos_of_mul h.ats ?_
          have e3 : (D.b i - D.a i s * y) * D.a t s = D.b i * D.a t s - (y * D.a t s) * D.a i s := by grind
          rw [e3, hy]
          grind

/-! ### The least number's rule never comes back -/
/-- a run of steps: D k to D (k + 1) for k from 0 to n - 1 -/
structure Run (E : Nat → Prop) (D : Nat → Dict N S f) (s t : Nat → Nat) (n : Nat) : Prop where
  feas : (D 0).Feas
  step : ∀ k, k < n → Step E (D k) (D (k + 1)) (s k) (t k)

variable {D : Nat → Dict N S f} {s t : Nat → Nat} {n : Nat}

theorem Run.feasAt (R : Run E D s t n) : ∀ k, k ≤ n → (D k).Feas
  | 0, _ => R.feas
  | k + 1, h => (R.step k h).feas (R.feasAt k (by omega))

theorem Step.up {D D' : Dict N S f} {s t : Nat} (h : Step E D D' s t) (F : D.Feas) : D.v ≤ D'.v ∧ (D'.v = D.v → D.b t = 0) := by
  obtain ⟨y, hy, hv, _⟩ := h.next
  have y0 : 0 ≤ y := pos_of_mul h.ats (by rw [hy]; exact F t h.tN h.tB)
  have h1 : 0 ≤ D.c s * y := Rat.mul_nonneg (Rat.le_of_lt h.cs) y0
  refine ⟨by rw [hv]; grind, fun e => ?_⟩
  have h2 : D.c s * y = 0 := by rw [hv] at e; grind
  rcases Rat.mul_eq_zero.mp h2 with q | q
  · have := h.cs; grind
  · rw [← hy, q]; grind

theorem Run.mono (R : Run E D s t n) : ∀ i j, i ≤ j → j ≤ n → (D i).v ≤ (D j).v
  | i, 0, h, _ => by
    obtain rfl : i = 0 := by omega
    grind
  | i, j + 1, h, hn => by
    by_cases e : i = j + 1
    · subst e; grind
    · have h1 := R.mono i j (by omega) (by omega)
      have h2 := ((R.step j (by omega)).up (R.feasAt j (by omega))).1
      grind

/-- a step where who goes out is at 0 leaves the point where it is -/
theorem Step.still {D D' : Dict N S f} {s t : Nat} (h : Step E D D' s t) (b0 : D.b t = 0) : ∀ j, j < N → D'.val j = D.val j := by
  obtain ⟨y, hy, hv, vs, vt, vb, vo⟩ := h.next
  have y0 : y = 0 := by
    rw [b0] at hy
    rcases Rat.mul_eq_zero.mp hy with q | q
    · exact q
    · have := h.ats; grind
  intro j hj
  unfold Dict.val at *
  by_cases c1 : j = s
  · rw [c1, vs, y0, h.sB]; rfl
  · by_cases c2 : j = t
    · rw [c2, vt, h.tB, b0]; rfl
    · cases e : D.B j with
      | true =>
        rw [vb j hj e c2, y0]
        simp; grind
      | false =>
        rw [vo j hj e c1]; rfl

/-- of a row of truths that begins and ends alike, not all alike: it falls somewhere, and it rises somewhere -/
theorem turns {g : Nat → Bool} {i j : Nat} (hij : i ≤ j) (h : ∀ k, i ≤ k → k < j → g k = false → g (k + 1) = false) :
    g i = false → g j = false := by
  intro h0
  have : ∀ d, i + d ≤ j → g (i + d) = false := by
    intro d
    induction d with
    | zero => intro _; exact h0
    | succ d ih =>
      intro hd
      exact h (i + d) (by omega) (by omega) (ih (by omega))
  have h2 := this (j - i) (by omega)
  rwa [show i + (j - i) = j by omega] at h2

theorem falls {g : Nat → Bool} {i j k1 k2 : Nat} (e : g i = g j) (a1 : i ≤ k1) (b1 : k1 ≤ j) (a2 : i ≤ k2) (b2 : k2 ≤ j)
    (h1 : g k1 = true) (h2 : g k2 = false) : (∃ k, i ≤ k ∧ k < j ∧ g k = true ∧ g (k + 1) = false) ∧ (∃ k, i ≤ k ∧ k < j ∧ g k = false ∧ g (k + 1) = true) := by
  constructor
  · apply Classical.byContradiction
    intro q
    have up : ∀ k, i ≤ k → k < j → g k = true → g (k + 1) = true := fun k x y z => by
      cases w : g (k + 1) with
      | true => rfl
      | false => exact absurd ⟨k, x, y, z, w⟩ q
    have up' : ∀ p, i ≤ p → p ≤ j → g p = true → g j = true := by
      intro p hp hj hg
      cases w : g j with
      | true => rfl
      | false =>
        exfalso
        have : ∀ d, p + d ≤ j → g (p + d) = true := by
          intro d
          induction d with
          | zero => intro _; exact hg
          | succ d ih => intro hd; exact up (p + d) (by omega) (by omega) (ih (by omega))
        have h3 := this (j - p) (by omega)
        rw [show p + (j - p) = j by omega, w] at h3
        exact Bool.noConfusion h3
    have hj := up' k1 a1 b1 h1
    rw [hj] at e
    have : ∀ d, i + d ≤ j → g (i + d) = true := by
      intro d
      induction d with
      | zero => intro _; exact e
      | succ d ih => intro hd; exact up (i + d) (by omega) (by omega) (ih (by omega))
    have h3 := this (k2 - i) (by omega)
    rw [show i + (k2 - i) = k2 by omega, h2] at h3
    exact Bool.noConfusion h3
  · apply Classical.byContradiction
    intro q
    have dn : ∀ k, i ≤ k → k < j → g k = false → g (k + 1) = false := fun k x y z => by
      cases w : g (k + 1) with
      | false => rfl
      | true => exact absurd ⟨k, x, y, z, w⟩ q
    have hj := turns (g := g) (i := k2) (j := j) b2 (fun k x y z => dn k (by omega) y z) h2
    rw [hj] at e
    have h3 := turns (g := g) (i := i) (j := k1) a1 (fun k x y z => dn k x (by omega) z) e
    rw [h1] at h3
    exact Bool.noConfusion h3

/-- of the numbers below N that do so there's a greatest -/
theorem greatest {P : Nat → Prop} : ∀ (N : Nat), (∃ v, v < N ∧ P v) → ∃ v, v < N ∧ P v ∧ ∀ w, w < N → P w → w ≤ v
  | 0, ⟨v, h, _⟩ => absurd h (by omega)
  | N + 1, ⟨v, h, hv⟩ => by
    by_cases c : P N
    · exact ⟨N, by omega, c, fun w hw _ => by omega⟩
    · obtain ⟨u, h1, h2, h3⟩ := greatest (P := P) N ⟨v, by
        have : v ≠ N := fun e => c (e ▸ hv)
        omega, hv⟩
      refine ⟨u, by omega, h2, fun w hw hp => ?_⟩
      have : w ≠ N := fun e => c (e ▸ hp)
      exact h3 w (by omega) hp

theorem no_return (R : Run E D s t n) {i j : Nat} (hij : i < j) (hjn : j ≤ n) (hB : ∀ v, v < N → (D i).B v = (D j).B v) : False := by
  -- no gain in the ring
  have hv : (D i).v = (D j).v := (same_point (D i) (D j) hB).2
  have cv : ∀ k, i ≤ k → k ≤ j → (D k).v = (D i).v := fun k a b => by
    have h1 := R.mono i k a (by omega)
    have h2 := R.mono k j b hjn
    grind
  have z0 : ∀ k, i ≤ k → k < j → (D k).b (t k) = 0 := fun k a b =>
    ((R.step k (by omega)).up (R.feasAt k (by omega))).2 (by rw [cv (k + 1) (by omega) (by omega), cv k a (by omega)])
  have still : ∀ k, i ≤ k → k ≤ j → ∀ v, v < N → (D k).val v = (D i).val v := by
    have : ∀ d, i + d ≤ j → ∀ v, v < N → (D (i + d)).val v = (D i).val v := by
      intro d
      induction d with
      | zero => intro _ v _; rfl
      | succ d ih =>
        intro hd v hv
        have h1 := (R.step (i + d) (by omega)).still (z0 (i + d) (by omega) (by omega)) v hv
        rw [show i + (d + 1) = i + d + 1 by omega, h1]
        exact ih (by omega) v hv
    intro k a b v hv
    have := this (k - i) (by omega) v hv
    rwa [show i + (k - i) = k by omega] at this
  -- those that come and go
  let Fk : Nat → Prop := fun v => (∃ k, i ≤ k ∧ k ≤ j ∧ (D k).B v = true) ∧ (∃ k, i ≤ k ∧ k ≤ j ∧ (D k).B v = false)
  have some : ∃ v, v < N ∧ Fk v := ⟨s i, (R.step i (by omega)).sN, ⟨i + 1, by omega, by omega, by
    rw [(R.step i (by omega)).B']; exact if_pos rfl⟩, ⟨i, by omega, by omega, (R.step i (by omega)).sB⟩⟩
  obtain ⟨m, mN, hm, mx⟩ := greatest N some
  -- it goes out at p, it comes in at q
  obtain ⟨⟨k1, x1, y1, t1⟩, ⟨k2, x2, y2, t2⟩⟩ := hm
  obtain ⟨⟨p, px, py, p1, p2⟩, ⟨q, qx, qy, q1, q2⟩⟩ := falls (g := fun k => (D k).B m) (hB m mN) x1 y1 x2 y2 t1 t2
  have P := R.step p (by omega)
  have Q := R.step q (by omega)
  have tp : t p = m := by
    have h1 := P.B' m
    have h2 : (D (p + 1)).B m = false := p2
    have h3 : (D p).B m = true := p1
    rw [h2, h3] at h1
    by_cases c1 : m = s p
    · rw [if_pos c1] at h1; exact Bool.noConfusion h1
    · rw [if_neg c1] at h1
      by_cases c2 : m = t p
      · exact c2.symm
      · rw [if_neg c2] at h1; exact Bool.noConfusion h1
  have sq : s q = m := by
    have h1 := Q.B' m
    have h2 : (D (q + 1)).B m = true := q2
    have h3 : (D q).B m = false := q1
    rw [h2, h3] at h1
    by_cases c1 : m = s q
    · exact c1.symm
    · rw [if_neg c1] at h1
      by_cases c2 : m = t q
      · rw [if_pos c2] at h1; exact Bool.noConfusion h1
      · rw [if_neg c2] at h1; exact Bool.noConfusion h1
  -- who comes in at p comes and goes too
  have fs : Fk (s p) := ⟨⟨p + 1, by omega, by omega, by rw [P.B']; exact if_pos rfl⟩, ⟨p, px, by omega, P.sB⟩⟩
  have sm' : s p < m := by
    have h1 := mx (s p) P.sN fs
    have h2 := P.ne
    rw [tp] at h2
    omega
  -- the sum along s p, by D p and by D q
  have eq : ∀ y, (D p).c (s p) * y = sm N (fun r => (D q).c r * ((if r = s p then y else 0) + (if (D p).B r = true then (D p).b r - (D p).a r (s p) * y else 0))) := by
    intro y
    obtain ⟨z, hz, zs, zo, zb, zf⟩ := along (D p) P.sN P.sB y
    have h1 := (D q).obj z hz
    rw [zf, cv p px (by omega), cv q qx (by omega)] at h1
    have h2 : (D p).c (s p) * y = sm N (fun j => (D q).c j * z j) := by grind
    rw [h2]
    refine sm_congr (fun r hr => ?_)
    have : z r = (if r = s p then y else 0) + (if (D p).B r = true then (D p).b r - (D p).a r (s p) * y else 0) := by
      by_cases c1 : r = s p
      · rw [c1, zs, P.sB]; simp; grind
      · rw [if_neg c1]
        cases e : (D p).B r with
        | true => rw [zb r hr e]; simp; grind
        | false => rw [zo r hr e c1]; simp; grind
    rw [this]
  -- so a term is below 0
  have e1 := eq 1
  have e0 := eq 0
  have k0 : sm N (fun r => (D q).c r * (if (D p).B r = true then (D p).b r else 0)) = 0 := by
    have h1 : sm N (fun r => (D q).c r * (if (D p).B r = true then (D p).b r else 0)) = sm N (fun r => (D q).c r * ((if r = s p then 0 else 0) + (if (D p).B r = true then (D p).b r - (D p).a r (s p) * 0 else 0))) := by
      refine sm_congr (fun r hr => ?_)
      cases (D p).B r <;> simp <;> grind
    rw [h1, ← e0]; grind
  have k1 : (D p).c (s p) = (D q).c (s p) + sm N (fun r => (D q).c r * (if (D p).B r = true then - (D p).a r (s p) else 0)) := by
    have h1 : sm N (fun r => (D q).c r * ((if r = s p then 1 else 0) + (if (D p).B r = true then (D p).b r - (D p).a r (s p) * 1 else 0))) = sm N (fun r => (if r = s p then (D q).c r else 0) + ((D q).c r * (if (D p).B r = true then (D p).b r else 0) + (D q).c r * (if (D p).B r = true then - (D p).a r (s p) else 0))) := by
      refine sm_congr (fun r hr => ?_)
      by_cases c1 : r = s p
      · rw [if_pos c1, if_pos c1]; cases (D p).B r <;> simp <;> grind
      · rw [if_neg c1, if_neg c1]; cases (D p).B r <;> simp <;> grind
    rw [h1, sm_add, sm_add, k0, sm_single (s := s p) P.sN (fun r _ hn => if_neg hn), if_pos rfl] at e1
    grind
  have cq : (D q).c (s p) ≤ 0 := Q.least (s p) (by rw [sq]; exact sm') P.sE
  have neg : sm N (fun r => - ((D q).c r * (if (D p).B r = true then - (D p).a r (s p) else 0))) < 0 := by
    have h1 : sm N (fun r => - ((D q).c r * (if (D p).B r = true then - (D p).a r (s p) else 0))) = - sm N (fun r => ((D q).c r * (if (D p).B r = true then - (D p).a r (s p) else 0))) := by
      rw [show (fun r => - ((D q).c r * (if (D p).B r = true then - (D p).a r (s p) else 0))) = (fun r => (-1) * ((D q).c r * (if (D p).B r = true then - (D p).a r (s p) else 0))) from funext fun r => by grind, sm_mul]; grind
    rw [h1]
    have := P.cs
    grind
  obtain ⟨r, rN, hr⟩ := sm_neg neg
  have rB : (D p).B r = true := by
    cases e : (D p).B r with
    | true => rfl
    | false => rw [e] at hr; simp at hr
  have hr2 : (D q).c r * (D p).a r (s p) < 0 := by rw [if_pos rB] at hr; grind
  have rq : (D q).B r = false := by
    cases e : (D q).B r with
    | false => rfl
    | true => rw [(D q).c0 r e] at hr2; grind
  have fr : Fk r := ⟨⟨p, px, by omega, rB⟩, ⟨q, qx, by omega, rq⟩⟩
  have rm := mx r rN fr
  have rne : r ≠ m := fun e => by
    subst e
    have h1 := P.ats
    have h2 := Q.cs
    rw [tp] at h1
    rw [sq] at h2
    have := Rat.mul_pos h2 h1
    grind
  -- r came in somewhere, so it may come in
  have rE : E r := by
    obtain ⟨⟨u1, v1, w1, z1⟩, ⟨u2, v2, w2, z2⟩⟩ := fr
    obtain ⟨_, ⟨k, kx, ky, ka, kb⟩⟩ := falls (g := fun k => (D k).B r) (hB r rN) v1 w1 v2 w2 z1 z2
    have K := R.step k (by omega)
    have h1 := K.B' r
    have h2 : (D (k + 1)).B r = true := kb
    have h3 : (D k).B r = false := ka
    rw [h2, h3] at h1
    by_cases c1 : r = s k
    · rw [c1]; exact K.sE
    · rw [if_neg c1] at h1
      by_cases c2 : r = t k
      · rw [if_pos c2] at h1; exact Bool.noConfusion h1
      · rw [if_neg c2] at h1; exact Bool.noConfusion h1
  have cr : (D q).c r ≤ 0 := Q.least r (by rw [sq]; omega) rE
  have ar : 0 < (D p).a r (s p) := by
    apply Classical.byContradiction
    intro h
    have h1 : (D p).a r (s p) ≤ 0 := by grind
    have h2 : 0 ≤ (-(D q).c r) * (-(D p).a r (s p)) := Rat.mul_nonneg (by grind) (by grind)
    grind
  -- its place is 0 at D p, as at D q
  have br : (D p).b r = 0 := by
    have h1 := still p px (by omega) r rN
    have h2 := still q qx (by omega) r rN
    unfold Dict.val at h1 h2
    rw [if_pos rB] at h1
    rw [rq] at h2
    simp at h2
    grind
  have bt := z0 p px (by omega)
  have := P.tie r rN rB ar (by rw [bt, br]; grind)
  rw [tp] at this
  omega

/-! ### So it ends -/
theorem inj_le : ∀ (M n : Nat) (g : Nat → Nat), (∀ i, i < n → g i < M) → (∀ i j, i < j → j < n → g i ≠ g j) → n ≤ M
  | 0, n, g, h, _ => by
    cases n with
    | zero => omega
    | succ n => have := h 0 (by omega); omega
  | M + 1, n, g, h, d => by
    by_cases c : ∃ k, k < n ∧ g k = M
    · obtain ⟨k, hk, e⟩ := c
      have := inj_le M (n - 1) (fun i => if i < k then g i else g (i + 1)) (fun i hi => by
        show (if i < k then g i else g (i + 1)) < M
        split
        · rename_i q
          have h1 := h i (by omega)
          have h2 := d i k q hk
          omega
        · rename_i q
          have h1 := h (i + 1) (by omega)
          have h2 := d k (i + 1) (by omega) (by omega)
          omega) (fun i j hij hj => by
        show (if i < k then g i else g (i + 1)) ≠ (if j < k then g j else g (j + 1))
        split <;> split
        · exact d i j hij (by omega)
        · exact d i (j + 1) (by omega) (by omega)
        · omega
        · exact d (i + 1) (j + 1) (by omega) (by omega))
      omega
    · have := inj_le M n g (fun i hi => by
        have h1 := h i hi
        have h2 : g i ≠ M := fun e => c ⟨i, hi, e⟩
        omega) d
      omega

/-- a row of truths as a number -/
def code (B : Nat → Bool) : Nat → Nat
  | 0 => 0
  | n + 1 => code B n + (if B n = true then 2 ^ n else 0)
theorem code_lt (B : Nat → Bool) : ∀ n, code B n < 2 ^ n
  | 0 => by show 0 < 1; omega
  | n + 1 => by
    have := code_lt B n
    show code B n + (if B n = true then 2 ^ n else 0) < 2 ^ (n + 1)
    rw [Nat.pow_succ]
    split <;> omega
theorem code_inj {B C : Nat → Bool} : ∀ {n}, code B n = code C n → ∀ i, i < n → B i = C i
  | 0, _, i, h => absurd h (by omega)
  | n + 1, e, i, h => by
    have h1 := code_lt B n
    have h2 := code_lt C n
    have e' : code B n + (if B n = true then 2 ^ n else 0) = code C n + (if C n = true then 2 ^ n else 0) := e
    have : B n = C n ∧ code B n = code C n := by
      cases hb : B n <;> cases hc : C n <;> simp [hb, hc] at e' ⊢ <;> omega
    by_cases c : i = n
    · rw [c]; exact this.1
    · exact code_inj this.2 i (by omega)

theorem Run.short (R : Run E D s t n) : n + 1 ≤ 2 ^ N :=
  inj_le (2 ^ N) (n + 1) (fun k => code (D k).B N) (fun k _ => code_lt _ _) (fun i j hij hj e =>
    no_return R hij (by omega) (code_inj e))

/-! ### What it ends with -/
/-- nobody who may come in adds anything: no point at 0 or above (who may not come in at 0) has more -/
theorem best (D : Dict N S f) (h : ∀ j, j < N → E j → D.c j ≤ 0) {z : Asg} (hz : S z) (z0 : ∀ j, j < N → 0 ≤ z j) (zE : ∀ j, j < N → ¬ E j → D.B j = false → z j = 0) : f z ≤ D.v := by
  rw [D.obj z hz]
  have : sm N (fun j => D.c j * z j) ≤ sm N (fun _ => 0) := sm_le (fun j hj => by
    by_cases c : E j
    · have h1 : D.c j * z j ≤ 0 * z j := Rat.mul_le_mul_of_nonneg_right (h j hj c) (z0 j hj)
      grind
    · cases e : D.B j with
      | true => rw [D.c0 j e]; grind
      | false => rw [zE j hj c e]; grind)
  rw [sm_zero] at this
  grind

/-- who adds something and is stopped by nobody: as much as one likes -/
theorem unbounded (D : Dict N S f) (F : D.Feas) {s : Nat} (sN : s < N) (sB : D.B s = false) (cs : 0 < D.c s) (h : ∀ i, i < N → D.B i = true → D.a i s ≤ 0) (M : Rat) :
    ∃ z, S z ∧ (∀ j, j < N → 0 ≤ z j) ∧ M < f z := by
  have hne : D.c s ≠ 0 := by grind
  obtain ⟨y, hy0, hy⟩ : ∃ y : Rat, 0 ≤ y ∧ M < D.v + D.c s * y := by
    rcases (Rat.le_total : M + 1 ≤ D.v ∨ D.v ≤ M + 1) with q | q
    · exact ⟨0, by grind, by grind⟩
    · refine ⟨(M + 1 - D.v) / D.c s, ?_, ?_⟩
      · refine pos_of_mul cs ?_
        rw [Rat.div_mul_cancel hne]; grind
      · have : D.c s * ((M + 1 - D.v) / D.c s) = M + 1 - D.v := by
          rw [Rat.mul_comm, Rat.div_mul_cancel hne]
        rw [this]; grind
  obtain ⟨z, hz, zs, zo, zb, zf⟩ := along D sN sB y
  refine ⟨z, hz, fun j hj => ?_, by rw [zf]; exact hy⟩
  cases e : D.B j with
  | true =>
    rw [zb j hj e]
    have h1 : D.a j s * y ≤ 0 * y := Rat.mul_le_mul_of_nonneg_right (h j hj e) hy0
    have h2 := F j hj e
    grind
  | false =>
    by_cases c : j = s
    · rw [c, zs]; exact hy0
    · rw [zo j hj e c]; grind

/-- the dictionary's own point, at 0 or above -/
theorem attained (D : Dict N S f) (F : D.Feas) : ∃ z, S z ∧ (∀ j, j < N → 0 ≤ z j) ∧ (∀ j, j < N → z j = D.val j) ∧ f z = D.v := by
  obtain ⟨z, hz, h1, h2⟩ := point D
  refine ⟨z, hz, fun j hj => ?_, h1, h2⟩
  rw [h1 j hj]
  unfold Dict.val
  cases e : D.B j with
  | true => rw [if_pos rfl]; exact F j hj e
  | false => simp

end Bl
end
section
/-! The specification's fractions as rational numbers. -/
namespace FrV
open Kp340

def val (x : Fr) : Rat := (x.1 : Rat) / (x.2 : Rat)
def Good (x : Fr) : Prop := 0 < x.2 ∧ Nat.gcd x.1.natAbs x.2.natAbs = 1

theorem ofInt_ne {b : Int} (h : b ≠ 0) : (b : Rat) ≠ 0 := by
  intro e
  exact h (Rat.intCast_inj.mp (by rw [e]; rfl))

theorem frac_eq {a b c d : Int} (hb : b ≠ 0) (hd : d ≠ 0) (h : a * d = c * b) : (a : Rat) / (b : Rat) = (c : Rat) / (d : Rat) := by
  have h1 := ofInt_ne hb
  have h2 := ofInt_ne hd
  have h3 : (a : Rat) * (d : Rat) = (c : Rat) * (b : Rat) := by
    rw [← Rat.intCast_mul, ← Rat.intCast_mul, h]
  grind

theorem fr_spec (a b : Int) (hb : b ≠ 0) : Good (fr a b) ∧ val (fr a b) = (a : Rat) / (b : Rat) := by
  have hg : Nat.gcd a.natAbs b.natAbs ≠ 0 := by
    intro e
    have := (Nat.gcd_eq_zero_iff.mp e).2
    omega
  have hg' : (Nat.gcd a.natAbs b.natAbs : Int) ≠ 0 := by omega
  obtain ⟨u, hu⟩ : (Nat.gcd a.natAbs b.natAbs : Int) ∣ a := Int.ofNat_dvd_left.mpr (Nat.gcd_dvd_left _ _)
  obtain ⟨w, hw⟩ : (Nat.gcd a.natAbs b.natAbs : Int) ∣ b := Int.ofNat_dvd_left.mpr (Nat.gcd_dvd_right _ _)
  have cop : Nat.gcd u.natAbs w.natAbs = 1 := by
    have h1 : a.natAbs = Nat.gcd a.natAbs b.natAbs * u.natAbs := by
      conv => lhs; rw [hu]
      rw [Int.natAbs_mul]; rfl
    have h2 : b.natAbs = Nat.gcd a.natAbs b.natAbs * w.natAbs := by
      conv => lhs; rw [hw]
      rw [Int.natAbs_mul]; rfl
    have h3 : Nat.gcd a.natAbs b.natAbs = Nat.gcd a.natAbs b.natAbs * Nat.gcd u.natAbs w.natAbs := by
      have q := congr (congrArg Nat.gcd h1) h2
      rw [Nat.gcd_mul_left] at q
      exact q
    have h4 : Nat.gcd a.natAbs b.natAbs * 1 = Nat.gcd a.natAbs b.natAbs * Nat.gcd u.natAbs w.natAbs := by omega
    exact (Nat.eq_of_mul_eq_mul_left (Nat.pos_of_ne_zero hg) h4).symm
  have w0 : w ≠ 0 := fun e => by rw [e] at hw; omega
  have gpos : (0 : Int) < (Nat.gcd a.natAbs b.natAbs : Int) := by omega
  by_cases neg : b < 0
  · have e : fr a b = (-u, -w) := by
      unfold fr
      simp only [hg, if_false, neg, if_true]
      have e1 : -a / (Nat.gcd a.natAbs b.natAbs : Int) = -u := by
        conv => lhs; lhs; rw [hu]
        rw [show -((Nat.gcd a.natAbs b.natAbs : Int) * u) = (Nat.gcd a.natAbs b.natAbs : Int) * (-u) by grind, Int.mul_ediv_cancel_left _ hg']
      have e2 : -b / (Nat.gcd a.natAbs b.natAbs : Int) = -w := by
        conv => lhs; lhs; rw [hw]
        rw [show -((Nat.gcd a.natAbs b.natAbs : Int) * w) = (Nat.gcd a.natAbs b.natAbs : Int) * (-w) by grind, Int.mul_ediv_cancel_left _ hg']
      rw [e1, e2]
    rw [e]
    have wn : w < 0 := by
      apply Classical.byContradiction
      intro h
      have : 0 ≤ (Nat.gcd a.natAbs b.natAbs : Int) * w := Int.mul_nonneg (by omega) (by omega)
      omega
    refine ⟨⟨by show 0 < -w; omega, by show Nat.gcd (-u).natAbs (-w).natAbs = 1; rw [Int.natAbs_neg, Int.natAbs_neg]; exact cop⟩, ?_⟩
    show ((-u : Int) : Rat) / ((-w : Int) : Rat) = _
    refine frac_eq (by omega) hb ?_
    conv => lhs; rw [hw]
    conv => rhs; rw [hu]
    grind
  · have e : fr a b = (u, w) := by
      unfold fr
      simp only [hg, if_false, neg]
      have e1 : a / (Nat.gcd a.natAbs b.natAbs : Int) = u := by
        conv => lhs; lhs; rw [hu]
        rw [Int.mul_ediv_cancel_left _ hg']
      have e2 : b / (Nat.gcd a.natAbs b.natAbs : Int) = w := by
        conv => lhs; lhs; rw [hw]
        rw [Int.mul_ediv_cancel_left _ hg']
      rw [e1, e2]
    rw [e]
    have wp : 0 < w := by
      apply Classical.byContradiction
      intro h
      have : (Nat.gcd a.natAbs b.natAbs : Int) * w ≤ (Nat.gcd a.natAbs b.natAbs : Int) * 0 := Int.mul_le_mul_of_nonneg_left (by omega) (by omega)
      omega
    refine ⟨⟨wp, cop⟩, ?_⟩
    show ((u : Int) : Rat) / ((w : Int) : Rat) = _
    refine frac_eq (by omega) hb ?_
    conv => lhs; rw [hw]
    conv => rhs; rw [hu]
    grind

theorem good_inj {x y : Fr} (hx : Good x) (hy : Good y) (h : val x = val y) : x = y := by
  obtain ⟨a, b⟩ := x
  obtain ⟨c, d⟩ := y
  obtain ⟨hb, gb⟩ := hx
  obtain ⟨hd, gd⟩ := hy
  simp only at hb gb hd gd
  have h1 := ofInt_ne (show b ≠ 0 by omega)
  have h2 := ofInt_ne (show d ≠ 0 by omega)
  have h3 : (a : Rat) * (d : Rat) = (c : Rat) * (b : Rat) := by
    have e : (a : Rat) / (b : Rat) = (c : Rat) / (d : Rat) := h
    grind
  have h4 : a * d = c * b := by
    rw [← Rat.intCast_mul, ← Rat.intCast_mul] at h3
    exact Rat.intCast_inj.mp h3
  have h5 : a.natAbs * d.natAbs = c.natAbs * b.natAbs := by
    rw [← Int.natAbs_mul, ← Int.natAbs_mul, h4]
  have d1 : b.natAbs ∣ d.natAbs := by
    have : b.natAbs ∣ a.natAbs * d.natAbs := ⟨c.natAbs, by rw [h5, Nat.mul_comm]⟩
    exact Nat.Coprime.dvd_of_dvd_mul_left (k := b.natAbs) (m := a.natAbs) (n := d.natAbs) (by rw [Nat.coprime_comm]; exact gb) this
  have d2 : d.natAbs ∣ b.natAbs := by
    have : d.natAbs ∣ c.natAbs * b.natAbs := ⟨a.natAbs, by rw [← h5, Nat.mul_comm]⟩
    exact Nat.Coprime.dvd_of_dvd_mul_left (k := d.natAbs) (m := c.natAbs) (n := b.natAbs) (by rw [Nat.coprime_comm]; exact gd) this
  have e1 : b.natAbs = d.natAbs := Nat.dvd_antisymm d1 d2
  have e2 : b = d := by omega
  subst e2
  have e3 : a = c := Int.eq_of_mul_eq_mul_right (by omega) h4
  rw [e3]

theorem val_zero : val (0, 1) = 0 := by unfold val; simp; grind
theorem val_one : val (1, 1) = 1 := by unfold val; simp; grind
theorem good_zero : Good (0, 1) := ⟨by decide, by decide⟩
theorem good_one : Good (1, 1) := ⟨by decide, by decide⟩

theorem add_spec {x y : Fr} (hx : Good x) (hy : Good y) : Good (add x y) ∧ val (add x y) = val x + val y := by
  have hx0 : x.2 ≠ 0 := by have := hx.1; omega
  have hy0 : y.2 ≠ 0 := by have := hy.1; omega
  obtain ⟨g, e⟩ := fr_spec (x.1 * y.2 + y.1 * x.2) (x.2 * y.2) (Int.mul_ne_zero hx0 hy0)
  refine ⟨g, e.trans ?_⟩
  unfold val
  rw [Rat.intCast_add, Rat.intCast_mul, Rat.intCast_mul, Rat.intCast_mul]
  have h1 := ofInt_ne hx0
  have h2 := ofInt_ne hy0
  grind
theorem mul_spec {x y : Fr} (hx : Good x) (hy : Good y) : Good (mul x y) ∧ val (mul x y) = val x * val y := by
  have hx0 : x.2 ≠ 0 := by have := hx.1; omega
  have hy0 : y.2 ≠ 0 := by have := hy.1; omega
  obtain ⟨g, e⟩ := fr_spec (x.1 * y.1) (x.2 * y.2) (Int.mul_ne_zero hx0 hy0)
  refine ⟨g, e.trans ?_⟩
  unfold val
  rw [Rat.intCast_mul, Rat.intCast_mul]
  have h1 := ofInt_ne hx0
  have h2 := ofInt_ne hy0
  grind
theorem neg_spec {x : Fr} (hx : Good x) : Good (neg x) ∧ val (neg x) = - val x := by
  refine ⟨⟨hx.1, by show Nat.gcd (-x.1).natAbs _ = 1; rw [Int.natAbs_neg]; exact hx.2⟩, ?_⟩
  unfold val neg
  show ((-x.1 : Int) : Rat) / _ = _
  rw [Rat.intCast_neg]
  grind
theorem sub_spec {x y : Fr} (hx : Good x) (hy : Good y) : Good (Kp353.sub x y) ∧ val (Kp353.sub x y) = val x - val y := by
  obtain ⟨g1, e1⟩ := neg_spec hy
  obtain ⟨g2, e2⟩ := add_spec hx g1
  refine ⟨g2, ?_⟩
  show val (add x (neg y)) = _
  rw [e2, e1]; grind
theorem inv_spec {x : Fr} (h : x.1 ≠ 0) : Good (Kp352.inv x) ∧ val (Kp352.inv x) = (val x)⁻¹ := by
  obtain ⟨g, e⟩ := fr_spec x.2 x.1 h
  refine ⟨g, e.trans ?_⟩
  unfold val
  grind

theorem val_nonneg {x : Fr} (hx : Good x) : 0 ≤ val x ↔ 0 ≤ x.1 := by
  have h0 : (0 : Rat) < (x.2 : Rat) := by
    have := hx.1
    exact Rat.intCast_pos.mpr this
  have h1 : val x * (x.2 : Rat) = (x.1 : Rat) := by unfold val; exact Rat.div_mul_cancel (by grind)
  constructor
  · intro h
    have h2 : 0 ≤ val x * (x.2 : Rat) := Rat.mul_nonneg h (Rat.le_of_lt h0)
    rw [h1] at h2
    exact Rat.intCast_nonneg.mp h2
  · intro h
    have h2 : (0 : Rat) ≤ (x.1 : Rat) := Rat.intCast_nonneg.mpr h
    rw [← h1] at h2
    rcases (Rat.le_total : 0 ≤ val x ∨ val x ≤ 0) with q | q
    · exact q
    · have h3 : val x * (x.2 : Rat) ≤ 0 * (x.2 : Rat) := Rat.mul_le_mul_of_nonneg_right q (Rat.le_of_lt h0)
      have h4 : val x * (x.2 : Rat) = 0 := by grind
      rcases Rat.mul_eq_zero.mp h4 with e | e <;> grind
theorem val_eq_zero {x : Fr} (hx : Good x) : val x = 0 ↔ x.1 = 0 := by
  have h0 : (x.2 : Rat) ≠ 0 := ofInt_ne (by have := hx.1; omega)
  have h1 : val x * (x.2 : Rat) = (x.1 : Rat) := by unfold val; exact Rat.div_mul_cancel h0
  constructor
  · intro h
    rw [h] at h1
    exact Rat.intCast_inj.mp (by rw [← h1]; simp)
  · intro h
    unfold val
    rw [h]; simp; grind
theorem val_pos {x : Fr} (hx : Good x) : 0 < val x ↔ 0 < x.1 := by
  have h1 := val_nonneg hx
  have h2 := val_eq_zero hx
  constructor
  · intro h
    have h3 := h1.mp (Rat.le_of_lt h)
    have h4 : x.1 ≠ 0 := fun e => by have := h2.mpr e; grind
    omega
  · intro h
    have h3 := h1.mpr (by omega)
    have h4 : val x ≠ 0 := fun e => by have := h2.mp e; omega
    grind
theorem pos_iff {x : Fr} (hx : Good x) : Kp353.pos x = true ↔ 0 < val x := by
  rw [val_pos hx]; unfold Kp353.pos; simp
theorem ltF_iff {x y : Fr} (hx : Good x) (hy : Good y) : Kp353.ltF x y = true ↔ val x < val y := by
  have hx0 : (0 : Rat) < (x.2 : Rat) := Rat.intCast_pos.mpr hx.1
  have hy0 : (0 : Rat) < (y.2 : Rat) := Rat.intCast_pos.mpr hy.1
  obtain ⟨g, e⟩ := sub_spec hy hx
  have h1 : val x * (x.2 : Rat) = (x.1 : Rat) := by unfold val; exact Rat.div_mul_cancel (by grind)
  have h2 : val y * (y.2 : Rat) = (y.1 : Rat) := by unfold val; exact Rat.div_mul_cancel (by grind)
  have hp : (0 : Rat) < (x.2 : Rat) * (y.2 : Rat) := Rat.mul_pos hx0 hy0
  have key : ((y.1 * x.2 - x.1 * y.2 : Int) : Rat) = (val y - val x) * ((x.2 : Rat) * (y.2 : Rat)) := by
    rw [Rat.intCast_sub, Rat.intCast_mul, Rat.intCast_mul, ← h1, ← h2]; grind
  unfold Kp353.ltF
  rw [decide_eq_true_iff]
  constructor
  · intro h
    have h3 : (0 : Rat) < ((y.1 * x.2 - x.1 * y.2 : Int) : Rat) := Rat.intCast_pos.mpr (by omega)
    rw [key] at h3
    rcases (Rat.le_total : val x ≤ val y ∨ val y ≤ val x) with q | q
    · have : val x ≠ val y := fun e => by rw [e] at h3; grind
      grind
    · have h4 : (val y - val x) * ((x.2 : Rat) * (y.2 : Rat)) ≤ 0 * ((x.2 : Rat) * (y.2 : Rat)) := Rat.mul_le_mul_of_nonneg_right (by grind) (Rat.le_of_lt hp)
      grind
  · intro h
    have h3 : 0 < (val y - val x) * ((x.2 : Rat) * (y.2 : Rat)) := Rat.mul_pos (by grind) hp
    rw [← key] at h3
    have := Rat.intCast_pos.mp h3
    omega
theorem beq_iff {x y : Fr} (hx : Good x) (hy : Good y) : (x == y) = true ↔ val x = val y := by
  constructor
  · intro h
    have : x = y := by simpa using h
    rw [this]
  · intro h
    have : x = y := good_inj hx hy h
    simp [this]

end FrV
end
section
/-! The specification's sheets are dictionaries; what solve ends with is the greatest sum. -/
namespace Sh
open Kp340 Kp353 Bl FrV

/-! ### Sums by another numbering, looking up -/
theorem sm_image : ∀ {W N : Nat} {o : Nat → Nat} {h : Nat → Rat}, (∀ j, j < W → o j < N) → (∀ i j, i < W → j < W → o i = o j → i = j) →
    (∀ v, v < N → (∀ j, j < W → o j ≠ v) → h v = 0) → sm N h = sm W (fun j => h (o j))
  | 0, N, o, h, _, _, k => sm_zero' (fun v hv => k v hv (fun j hj => absurd hj (by omega)))
  | W + 1, N, o, h, lt, inj, k => by
    rw [sm_take (s := o W) (lt W (by omega))]
    have ih := sm_image (W := W) (N := N) (o := o) (h := fun v => if v = o W then 0 else h v) (fun j hj => lt j (by omega)) (fun i j hi hj e => inj i j (by omega) (by omega) e) (fun v hv q => by
      by_cases e : v = o W
      · exact if_pos e
      · refine (if_neg e).trans (k v hv (fun j hj => ?_))
        by_cases e2 : j = W
        · rw [e2]; exact fun q2 => e q2.symm
        · exact q j (by omega))
    rw [ih]
    have e2 : sm W (fun j => (fun v => if v = o W then 0 else h v) (o j)) = sm W (fun j => h (o j)) := sm_congr (fun j hj => if_neg (fun e => by
      have := inj j W (by omega) (by omega) e
      omega))
    rw [e2]
    show _ = sm W (fun j => h (o j)) + h (o W)
    grind

def look (g : Nat → Nat) (v : Nat) : Nat → Option Nat
  | 0 => none
  | n + 1 => if g n = v then some n else look g v n
theorem look_some {g : Nat → Nat} {v j : Nat} : ∀ {n : Nat}, look g v n = some j → j < n ∧ g j = v
  | 0, h => by simp [look] at h
  | n + 1, h => by
    unfold look at h
    by_cases c : g n = v
    · rw [if_pos c] at h
      have := Option.some.inj h
      subst this
      exact ⟨by omega, c⟩
    · rw [if_neg c] at h
      have := look_some h
      exact ⟨by omega, this.2⟩
theorem look_none {g : Nat → Nat} {v : Nat} : ∀ {n : Nat}, look g v n = none → ∀ j, j < n → g j ≠ v
  | 0, _, j, hj => absurd hj (by omega)
  | n + 1, h, j, hj => by
    unfold look at h
    by_cases c : g n = v
    · rw [if_pos c] at h; simp at h
    · rw [if_neg c] at h
      by_cases e : j = n
      · rw [e]; exact c
      · exact look_none h j (by omega)
theorem look_at {g : Nat → Nat} {n j : Nat} (inj : ∀ i j, i < n → j < n → g i = g j → i = j) (hj : j < n) : look g (g j) n = some j := by
  cases e : look g (g j) n with
  | none => exact absurd rfl (look_none e j hj)
  | some k =>
    obtain ⟨h1, h2⟩ := look_some e
    rw [inj k j h1 hj h2]
theorem look_out {g : Nat → Nat} {n v : Nat} (h : ∀ j, j < n → g j ≠ v) : look g v n = none := by
  cases e : look g v n with
  | none => rfl
  | some k =>
    obtain ⟨h1, h2⟩ := look_some e
    exact absurd h2 (h k h1)

/-! ### A sheet's parts -/
def L (s : Sheet) (i : Nat) : Line := s.lines.getD i ⟨0, (0, 1), []⟩
def o (s : Sheet) (j : Nat) : Nat := s.others.getD j 0
def w (s : Sheet) (i : Nat) : Nat := (L s i).who
def r (s : Sheet) (i : Nat) : Rat := val (L s i).rest
def cF (s : Sheet) (i j : Nat) : Fr := (L s i).coefs.getD j (0, 1)
def cf (s : Sheet) (i j : Nat) : Rat := val (cF s i j)
def aF (s : Sheet) (j : Nat) : Fr := s.adds.getD j (0, 1)
def ad (s : Sheet) (j : Nat) : Rat := val (aF s j)

structure Ok (W M : Nat) (S : Asg → Prop) (f : Asg → Rat) (s : Sheet) : Prop where
  ol : s.others.length = W
  ll : s.lines.length = M
  al : s.adds.length = W
  cl : ∀ i, i < M → (L s i).coefs.length = W
  gr : ∀ i, i < M → Good (L s i).rest
  gc : ∀ i, i < M → ∀ j, j < W → Good (cF s i j)
  ga : ∀ j, j < W → Good (aF s j)
  gs : Good s.sum
  oN : ∀ j, j < W → o s j < W + M
  wN : ∀ i, i < M → w s i < W + M
  oo : ∀ i j, i < W → j < W → o s i = o s j → i = j
  ww : ∀ i j, i < M → j < M → w s i = w s j → i = j
  ow : ∀ j i, j < W → i < M → o s j ≠ w s i
  cov : ∀ v, v < W + M → (∀ j, j < W → o s j ≠ v) → ∃ i, i < M ∧ w s i = v
  row : ∀ z, S z → ∀ i, i < M → z (w s i) = r s i - sm W (fun j => cf s i j * z (o s j))
  obj : ∀ z, S z → f z = val s.sum + sm W (fun j => ad s j * z (o s j))
  ex : ∀ t : Nat → Rat, ∃ z, S z ∧ ∀ j, j < W → z (o s j) = t j

variable {W M : Nat} {S : Asg → Prop} {f : Asg → Rat} {s : Sheet}

def dB (W : Nat) (s : Sheet) (v : Nat) : Bool := (look (o s) v W).isNone
def db (M : Nat) (s : Sheet) (v : Nat) : Rat := match look (w s) v M with
  | some i => r s i
  | none => 0
def dc (W : Nat) (s : Sheet) (v : Nat) : Rat := match look (o s) v W with
  | some j => ad s j
  | none => 0
def da (W M : Nat) (s : Sheet) (u v : Nat) : Rat := match look (w s) u M with
  | some i => (match look (o s) v W with
    | some j => cf s i j
    | none => 0)
  | none => 0

theorem dB_o (h : Ok W M S f s) {j : Nat} (hj : j < W) : dB W s (o s j) = false := by
  unfold dB; rw [look_at h.oo hj]; rfl
theorem dB_w (h : Ok W M S f s) {i : Nat} (hi : i < M) : dB W s (w s i) = true := by
  unfold dB; rw [look_out (fun j hj => h.ow j i hj hi)]; rfl
theorem dB_true (h : Ok W M S f s) {v : Nat} (hv : v < W + M) (e : dB W s v = true) : ∃ i, i < M ∧ w s i = v := by
  unfold dB at e
  exact h.cov v hv (look_none (Option.isNone_iff_eq_none.mp e))
theorem dB_false {v : Nat} (e : dB W s v = false) : ∃ j, j < W ∧ o s j = v := by
  unfold dB at e
  cases q : look (o s) v W with
  | none => rw [q] at e; exact Bool.noConfusion e
  | some j => exact ⟨j, look_some q⟩
theorem db_w (h : Ok W M S f s) {i : Nat} (hi : i < M) : db M s (w s i) = r s i := by
  unfold db; rw [look_at h.ww hi]
theorem dc_o (h : Ok W M S f s) {j : Nat} (hj : j < W) : dc W s (o s j) = ad s j := by
  unfold dc; rw [look_at h.oo hj]
theorem da_wo (h : Ok W M S f s) {i j : Nat} (hi : i < M) (hj : j < W) : da W M s (w s i) (o s j) = cf s i j := by
  unfold da; rw [look_at h.ww hi, look_at h.oo hj]
theorem dc_B {v : Nat} (e : dB W s v = true) : dc W s v = 0 := by
  unfold dB at e
  unfold dc; rw [Option.isNone_iff_eq_none.mp e]
theorem da_B {u v : Nat} (e : dB W s v = true) : da W M s u v = 0 := by
  unfold dB at e
  unfold da; rw [Option.isNone_iff_eq_none.mp e]
  cases look (w s) u M <;> rfl

def dict (h : Ok W M S f s) : Dict (W + M) S f where
  B := dB W s
  b := db M s
  a := da W M s
  c := dc W s
  v := val s.sum
  a0 := fun i j e => da_B e
  c0 := fun j e => dc_B e
  row := fun z hz i hi e => by
    obtain ⟨k, hk, e2⟩ := dB_true h hi e
    subst e2
    rw [h.row z hz k hk, db_w h hk, sm_image (o := o s) h.oN h.oo (fun v hv q => ?_)]
    · congr 1
      exact sm_congr (fun j hj => by rw [da_wo h hk hj])
    · rw [da_B (by unfold dB; rw [look_out q]; rfl)]; grind
  obj := fun z hz => by
    rw [h.obj z hz, sm_image (o := o s) (h := fun j => dc W s j * z j) h.oN h.oo (fun v hv q => ?_)]
    · congr 1
      exact sm_congr (fun j hj => by rw [dc_o h hj])
    · rw [dc_B (by unfold dB; rw [look_out q]; rfl)]; grind
  ex := fun t => by
    obtain ⟨z, hz, q⟩ := h.ex (fun j => t (o s j))
    refine ⟨z, hz, fun v _ e => ?_⟩
    obtain ⟨j, hj, e2⟩ := dB_false e
    subst e2
    exact q j hj

/-! ### One turn -/
section
variable (s) (i j : Nat)
/-- the new line's numbers -/
def nC : List Fr := ((L s i).coefs.map fun c => mul (Kp352.inv (cF s i j)) c).set j (Kp352.inv (cF s i j))
def nR : Fr := mul (Kp352.inv (cF s i j)) (L s i).rest
def on (l : List Fr) : List Fr := minus (l.set j (0, 1)) (nC s i j) (l.getD j (0, 1))
theorem turn_def : turn s i j = { others := s.others.set j (w s i), lines := s.lines.zipIdx.map fun y => if y.2 = i then ⟨o s j, nR s i j, nC s i j⟩ else { y.1 with rest := sub y.1.rest (mul (y.1.coefs.getD j (0, 1)) (nR s i j)), coefs := on s i j y.1.coefs }, adds := on s i j s.adds, sum := add s.sum (mul (aF s j) (nR s i j)) } := rfl
end

theorem getD_set {α : Type} (l : List α) (j k : Nat) (x d : α) (hj : j < l.length) : (l.set j x).getD k d = if k = j then x else l.getD k d := by
  rw [List.getD_eq_getElem?_getD, List.getD_eq_getElem?_getD, List.getElem?_set]
  by_cases c : j = k
  · rw [if_pos c, if_pos c.symm]; subst c; rw [if_pos hj]; rfl
  · rw [if_neg c, if_neg (fun e => c e.symm)]
theorem getD_map {α β : Type} (l : List α) (g : α → β) (k : Nat) (d : α) (e : β) (hk : k < l.length) : (l.map g).getD k e = g (l.getD k d) := by
  rw [List.getD_eq_getElem?_getD, List.getD_eq_getElem?_getD, List.getElem?_map, List.getElem?_eq_getElem hk]; rfl
theorem getD_zip {α β γ : Type} (g : α → β → γ) (l : List α) (m : List β) (k : Nat) (a : α) (b : β) (c : γ) (h1 : k < l.length) (h2 : k < m.length) : (List.zipWith g l m).getD k c = g (l.getD k a) (m.getD k b) := by
  rw [List.getD_eq_getElem?_getD, List.getD_eq_getElem?_getD, List.getD_eq_getElem?_getD, List.getElem?_zipWith, List.getElem?_eq_getElem h1, List.getElem?_eq_getElem h2]; rfl
theorem getD_zipIdx {α β : Type} (l : List α) (g : α × Nat → β) (k : Nat) (d : α) (e : β) (hk : k < l.length) : (l.zipIdx.map g).getD k e = g (l.getD k d, k) := by
  rw [List.getD_eq_getElem?_getD, List.getD_eq_getElem?_getD, List.getElem?_map, List.getElem?_zipIdx, List.getElem?_eq_getElem hk]; simp

variable {i j : Nat}

theorem inv_good (h : Ok W M S f s) (hi : i < M) (hj : j < W) (hp : 0 < cf s i j) : Good (Kp352.inv (cF s i j)) ∧ val (Kp352.inv (cF s i j)) * cf s i j = 1 := by
  have g := h.gc i hi j hj
  have h1 := (val_pos g).mp hp
  obtain ⟨g2, e⟩ := inv_spec (x := cF s i j) (by omega)
  refine ⟨g2, ?_⟩
  rw [e]
  have : val (cF s i j) ≠ 0 := by have : 0 < val (cF s i j) := hp; grind
  exact Rat.inv_mul_cancel _ this
theorem nR_spec (h : Ok W M S f s) (hi : i < M) (hj : j < W) (hp : 0 < cf s i j) : Good (nR s i j) ∧ val (nR s i j) = val (Kp352.inv (cF s i j)) * r s i :=
  mul_spec (inv_good h hi hj hp).1 (h.gr i hi)
theorem nC_len (h : Ok W M S f s) (hi : i < M) : (nC s i j).length = W := by
  unfold nC; rw [List.length_set, List.length_map, h.cl i hi]
theorem nC_spec (h : Ok W M S f s) (hi : i < M) (hj : j < W) (hp : 0 < cf s i j) {k : Nat} (hk : k < W) :
    Good ((nC s i j).getD k (0, 1)) ∧ val ((nC s i j).getD k (0, 1)) = if k = j then val (Kp352.inv (cF s i j)) else val (Kp352.inv (cF s i j)) * cf s i k := by
  have gi := (inv_good h hi hj hp).1
  unfold nC
  rw [getD_set _ _ _ _ _ (by rw [List.length_map, h.cl i hi]; exact hj)]
  by_cases c : k = j
  · rw [if_pos c, if_pos c]; exact ⟨gi, rfl⟩
  · rw [if_neg c, if_neg c, getD_map _ _ _ (0, 1) _ (by rw [h.cl i hi]; exact hk)]
    exact mul_spec gi (h.gc i hi k hk)
theorem on_len (h : Ok W M S f s) (hi : i < M) {l : List Fr} (hl : l.length = W) : (on s i j l).length = W := by
  unfold on minus; rw [List.length_zipWith, List.length_set, nC_len h hi, hl]; omega
theorem on_spec (h : Ok W M S f s) (hi : i < M) (hj : j < W) (hp : 0 < cf s i j) {l : List Fr} (hl : l.length = W) (gl : ∀ k, k < W → Good (l.getD k (0, 1))) {k : Nat} (hk : k < W) :
    Good ((on s i j l).getD k (0, 1)) ∧ val ((on s i j l).getD k (0, 1)) = (if k = j then 0 else val (l.getD k (0, 1))) - val (l.getD j (0, 1)) * val ((nC s i j).getD k (0, 1)) := by
  unfold on minus
  rw [getD_zip _ _ _ _ (0, 1) (0, 1) _ (by rw [List.length_set, hl]; exact hk) (by rw [nC_len h hi]; exact hk), getD_set _ _ _ _ _ (by rw [hl]; exact hj)]
  have g1 := nC_spec h hi hj hp hk
  have g2 := mul_spec (gl j hj) g1.1
  by_cases c : k = j
  · rw [if_pos c, if_pos c]
    have g3 := sub_spec good_zero g2.1
    exact ⟨g3.1, by rw [g3.2, g2.2, val_zero]⟩
  · rw [if_neg c, if_neg c]
    have g3 := sub_spec (gl k hk) g2.1
    exact ⟨g3.1, by rw [g3.2, g2.2]⟩

theorem L_turn (h : Ok W M S f s) {k : Nat} (hk : k < M) : L (turn s i j) k = if k = i then ⟨o s j, nR s i j, nC s i j⟩ else { L s k with rest := sub (L s k).rest (mul (cF s k j) (nR s i j)), coefs := on s i j (L s k).coefs } := by
  unfold L
  rw [turn_def]
  show (List.map _ s.lines.zipIdx).getD k _ = _
  rw [getD_zipIdx _ _ _ ⟨0, (0, 1), []⟩ _ (by rw [h.ll]; exact hk)]
  rfl
theorem o_turn (h : Ok W M S f s) (hj : j < W) (k : Nat) : o (turn s i j) k = if k = j then w s i else o s k := by
  unfold o
  rw [turn_def]
  show (s.others.set j (w s i)).getD k 0 = _
  rw [getD_set _ _ _ _ _ (by rw [h.ol]; exact hj)]
theorem w_turn (h : Ok W M S f s) {k : Nat} (hk : k < M) : w (turn s i j) k = if k = i then o s j else w s k := by
  unfold w; rw [L_turn h hk]
  by_cases c : k = i
  · rw [if_pos c, if_pos c]
  · rw [if_neg c, if_neg c]
theorem r_turn (h : Ok W M S f s) (hi : i < M) (hj : j < W) (hp : 0 < cf s i j) {k : Nat} (hk : k < M) : Good (L (turn s i j) k).rest ∧ r (turn s i j) k = if k = i then val (nR s i j) else r s k - cf s k j * val (nR s i j) := by
  unfold r; rw [L_turn h hk]
  have g1 := nR_spec h hi hj hp
  by_cases c : k = i
  · rw [if_pos c, if_pos c]; exact ⟨g1.1, rfl⟩
  · rw [if_neg c, if_neg c]
    have g2 := mul_spec (h.gc k hk j hj) g1.1
    have g3 := sub_spec (h.gr k hk) g2.1
    exact ⟨g3.1, by rw [g3.2, g2.2]; rfl⟩
theorem cf_turn (h : Ok W M S f s) (hi : i < M) (hj : j < W) (hp : 0 < cf s i j) {k : Nat} (hk : k < M) {l : Nat} (hl : l < W) : Good (cF (turn s i j) k l) ∧
    cf (turn s i j) k l = if k = i then val ((nC s i j).getD l (0, 1)) else (if l = j then 0 else cf s k l) - cf s k j * val ((nC s i j).getD l (0, 1)) := by
  unfold cf cF; rw [L_turn h hk]
  by_cases c : k = i
  · rw [if_pos c, if_pos c]; exact ⟨(nC_spec h hi hj hp hl).1, rfl⟩
  · rw [if_neg c, if_neg c]
    exact on_spec h hi hj hp (h.cl k hk) (h.gc k hk) hl
theorem ad_turn (h : Ok W M S f s) (hi : i < M) (hj : j < W) (hp : 0 < cf s i j) {l : Nat} (hl : l < W) : Good (aF (turn s i j) l) ∧
    ad (turn s i j) l = (if l = j then 0 else ad s l) - ad s j * val ((nC s i j).getD l (0, 1)) :=
  on_spec h hi hj hp h.al h.ga hl

/-- the entering one's own line, for every point of the system -/
theorem new_row (h : Ok W M S f s) (hi : i < M) (hj : j < W) (hp : 0 < cf s i j) {z : Asg} (hz : S z) :
    z (o s j) = val (nR s i j) - sm W (fun l => val ((nC s i j).getD l (0, 1)) * z (o (turn s i j) l)) := by
  have e := h.row z hz i hi
  rw [sm_take (s := j) hj] at e
  rw [sm_take (s := j) hj, (nC_spec h hi hj hp hj).2, if_pos rfl, o_turn h hj j, if_pos rfl]
  have e2 : sm W (fun l => if l = j then 0 else val ((nC s i j).getD l (0, 1)) * z (o (turn s i j) l)) = sm W (fun l => val (Kp352.inv (cF s i j)) * (if l = j then 0 else cf s i l * z (o s l))) := sm_congr (fun l hl => by
    by_cases c : l = j
    · rw [if_pos c, if_pos c]; grind
    · rw [if_neg c, if_neg c, (nC_spec h hi hj hp hl).2, if_neg c, o_turn h hj l, if_neg c]; grind)
  rw [e2, sm_mul, (nR_spec h hi hj hp).2]
  have e3 := (inv_good h hi hj hp).2
  have e4 : sm W (fun l => if l = j then 0 else cf s i l * z (o s l)) = r s i - cf s i j * z (o s j) - z (w s i) := by rw [e]; grind
  rw [e4]
  grind

theorem ok_turn (h : Ok W M S f s) (hi : i < M) (hj : j < W) (hp : 0 < cf s i j) : Ok W M S f (turn s i j) where
  ol := by rw [turn_def]; show (s.others.set j (w s i)).length = W; rw [List.length_set, h.ol]
  ll := by rw [turn_def]; show (List.map _ s.lines.zipIdx).length = M; rw [List.length_map, List.length_zipIdx, h.ll]
  al := on_len h hi h.al
  cl := fun k hk => by
    rw [L_turn h hk]
    by_cases c : k = i
    · rw [if_pos c]; exact nC_len h hi
    · rw [if_neg c]; exact on_len h hi (h.cl k hk)
  gr := fun k hk => (r_turn h hi hj hp hk).1
  gc := fun k hk l hl => (cf_turn h hi hj hp hk hl).1
  ga := fun l hl => (ad_turn h hi hj hp hl).1
  gs := (add_spec h.gs (mul_spec (h.ga j hj) (nR_spec h hi hj hp).1).1).1
  oN := fun k hk => by
    rw [o_turn h hj k]
    split
    · exact h.wN i hi
    · exact h.oN k hk
  wN := fun k hk => by
    rw [w_turn h hk]
    split
    · exact h.oN j hj
    · exact h.wN k hk
  oo := fun a b ha hb e => by
    rw [o_turn h hj, o_turn h hj] at e
    by_cases c : a = j <;> by_cases d : b = j
    · omega
    · rw [if_pos c, if_neg d] at e; exact absurd e.symm (h.ow b i hb hi)
    · rw [if_neg c, if_pos d] at e; exact absurd e (h.ow a i ha hi)
    · rw [if_neg c, if_neg d] at e; exact h.oo a b ha hb e
  ww := fun a b ha hb e => by
    rw [w_turn h ha, w_turn h hb] at e
    by_cases c : a = i <;> by_cases d : b = i
    · omega
    · rw [if_pos c, if_neg d] at e; exact absurd e (h.ow j b hj hb)
    · rw [if_neg c, if_pos d] at e; exact absurd e.symm (h.ow j a hj ha)
    · rw [if_neg c, if_neg d] at e; exact h.ww a b ha hb e
  ow := fun a b ha hb e => by
    rw [o_turn h hj, w_turn h hb] at e
    by_cases c : a = j <;> by_cases d : b = i
    · rw [if_pos c, if_pos d] at e; exact h.ow j i hj hi e.symm
    · rw [if_pos c, if_neg d] at e; exact d (h.ww b i hb hi e.symm)
    · rw [if_neg c, if_pos d] at e; exact c (h.oo a j ha hj e)
    · rw [if_neg c, if_neg d] at e; exact h.ow a b ha hb e
  cov := fun v hv q => by
    by_cases c : o s j = v
    · exact ⟨i, hi, by rw [w_turn h hi, if_pos rfl]; exact c⟩
    · obtain ⟨k, hk, e⟩ := h.cov v hv (fun l hl e => by
        by_cases d : l = j
        · rw [d] at e; exact c e
        · exact q l hl (by rw [o_turn h hj, if_neg d]; exact e))
      refine ⟨k, hk, ?_⟩
      rw [w_turn h hk]
      by_cases d : k = i
      · exfalso
        rw [d] at e
        exact q j hj (by rw [o_turn h hj, if_pos rfl]; exact e)
      · rw [if_neg d]; exact e
  row := fun z hz k hk => by
    have nr := new_row h hi hj hp hz
    rw [w_turn h hk, (r_turn h hi hj hp hk).2]
    by_cases c : k = i
    · rw [if_pos c, if_pos c, nr]
      congr 1
      exact sm_congr (fun l hl => by rw [(cf_turn h hi hj hp hk hl).2, if_pos c])
    · rw [if_neg c, if_neg c]
      have e := h.row z hz k hk
      rw [sm_take (s := j) hj] at e
      have e2 : sm W (fun l => cf (turn s i j) k l * z (o (turn s i j) l)) = sm W (fun l => (if l = j then 0 else cf s k l * z (o s l)) + (- cf s k j) * (val ((nC s i j).getD l (0, 1)) * z (o (turn s i j) l))) := sm_congr (fun l hl => by
        rw [(cf_turn h hi hj hp hk hl).2, if_neg c]
        by_cases d : l = j
        · rw [if_pos d, if_pos d]; grind
        · rw [if_neg d, if_neg d, o_turn h hj, if_neg d]; grind)
      rw [e2, sm_add, sm_mul]
      grind
  obj := fun z hz => by
    have nr := new_row h hi hj hp hz
    have e := h.obj z hz
    rw [sm_take (s := j) hj] at e
    have e2 : sm W (fun l => ad (turn s i j) l * z (o (turn s i j) l)) = sm W (fun l => (if l = j then 0 else ad s l * z (o s l)) + (- ad s j) * (val ((nC s i j).getD l (0, 1)) * z (o (turn s i j) l))) := sm_congr (fun l hl => by
      rw [(ad_turn h hi hj hp hl).2]
      by_cases d : l = j
      · rw [if_pos d, if_pos d]; grind
      · rw [if_neg d, if_neg d, o_turn h hj, if_neg d]; grind)
    have g1 := mul_spec (h.ga j hj) (nR_spec h hi hj hp).1
    have e3 : val (turn s i j).sum = val s.sum + ad s j * val (nR s i j) := by
      rw [turn_def]
      show val (add s.sum (mul (aF s j) (nR s i j))) = _
      rw [(add_spec h.gs g1.1).2, g1.2]; rfl
    rw [e2, sm_add, sm_mul, e3]
    grind
  ex := fun t => by
    have hinv := (inv_good h hi hj hp).2
    obtain ⟨y, hy⟩ : ∃ y : Rat, r s i - (cf s i j * y + sm W (fun l => if l = j then 0 else cf s i l * t l)) = t j := by
      refine ⟨val (Kp352.inv (cF s i j)) * (r s i - sm W (fun l => if l = j then 0 else cf s i l * t l) - t j), ?_⟩
      grind
    obtain ⟨z, hz, q⟩ := h.ex (fun l => if l = j then y else t l)
    refine ⟨z, hz, fun l hl => ?_⟩
    rw [o_turn h hj]
    by_cases c : l = j
    · rw [if_pos c, h.row z hz i hi, sm_take (s := j) hj, q j hj, if_pos rfl]
      have e2 : sm W (fun l => if l = j then 0 else cf s i l * z (o s l)) = sm W (fun l => if l = j then 0 else cf s i l * t l) := sm_congr (fun k hk => by
        by_cases d : k = j
        · rw [if_pos d, if_pos d]
        · rw [if_neg d, if_neg d, q k hk, if_neg d])
      rw [e2, hy, c]
    · rw [if_neg c, q l hl, if_neg c]

end Sh
end
section
/-! solve ends with the greatest sum. -/
namespace Sh
open Kp340 Kp353 Bl FrV

/-! ### The best of a row -/
def pick {α : Type} (β : α → α → Bool) (b : Option α) (x : α) : Option α := match b with
  | none => some x
  | some k => if β x k = true then some x else some k

theorem pick_some {α : Type} {β : α → α → Bool} (asy : ∀ x y, β x y = true → β y x = false) (tr : ∀ x k m, β x k = false → β k m = false → β x m = false) :
    ∀ (l : List α) (k : α), ∃ m, l.foldl (pick β) (some k) = some m ∧ (m = k ∨ m ∈ l) ∧ β k m = false ∧ ∀ x ∈ l, β x m = false
  | [], k => ⟨k, rfl, Or.inl rfl, by
      cases e : β k k with
      | false => rfl
      | true => have := asy k k e; rw [e] at this; exact this, fun x hx => absurd hx (by simp)⟩
  | y :: l, k => by
    rw [List.foldl_cons]
    by_cases c : β y k = true
    · obtain ⟨m, e, h1, h2, h3⟩ := pick_some asy tr l y
      have e1 : pick β (some k) y = some y := if_pos c
      refine ⟨m, by rw [e1]; exact e, ?_, tr k y m (asy y k c) h2, fun x hx => ?_⟩
      · rcases h1 with q | q
        · exact Or.inr (by rw [q]; exact List.mem_cons_self)
        · exact Or.inr (List.mem_cons_of_mem _ q)
      · rcases List.mem_cons.mp hx with q | q
        · rw [q]; exact h2
        · exact h3 x q
    · obtain ⟨m, e, h1, h2, h3⟩ := pick_some asy tr l k
      have e1 : pick β (some k) y = some k := if_neg c
      refine ⟨m, by rw [e1]; exact e, ?_, h2, fun x hx => ?_⟩
      · rcases h1 with q | q
        · exact Or.inl q
        · exact Or.inr (List.mem_cons_of_mem _ q)
      · rcases List.mem_cons.mp hx with q | q
        · rw [q]; exact tr y k m (by simpa using c) h2
        · exact h3 x q

theorem pick_best {α : Type} {β : α → α → Bool} (asy : ∀ x y, β x y = true → β y x = false) (tr : ∀ x k m, β x k = false → β k m = false → β x m = false) (l : List α) :
    (l.foldl (pick β) none = none ∧ l = []) ∨ ∃ m, l.foldl (pick β) none = some m ∧ m ∈ l ∧ ∀ x ∈ l, β x m = false := by
  cases l with
  | nil => exact Or.inl ⟨rfl, rfl⟩
  | cons y l =>
    obtain ⟨m, e, h1, h2, h3⟩ := pick_some asy tr l y
    refine Or.inr ⟨m, e, ?_, fun x hx => ?_⟩
    · rcases h1 with q | q
      · rw [q]; exact List.mem_cons_self
      · exact List.mem_cons_of_mem _ q
    · rcases List.mem_cons.mp hx with q | q
      · rw [q]; exact h2
      · exact h3 x q

variable {W M : Nat} {S : Asg → Prop} {f : Asg → Rat} {s : Sheet}

theorem entering_eq (s : Sheet) : entering s = ((List.range s.others.length).filter fun j => pos (s.adds.getD j (0, 1))).foldl (pick fun j k => decide (s.others.getD j 0 < s.others.getD k 0)) none := by
  unfold entering
  congr 1
  funext b j
  cases b with
  | none => rfl
  | some k => simp [pick]

theorem entering_spec (h : Ok W M S f s) : (entering s = none ∧ ∀ j, j < W → ad s j ≤ 0) ∨
    ∃ j, entering s = some j ∧ j < W ∧ 0 < ad s j ∧ ∀ k, k < W → 0 < ad s k → o s j ≤ o s k := by
  rw [entering_eq]
  rcases pick_best (β := fun j k => decide (s.others.getD j 0 < s.others.getD k 0)) (fun x y e => by simp at e ⊢; omega) (fun x k m e1 e2 => by simp at e1 e2 ⊢; omega)
    ((List.range s.others.length).filter fun j => pos (s.adds.getD j (0, 1))) with ⟨e, e2⟩ | ⟨m, e, hm, hx⟩
  · refine Or.inl ⟨e, fun j hj => ?_⟩
    apply Classical.byContradiction
    intro q
    have h1 : j ∈ (List.range s.others.length).filter fun j => pos (s.adds.getD j (0, 1)) := List.mem_filter.mpr ⟨List.mem_range.mpr (by rw [h.ol]; exact hj), (pos_iff (h.ga j hj)).mpr (by
      have : ¬ val (aF s j) ≤ 0 := q
      show 0 < val (aF s j)
      grind)⟩
    rw [e2] at h1; simp at h1
  · obtain ⟨h1, h2⟩ := List.mem_filter.mp hm
    have hm' : m < W := by rw [← h.ol]; exact List.mem_range.mp h1
    refine Or.inr ⟨m, e, hm', (pos_iff (h.ga m hm')).mp h2, fun k hk p => ?_⟩
    have := hx k (List.mem_filter.mpr ⟨List.mem_range.mpr (by rw [h.ol]; exact hk), (pos_iff (h.ga k hk)).mpr p⟩)
    simp at this
    exact this

def ratioF (s : Sheet) (j i : Nat) : Fr := mul (L s i).rest (Kp352.inv (cF s i j))
theorem leaving_eq (s : Sheet) (j : Nat) : Kp353.leaving s j = ((List.range s.lines.length).filter fun i => pos (cF s i j)).foldl (pick fun i k => ltF (ratioF s j i) (ratioF s j k) || (ratioF s j i == ratioF s j k && decide (w s i < w s k))) none := by
  unfold Kp353.leaving
  congr 1
  funext b j
  cases b with
  | none => rfl
  | some k => rfl

theorem ratio_spec (h : Ok W M S f s) {i j : Nat} (hi : i < M) (hj : j < W) (hp : 0 < cf s i j) : Good (ratioF s j i) ∧ val (ratioF s j i) * cf s i j = r s i := by
  have g1 := inv_good h hi hj hp
  have g2 := mul_spec (h.gr i hi) g1.1
  refine ⟨g2.1, ?_⟩
  show val (mul (L s i).rest (Kp352.inv (cF s i j))) * _ = _
  rw [g2.2]
  have : r s i = val (L s i).rest := rfl
  rw [this]
  have := g1.2
  grind

/-- pick over the places that a test lets pass, where the order is one of those alone -/
theorem pick_congr {α : Type} {β γ : α → α → Bool} : ∀ (l : List α) (b : Option α), (∀ x, x ∈ l ∨ b = some x → ∀ y, y ∈ l ∨ b = some y → β x y = γ x y) → l.foldl (pick β) b = l.foldl (pick γ) b
  | [], _, _ => rfl
  | x :: l, b, h => by
    rw [List.foldl_cons, List.foldl_cons]
    have e : pick β b x = pick γ b x := by
      cases b with
      | none => rfl
      | some k =>
        show (if β x k = true then some x else some k) = (if γ x k = true then some x else some k)
        rw [h x (Or.inl List.mem_cons_self) k (Or.inr rfl)]
    rw [e]
    refine pick_congr l _ (fun u hu v hv => ?_)
    have mem : ∀ u, u ∈ l ∨ pick γ b x = some u → u ∈ x :: l ∨ b = some u := by
      intro u hu
      rcases hu with q | q
      · exact Or.inl (List.mem_cons_of_mem _ q)
      · cases b with
        | none => left; rw [Option.some.inj q]; exact List.mem_cons_self
        | some k =>
          unfold pick at q
          simp only at q
          split at q
          · left; rw [Option.some.inj q]; exact List.mem_cons_self
          · right; exact q
    exact h u (mem u hu) v (mem v hv)

theorem leaving_spec (h : Ok W M S f s) {j : Nat} (hj : j < W) : (Kp353.leaving s j = none ∧ ∀ i, i < M → cf s i j ≤ 0) ∨
    ∃ i, Kp353.leaving s j = some i ∧ i < M ∧ 0 < cf s i j ∧ (∀ k, k < M → 0 < cf s k j → r s i * cf s k j ≤ r s k * cf s i j ∧ (r s i * cf s k j = r s k * cf s i j → w s i ≤ w s k)) := by
  rw [leaving_eq]
  have mem : ∀ x, x ∈ (List.range s.lines.length).filter (fun i => pos (cF s i j)) → x < M ∧ 0 < cf s x j := by
    intro x hx
    obtain ⟨h1, h2⟩ := List.mem_filter.mp hx
    have hx' : x < M := by rw [← h.ll]; exact List.mem_range.mp h1
    exact ⟨hx', (pos_iff (h.gc x hx' j hj)).mp h2⟩
  rw [pick_congr (γ := fun i k => decide (val (ratioF s j i) < val (ratioF s j k) ∨ (val (ratioF s j i) = val (ratioF s j k) ∧ w s i < w s k))) _ _ (fun x hx y hy => by
    have hx' := mem x (by rcases hx with q | q; exact q; exact absurd q (by simp))
    have hy' := mem y (by rcases hy with q | q; exact q; exact absurd q (by simp))
    have gx := (ratio_spec h hx'.1 hj hx'.2).1
    have gy := (ratio_spec h hy'.1 hj hy'.2).1
    rw [Bool.eq_iff_iff]
    simp only [Bool.or_eq_true, Bool.and_eq_true, decide_eq_true_iff]
    rw [ltF_iff gx gy, beq_iff gx gy])]
  rcases pick_best (β := fun i k => decide (val (ratioF s j i) < val (ratioF s j k) ∨ (val (ratioF s j i) = val (ratioF s j k) ∧ w s i < w s k))) (fun x y e => by
      simp only [decide_eq_true_iff, decide_eq_false_iff_not] at e ⊢; grind) (fun x k m e1 e2 => by simp only [decide_eq_false_iff_not] at e1 e2 ⊢; grind)
    ((List.range s.lines.length).filter fun i => pos (cF s i j)) with ⟨e, e2⟩ | ⟨m, e, hm, hx⟩
  · refine Or.inl ⟨e, fun i hi => ?_⟩
    apply Classical.byContradiction
    intro q
    have h1 : i ∈ (List.range s.lines.length).filter fun i => pos (cF s i j) := List.mem_filter.mpr ⟨List.mem_range.mpr (by rw [h.ll]; exact hi), (pos_iff (h.gc i hi j hj)).mpr (by
      have : ¬ val (cF s i j) ≤ 0 := q
      show 0 < val (cF s i j)
      grind)⟩
    rw [e2] at h1; simp at h1
  · obtain ⟨hm', hp⟩ := mem m hm
    refine Or.inr ⟨m, e, hm', hp, fun k hk p => ?_⟩
    have := hx k (List.mem_filter.mpr ⟨List.mem_range.mpr (by rw [h.ll]; exact hk), (pos_iff (h.gc k hk j hj)).mpr p⟩)
    simp only [decide_eq_false_iff_not] at this
    have r1 := (ratio_spec h hm' hj hp).2
    have r2 := (ratio_spec h hk hj p).2
    have le : val (ratioF s j m) ≤ val (ratioF s j k) := by grind
    have pp : 0 < cf s m j * cf s k j := Rat.mul_pos hp p
    have e1 : r s m * cf s k j = val (ratioF s j m) * (cf s m j * cf s k j) := by rw [← r1]; grind
    have e2 : r s k * cf s m j = val (ratioF s j k) * (cf s m j * cf s k j) := by rw [← r2]; grind
    rw [e1, e2]
    refine ⟨Rat.mul_le_mul_of_nonneg_right le (Rat.le_of_lt pp), fun q => ?_⟩
    have q2 : (val (ratioF s j m) - val (ratioF s j k)) * (cf s m j * cf s k j) = 0 := by grind
    have q3 : val (ratioF s j m) = val (ratioF s j k) := by
      rcases Rat.mul_eq_zero.mp q2 with e | e <;> grind
    have : ¬ w s k < w s m := fun c => this (Or.inr ⟨q3.symm, c⟩)
    omega

theorem step_of (h : Ok W M S f s) {i j : Nat} (he : entering s = some j) (hl : Kp353.leaving s j = some i) :
    ∃ (h' : Ok W M S f (turn s i j)), Step (fun _ => True) (dict h) (dict h') (o s j) (w s i) := by
  rcases entering_spec h with ⟨e, _⟩ | ⟨j', e, hj, hp, hle⟩
  · rw [e] at he; exact absurd he (by simp)
  rw [e] at he
  obtain rfl : j' = j := Option.some.inj he
  rcases leaving_spec h hj with ⟨e2, _⟩ | ⟨i', e2, hi, hq, hle2⟩
  · rw [e2] at hl; exact absurd hl (by simp)
  rw [e2] at hl
  obtain rfl : i' = i := Option.some.inj hl
  refine ⟨ok_turn h hi hj hq, ?_⟩
  exact {
    sN := h.oN _ hj
    tN := h.wN _ hi
    sE := trivial
    sB := dB_o h hj
    tB := dB_w h hi
    cs := by show 0 < dc W s (o s _); rw [dc_o h hj]; exact hp
    least := fun v hv _ => by
      show dc W s v ≤ 0
      cases e : dB W s v with
      | true => rw [dc_B e]; grind
      | false =>
        obtain ⟨k, hk, q⟩ := dB_false e
        subst q
        rw [dc_o h hk]
        apply Classical.byContradiction
        intro c
        have := hle k hk (by grind)
        omega
    ats := by show 0 < da W M s (w s _) (o s _); rw [da_wo h hi hj]; exact hq
    ratio := fun u hu hb hp => by
      obtain ⟨k, hk, q⟩ := dB_true h hu hb
      subst q
      show db M s (w s _) * da W M s (w s k) (o s _) ≤ db M s (w s k) * da W M s (w s _) (o s _)
      have hp' : 0 < da W M s (w s k) (o s _) := hp
      rw [da_wo h hk hj] at hp'
      rw [db_w h hi, db_w h hk, da_wo h hi hj, da_wo h hk hj]
      exact (hle2 k hk hp').1
    tie := fun u hu hb hp he => by
      obtain ⟨k, hk, q⟩ := dB_true h hu hb
      subst q
      have he' : db M s (w s _) * da W M s (w s k) (o s _) = db M s (w s k) * da W M s (w s _) (o s _) := he
      have hp' : 0 < da W M s (w s k) (o s _) := hp
      rw [da_wo h hk hj] at hp'
      rw [db_w h hi, db_w h hk, da_wo h hi hj, da_wo h hk hj] at he'
      exact (hle2 k hk hp').2 he'
    B' := fun v => by
      show dB W (turn s _ _) v = if v = o s _ then true else if v = w s _ then false else dB W s v
      have h' := ok_turn h hi hj hq
      by_cases c1 : v = o s j'
      · rw [if_pos c1, c1]
        have := dB_w h' hi
        rw [w_turn h hi, if_pos rfl] at this
        exact this
      · rw [if_neg c1]
        by_cases c2 : v = w s i'
        · rw [if_pos c2, c2]
          have := dB_o h' hj
          rw [o_turn h hj, if_pos rfl] at this
          exact this
        · rw [if_neg c2]
          cases e : dB W s v with
          | false =>
            obtain ⟨k, hk, q⟩ := dB_false e
            subst q
            have := dB_o h' hk
            rw [o_turn h hj, if_neg (fun e => c1 (by rw [e]))] at this
            exact this
          | true =>
            unfold dB
            rw [look_out (fun k hk q => ?_)]
            · rfl
            · rw [o_turn h hj] at q
              by_cases c3 : k = j'
              · rw [if_pos c3] at q; exact c2 q.symm
              · rw [if_neg c3] at q
                rw [← q, dB_o h hk] at e
                exact Bool.noConfusion e }

/-! ### The whole run -/
def nxt (s : Sheet) : Sheet := match entering s with
  | none => s
  | some j => match Kp353.leaving s j with
    | none => s
    | some i => turn s i j
def at_ (s : Sheet) : Nat → Sheet
  | 0 => s
  | k + 1 => nxt (at_ s k)
def Ended (s : Sheet) : Prop := entering s = none ∨ ∃ j, entering s = some j ∧ Kp353.leaving s j = none

theorem nxt_ended (h : Ended s) : nxt s = s := by
  unfold nxt
  rcases h with e | ⟨j, e, e2⟩
  · rw [e]
  · rw [e]; simp only; rw [e2]
theorem solve_ended (h : Ended s) : ∀ F, solve F s = s
  | 0 => rfl
  | F + 1 => by
    unfold solve
    rcases h with e | ⟨j, e, e2⟩
    · rw [e]
    · rw [e]; simp only; rw [e2]
theorem not_ended (h : ¬ Ended s) : ∃ i j, entering s = some j ∧ Kp353.leaving s j = some i := by
  cases e : entering s with
  | none => exact absurd (Or.inl e) h
  | some j =>
    cases e2 : Kp353.leaving s j with
    | none => exact absurd (Or.inr ⟨j, e, e2⟩) h
    | some i => exact ⟨i, j, rfl, e2⟩
theorem solve_going (h : ¬ Ended s) (F : Nat) : solve (F + 1) s = solve F (nxt s) := by
  obtain ⟨i, j, e, e2⟩ := not_ended h
  conv => lhs; unfold solve
  unfold nxt
  rw [e]; simp only; rw [e2]

theorem at_succ (s : Sheet) : ∀ k, at_ s (k + 1) = at_ (nxt s) k
  | 0 => rfl
  | k + 1 => by
    show nxt (at_ s (k + 1)) = nxt (at_ (nxt s) k)
    rw [at_succ s k]

/-- solve stops at an end, or when its steps are used up -/
theorem solve_at : ∀ (F : Nat) (s : Sheet), ∃ n, n ≤ F ∧ solve F s = at_ s n ∧ (∀ k, k < n → ¬ Ended (at_ s k)) ∧ (n = F ∨ Ended (at_ s n))
  | 0, s => ⟨0, by omega, rfl, fun k hk => absurd hk (by omega), Or.inl rfl⟩
  | F + 1, s => by
    by_cases c : Ended s
    · exact ⟨0, by omega, solve_ended c _, fun k hk => absurd hk (by omega), Or.inr c⟩
    · obtain ⟨n, h1, h2, h3, h4⟩ := solve_at F (nxt s)
      refine ⟨n + 1, by omega, ?_, fun k hk => ?_, ?_⟩
      · rw [solve_going c, h2, at_succ]
      · cases k with
        | zero => exact c
        | succ k => rw [at_succ]; exact h3 k (by omega)
      · rw [at_succ]
        rcases h4 with q | q
        · exact Or.inl (by omega)
        · exact Or.inr q

theorem ok_nxt (h : Ok W M S f s) : Ok W M S f (nxt s) := by
  by_cases c : Ended s
  · rw [nxt_ended c]; exact h
  · obtain ⟨i, j, e, e2⟩ := not_ended c
    obtain ⟨h', _⟩ := step_of h e e2
    unfold nxt
    rw [e]; simp only; rw [e2]
    exact h'
theorem ok_at (h : Ok W M S f s) : ∀ k, Ok W M S f (at_ s k)
  | 0 => h
  | k + 1 => ok_nxt (ok_at h k)

def comes (s : Sheet) : Nat := match entering s with
  | none => 0
  | some j => o s j
def goes (s : Sheet) : Nat := match entering s with
  | none => 0
  | some j => match Kp353.leaving s j with
    | none => 0
    | some i => w s i

theorem run_of (h : Ok W M S f s) (F : (dict h).Feas) {n : Nat} (ne : ∀ k, k < n → ¬ Ended (at_ s k)) :
    Run (fun _ => True) (fun k => dict (ok_at h k)) (fun k => comes (at_ s k)) (fun k => goes (at_ s k)) n where
  feas := F
  step := fun k hk => by
    obtain ⟨i, j, e, e2⟩ := not_ended (ne k hk)
    obtain ⟨h', st⟩ := step_of (ok_at h k) e e2
    have e3 : at_ s (k + 1) = turn (at_ s k) i j := by
      show nxt (at_ s k) = _
      unfold nxt
      rw [e]; simp only; rw [e2]
    have e4 : comes (at_ s k) = o (at_ s k) j := by unfold comes; rw [e]
    have e5 : goes (at_ s k) = w (at_ s k) i := by unfold goes; rw [e]; simp only; rw [e2]
    have gen : ∀ (s2 : Sheet) (h2 : Ok W M S f s2), s2 = turn (at_ s k) i j → Step (fun _ => True) (dict (ok_at h k)) (dict h2) (o (at_ s k) j) (w (at_ s k) i) := by
      intro s2 h2 e
      subst e
      exact st
    rw [e4, e5]
    exact gen _ (ok_at h (k + 1)) e3

/-- what solve ends with, where the sum has a bound -/
theorem solve_best (h : Ok W M S f s) (F : (dict h).Feas) {K : Nat} (hK : 2 ^ (W + M) ≤ K) {U : Rat} (hU : ∀ z, S z → (∀ j, j < W + M → 0 ≤ z j) → f z ≤ U) :
    Good (solve K s).sum ∧ (∀ z, S z → (∀ j, j < W + M → 0 ≤ z j) → f z ≤ val (solve K s).sum) ∧
      ∃ z, S z ∧ (∀ j, j < W + M → 0 ≤ z j) ∧ f z = val (solve K s).sum := by
  obtain ⟨n, h1, h2, h3, h4⟩ := solve_at K s
  have R := run_of h F h3
  have short := R.short
  have Fn := R.feasAt n (by omega)
  have en : Ended (at_ s n) := by
    rcases h4 with q | q
    · omega
    · exact q
  have hn := ok_at h n
  rw [h2]
  refine ⟨hn.gs, ?_, ?_⟩
  · rcases en with e | ⟨j, e, e2⟩
    · intro z hz z0
      rcases entering_spec hn with ⟨_, q⟩ | ⟨j, q, _⟩
      · refine best (E := fun _ => True) (dict hn) (fun v hv _ => ?_) hz z0 (fun v _ c _ => absurd trivial c)
        show dc W (at_ s n) v ≤ 0
        cases d : dB W (at_ s n) v with
        | true => rw [dc_B d]; grind
        | false =>
          obtain ⟨k, hk, q2⟩ := dB_false d
          subst q2
          rw [dc_o hn hk]
          exact q k hk
      · rw [q] at e; exact absurd e (by simp)
    · exfalso
      rcases entering_spec hn with ⟨q, _⟩ | ⟨j', q, hj, hp, _⟩
      · rw [q] at e; exact absurd e (by simp)
      · rw [q] at e
        obtain rfl : j' = j := Option.some.inj e
        rcases leaving_spec hn hj with ⟨_, q2⟩ | ⟨i, q2, _⟩
        · obtain ⟨z, hz, z0, lt⟩ := unbounded (dict hn) Fn (s := o (at_ s n) j') (hn.oN _ hj) (dB_o hn hj) (by
            show 0 < dc W (at_ s n) _; rw [dc_o hn hj]; exact hp) (fun v hv hb => by
              obtain ⟨k, hk, e⟩ := dB_true hn hv hb
              subst e
              show da W M (at_ s n) _ _ ≤ 0
              rw [da_wo hn hk hj]
              exact q2 k hk) U
          have := hU z hz z0
          grind
        · rw [q2] at e2; exact absurd e2 (by simp)
  · obtain ⟨z, hz, z0, _, e⟩ := attained (dict hn) Fn
    exact ⟨z, hz, z0, e⟩

end Sh
end
section
/-! Kp353.whole is true just if there is a whole that has all tables. -/
namespace Sh
open Kp340 Kp351 Bl FrV

/-! ### Rows, sums of natural numbers -/
theorem rowOf_fold (x : Nat) : ∀ (qs : List Nat) (k a : Nat), (qs.zipIdx k).foldl (fun (a : Nat) (q : Nat × Nat) => if x.testBit q.1 then a + 2 ^ q.2 else a) a < a + 2 ^ (k + qs.length) - 2 ^ k + 1
  | [], k, a => by simp
  | q :: qs, k, a => by
    rw [List.zipIdx_cons, List.foldl_cons]
    have e : k + (q :: qs).length = k + 1 + qs.length := by simp; omega
    rw [e]
    have h1 : 2 ^ (k + 1) = 2 * 2 ^ k := by rw [Nat.pow_succ]; omega
    have h2 : 2 ^ (k + 1) ≤ 2 ^ (k + 1 + qs.length) := Nat.pow_le_pow_right (by omega) (by omega)
    by_cases c : x.testBit q = true
    · have := rowOf_fold x qs (k + 1) (a + 2 ^ k)
      simp only [c, if_true]
      omega
    · have := rowOf_fold x qs (k + 1) a
      simp only [c]
      simp only [Bool.false_eq_true, if_false]
      omega
theorem rowOf_lt (x : Nat) (qs : List Nat) : rowOf x qs < 2 ^ qs.length := by
  have := rowOf_fold x qs 0 0
  unfold rowOf
  have h2 : 0 < 2 ^ qs.length := Nat.pos_of_ne_zero (by simp)
  simp at this
  omega

theorem total_fold : ∀ (l : List Nat) (a : Nat), l.foldl (fun (a b : Nat) => a + b) a = a + total l
  | [], a => rfl
  | x :: l, a => by
    unfold total
    rw [List.foldl_cons, List.foldl_cons, total_fold l, total_fold l]; omega
theorem total_cons (x : Nat) (l : List Nat) : total (x :: l) = x + total l := by
  have := total_fold l (0 + x)
  show l.foldl (fun (a b : Nat) => a + b) (0 + x) = _
  rw [this]; omega
theorem sm_shift (g : Nat → Rat) : ∀ n, sm (n + 1) g = g 0 + sm n (fun i => g (i + 1))
  | 0 => by show 0 + g 0 = g 0 + 0; grind
  | n + 1 => by
    show sm (n + 1) g + g (n + 1) = g 0 + (sm n (fun i => g (i + 1)) + g (n + 1))
    rw [sm_shift g n]; grind
theorem sm_total : ∀ (l : List Nat), sm l.length (fun c => (l.getD c 0 : Rat)) = (total l : Rat)
  | [] => by show (0 : Rat) = ((0 : Nat) : Rat); simp
  | x :: l => by
    rw [List.length_cons, sm_shift, total_cons]
    show (x : Rat) + sm l.length (fun i => ((x :: l).getD (i + 1) 0 : Rat)) = _
    have : sm l.length (fun i => ((x :: l).getD (i + 1) 0 : Rat)) = sm l.length (fun c => (l.getD c 0 : Rat)) := sm_congr (fun i _ => by simp)
    rw [this, sm_total l]
    simp

/-- a sum taken apart by a number that each has -/
theorem sm_parts (g : Nat → Nat) (z : Nat → Rat) (R : Nat) : ∀ W, (∀ x, x < W → g x < R) → sm R (fun c => sm W (fun x => if g x = c then z x else 0)) = sm W z
  | 0, _ => sm_zero R
  | W + 1, h => by
    show sm R (fun c => sm W (fun x => if g x = c then z x else 0) + (if g W = c then z W else 0)) = sm W z + z W
    rw [sm_add, sm_parts g z R W (fun x hx => h x (by omega)), sm_single (s := g W) (h W (by omega)) (fun i _ q => if_neg (fun e => q e.symm)), if_pos rfl]

/-! ### What is meant -/
/-- the share of a row in a view -/
def shr (v : View) (c : Nat) : Rat := (v.table.getD c 0 : Rat) / (total v.table : Rat)
/-- p tells of each world how likely it is, and has the tables of all these views -/
def HasAll (n : Nat) (vs : List View) (p : Nat → Rat) : Prop := (∀ x, x < 2 ^ n → 0 ≤ p x) ∧
  ∀ v ∈ vs, ∀ c, c < 2 ^ v.qs.length → sm (2 ^ n) (fun x => if rowOf x v.qs = c then p x else 0) = shr v c
/-- a view's table is one of its rows, not all 0 -/
def OkV (v : View) : Prop := v.table.length = 2 ^ v.qs.length ∧ 0 < total v.table

theorem share_spec {v : View} (h : OkV v) (c : Nat) : Good (share v c) ∧ val (share v c) = shr v c := by
  have := h.2
  have h1 := fr_spec ((v.table.getD c 0 : Nat) : Int) ((total v.table : Nat) : Int) (by omega)
  refine ⟨h1.1, h1.2.trans ?_⟩
  unfold shr
  rw [Rat.intCast_natCast, Rat.intCast_natCast]
theorem tot_pos {v : View} (h : OkV v) : (0 : Rat) < (total v.table : Rat) := by
  have h1 := h.2
  have : ((0 : Nat) : Rat) < (total v.table : Rat) := Rat.natCast_lt_natCast.mpr h1
  simpa using this
theorem shr_nonneg {v : View} (h : OkV v) (c : Nat) : 0 ≤ shr v c := by
  have h1 := tot_pos h
  have h2 : (0 : Rat) ≤ (v.table.getD c 0 : Rat) := Rat.natCast_nonneg
  refine pos_of_mul h1 ?_
  unfold shr
  rw [Rat.div_mul_cancel (by grind)]
  exact h2
theorem shr_sum {v : View} (h : OkV v) : sm (2 ^ v.qs.length) (shr v) = 1 := by
  have h1 := tot_pos h
  have e : sm (2 ^ v.qs.length) (shr v) = sm (2 ^ v.qs.length) (fun c => (1 / (total v.table : Rat)) * (v.table.getD c 0 : Rat)) := sm_congr (fun c _ => by unfold shr; grind)
  rw [e, sm_mul, ← h.1, sm_total]
  rw [Rat.div_mul_cancel (by grind)]

/-! ### The first sheet -/
abbrev Row := List Nat × Nat × Fr
def rowsOf (vs : List View) : List Row := (vs.map fun v => (v.qs, (rows v.qs).map (share v))).flatMap fun t => (rows t.1).map fun c => (t.1, c, t.2.getD c (0, 1))
def rw_ (vs : List View) (i : Nat) : Row := (rowsOf vs).getD i ([], 0, (0, 1))
def ind (vs : List View) (i x : Nat) : Rat := if rowOf x (rw_ vs i).1 = (rw_ vs i).2.1 then 1 else 0

theorem rowsOf_eq (vs : List View) : rowsOf vs = vs.flatMap fun v => (rows v.qs).map fun c => (v.qs, c, share v c) := by
  unfold rowsOf
  rw [List.flatMap_map]
  congr 1
  funext v
  refine List.map_congr_left (fun c hc => ?_)
  have hc' : c < 2 ^ v.qs.length := List.mem_range.mp hc
  have : ((rows v.qs).map (share v)).getD c (0, 1) = share v c := by
    rw [List.getD_eq_getElem?_getD, List.getElem?_map]
    unfold rows
    rw [List.getElem?_range hc']; rfl
  rw [this]
theorem rw_mem {vs : List View} {i : Nat} (hi : i < (rowsOf vs).length) : ∃ v ∈ vs, ∃ c, c < 2 ^ v.qs.length ∧ rw_ vs i = (v.qs, c, share v c) := by
  have h1 : rw_ vs i ∈ rowsOf vs := by
    unfold rw_
    rw [List.getD_eq_getElem?_getD, List.getElem?_eq_getElem hi]
    exact List.getElem_mem hi
  rw [rowsOf_eq] at h1
  obtain ⟨v, hv, h2⟩ := List.mem_flatMap.mp h1
  obtain ⟨c, hc, e⟩ := List.mem_map.mp h2
  exact ⟨v, hv, c, List.mem_range.mp hc, e.symm⟩
theorem mem_rw {vs : List View} {v : View} (hv : v ∈ vs) {c : Nat} (hc : c < 2 ^ v.qs.length) : ∃ i, i < (rowsOf vs).length ∧ rw_ vs i = (v.qs, c, share v c) := by
  have h1 : (v.qs, c, share v c) ∈ rowsOf vs := by
    rw [rowsOf_eq]
    exact List.mem_flatMap.mpr ⟨v, hv, List.mem_map.mpr ⟨c, List.mem_range.mpr hc, rfl⟩⟩
  obtain ⟨i, hi, e⟩ := List.getElem_of_mem h1
  refine ⟨i, hi, ?_⟩
  unfold rw_
  rw [List.getD_eq_getElem?_getD, List.getElem?_eq_getElem hi]
  exact e

def Sys (n : Nat) (vs : List View) (z : Asg) : Prop := ∀ i, i < (rowsOf vs).length → z (2 ^ n + i) = val (rw_ vs i).2.2 - sm (2 ^ n) (fun x => ind vs i x * z x)
def tot (n : Nat) (z : Asg) : Rat := sm (2 ^ n) z

variable {n : Nat} {vs : List View}

theorem sheet_L (n : Nat) {vs : List View} {i : Nat} (hi : i < (rowsOf vs).length) : L (Kp353.sheet n (vs.map fun v => (v.qs, (rows v.qs).map (share v)))) i = ⟨2 ^ n + i, (rw_ vs i).2.2, (List.range (2 ^ n)).map fun x => if rowOf x (rw_ vs i).1 = (rw_ vs i).2.1 then (1, 1) else (0, 1)⟩ := by
  unfold L Kp353.sheet
  show (List.map _ (rowsOf vs).zipIdx).getD i _ = _
  rw [getD_zipIdx _ _ _ ([], 0, (0, 1)) _ hi]
  rfl
theorem getD_range_map {α : Type} (g : Nat → α) (W x : Nat) (d : α) (hx : x < W) : ((List.range W).map g).getD x d = g x := by
  rw [List.getD_eq_getElem?_getD, List.getElem?_map, List.getElem?_range hx]; rfl

theorem sheet_ok (n : Nat) {vs : List View} (h : ∀ v ∈ vs, OkV v) : Ok (2 ^ n) (rowsOf vs).length (Sys n vs) (tot n) (Kp353.sheet n (vs.map fun v => (v.qs, (rows v.qs).map (share v)))) := by
  have oe : ∀ j, j < 2 ^ n → o (Kp353.sheet n (vs.map fun v => (v.qs, (rows v.qs).map (share v)))) j = j := fun j hj => by
    unfold o Kp353.sheet
    show (List.range (2 ^ n)).getD j 0 = j
    rw [List.getD_eq_getElem?_getD, List.getElem?_range hj]; rfl
  have we : ∀ i, i < (rowsOf vs).length → w (Kp353.sheet n (vs.map fun v => (v.qs, (rows v.qs).map (share v)))) i = 2 ^ n + i := fun i hi => by
    unfold w; rw [sheet_L n hi]
  have ce : ∀ i, i < (rowsOf vs).length → ∀ j, j < 2 ^ n → cF (Kp353.sheet n (vs.map fun v => (v.qs, (rows v.qs).map (share v)))) i j = if rowOf j (rw_ vs i).1 = (rw_ vs i).2.1 then (1, 1) else (0, 1) := fun i hi j hj => by
    unfold cF; rw [sheet_L n hi]
    exact getD_range_map _ _ _ _ hj
  have ae : ∀ j, j < 2 ^ n → aF (Kp353.sheet n (vs.map fun v => (v.qs, (rows v.qs).map (share v)))) j = (1, 1) := fun j hj => by
    unfold aF Kp353.sheet
    exact getD_range_map _ _ _ _ hj
  have cv : ∀ i, i < (rowsOf vs).length → ∀ j, j < 2 ^ n → Good (cF (Kp353.sheet n (vs.map fun v => (v.qs, (rows v.qs).map (share v)))) i j) ∧ cf (Kp353.sheet n (vs.map fun v => (v.qs, (rows v.qs).map (share v)))) i j = ind vs i j := fun i hi j hj => by
    unfold cf ind
    rw [ce i hi j hj]
    split
    · exact ⟨good_one, val_one⟩
    · exact ⟨good_zero, val_zero⟩
  refine { ol := ?_, ll := ?_, al := ?_, cl := ?_, gr := ?_, gc := fun i hi j hj => (cv i hi j hj).1, ga := ?_, gs := good_zero, oN := ?_, wN := ?_, oo := ?_, ww := ?_, ow := ?_, cov := ?_, row := ?_, obj := ?_, ex := ?_ }
  · unfold Kp353.sheet; simp
  · unfold Kp353.sheet; show (List.map _ (rowsOf vs).zipIdx).length = _; simp
  · unfold Kp353.sheet; simp
  · intro i hi; rw [sheet_L n hi]; simp
  · intro i hi; rw [sheet_L n hi]
    obtain ⟨v, hv, c, hc, e⟩ := rw_mem hi
    show Good (rw_ vs i).2.2
    rw [e]
    exact (share_spec (h v hv) c).1
  · intro j hj; rw [ae j hj]; exact good_one
  · intro j hj; rw [oe j hj]; omega
  · intro i hi; rw [we i hi]; omega
  · intro a b ha hb e; rw [oe a ha, oe b hb] at e; exact e
  · intro a b ha hb e; rw [we a ha, we b hb] at e; omega
  · intro a b ha hb e; rw [oe a ha, we b hb] at e; omega
  · intro v hv q
    by_cases c : v < 2 ^ n
    · exact absurd (oe v c) (q v c)
    · exact ⟨v - 2 ^ n, by omega, by rw [we _ (by omega)]; omega⟩
  · intro z hz i hi
    rw [we i hi, hz i hi]
    have e1 : r (Kp353.sheet n (vs.map fun v => (v.qs, (rows v.qs).map (share v)))) i = val (rw_ vs i).2.2 := by unfold r; rw [sheet_L n hi]
    rw [e1]
    congr 1
    exact sm_congr (fun x hx => by rw [(cv i hi x hx).2, oe x hx])
  · intro z hz
    have e1 : val (Kp353.sheet n (vs.map fun v => (v.qs, (rows v.qs).map (share v)))).sum = 0 := val_zero
    rw [e1]
    have e2 : sm (2 ^ n) (fun j => ad (Kp353.sheet n (vs.map fun v => (v.qs, (rows v.qs).map (share v)))) j * z (o (Kp353.sheet n (vs.map fun v => (v.qs, (rows v.qs).map (share v)))) j)) = tot n z := sm_congr (fun x hx => by
      unfold ad; rw [ae x hx, oe x hx, val_one]; grind)
    rw [e2]; grind
  · intro t
    refine ⟨fun v => if v < 2 ^ n then t v else val (rw_ vs (v - 2 ^ n)).2.2 - sm (2 ^ n) (fun x => ind vs (v - 2 ^ n) x * t x), fun i hi => ?_, fun j hj => ?_⟩
    · show (if 2 ^ n + i < 2 ^ n then _ else _) = _
      rw [if_neg (by omega), show 2 ^ n + i - 2 ^ n = i by omega]
      congr 1
      exact sm_congr (fun x hx => by simp only [if_pos hx])
    · rw [oe j hj]; exact if_pos hj

/-- what a row's line says of a point -/
theorem sys_le {z : Asg} (h : ∀ v ∈ vs, OkV v) (hz : Sys n vs z) (z0 : ∀ j, j < 2 ^ n + (rowsOf vs).length → 0 ≤ z j) {v : View} (hv : v ∈ vs) {c : Nat} (hc : c < 2 ^ v.qs.length) :
    sm (2 ^ n) (fun x => if rowOf x v.qs = c then z x else 0) ≤ shr v c := by
  obtain ⟨i, hi, e⟩ := mem_rw hv hc
  have h1 := hz i hi
  have h2 := z0 (2 ^ n + i) (by omega)
  rw [e] at h1
  simp only at h1
  rw [(share_spec (h v hv) c).2] at h1
  have e2 : sm (2 ^ n) (fun x => ind vs i x * z x) = sm (2 ^ n) (fun x => if rowOf x v.qs = c then z x else 0) := sm_congr (fun x _ => by
    unfold ind; rw [e]; simp only
    split <;> grind)
  rw [e2] at h1
  grind
theorem tot_parts (z : Asg) (v : View) : sm (2 ^ v.qs.length) (fun c => sm (2 ^ n) (fun x => if rowOf x v.qs = c then z x else 0)) = tot n z :=
  sm_parts (fun x => rowOf x v.qs) z _ _ (fun x _ => rowOf_lt x v.qs)
theorem tot_le {z : Asg} (h : ∀ v ∈ vs, OkV v) (hz : Sys n vs z) (z0 : ∀ j, j < 2 ^ n + (rowsOf vs).length → 0 ≤ z j) {v : View} (hv : v ∈ vs) : tot n z ≤ 1 := by
  rw [← tot_parts z v, ← shr_sum (h v hv)]
  exact sm_le (fun c hc => sys_le h hz z0 hv hc)
/-- like sums of which none is above its own: each is its own -/
theorem sm_tight {g k : Nat → Rat} : ∀ {R : Nat}, (∀ i, i < R → g i ≤ k i) → sm R g = sm R k → ∀ i, i < R → g i = k i
  | 0, _, _, i, hi => absurd hi (by omega)
  | R + 1, h, e, i, hi => by
    have h1 := sm_le (n := R) (f := g) (g := k) (fun i hi => h i (by omega))
    have h2 := h R (by omega)
    have e' : sm R g + g R = sm R k + k R := e
    by_cases c : i = R
    · rw [c]; grind
    · exact sm_tight (R := R) (fun i hi => h i (by omega)) (by grind) i (by omega)

theorem greatest_iff (h : ∀ v ∈ vs, OkV v) (small : 2 ^ n + (rowsOf vs).length ≤ 56) :
    (Kp353.greatest n (vs.map fun v => (v.qs, (rows v.qs).map (share v))) == (1, 1)) = true ↔ ∃ p, HasAll n vs p := by
  cases vs with
  | nil =>
    constructor
    · intro _
      exact ⟨fun _ => 0, fun _ _ => by grind, fun v hv => absurd hv (by simp)⟩
    · intro _; rfl
  | cons v0 vs' =>
    have hv0 : v0 ∈ v0 :: vs' := List.mem_cons_self
    generalize hvs : v0 :: vs' = vs at *
    have ok := sheet_ok n h
    have F : (dict ok).Feas := fun u hu hb => by
      obtain ⟨i, hi, e⟩ := dB_true ok hu hb
      subst e
      show 0 ≤ db _ _ _
      rw [db_w ok hi]
      unfold r; rw [sheet_L n hi]
      obtain ⟨v, hv, c, hc, e⟩ := rw_mem hi
      show 0 ≤ val (rw_ vs i).2.2
      rw [e]
      show 0 ≤ val (share v c)
      rw [(share_spec (h v hv) c).2]
      exact shr_nonneg (h v hv) c
    obtain ⟨g, mx, z, hz, z0, ez⟩ := solve_best ok F (K := 2 ^ 56) (Nat.pow_le_pow_right (by omega) small) (U := 1) (fun z hz z0 => tot_le h hz z0 hv0)
    have ge : Kp353.greatest n (vs.map fun v => (v.qs, (rows v.qs).map (share v))) = (Kp353.solve (2 ^ 56) (Kp353.sheet n (vs.map fun v => (v.qs, (rows v.qs).map (share v))))).sum := by
      unfold Kp353.greatest
      rw [← hvs]; rfl
    rw [ge, beq_iff g good_one, val_one, ← ez]
    constructor
    · intro e
      refine ⟨z, fun x hx => z0 x (by omega), fun v hv => ?_⟩
      exact sm_tight (fun c hc => sys_le h hz z0 hv hc) (by rw [tot_parts, shr_sum (h v hv)]; exact e)
    · rintro ⟨p, p0, hp⟩
      have le := tot_le h hz z0 hv0
      have h1 := mx (fun u => if u < 2 ^ n then p u else 0) (fun i hi => by
        show (if 2 ^ n + i < 2 ^ n then _ else _) = _
        rw [if_neg (by omega)]
        obtain ⟨v, hv, c, hc, e⟩ := rw_mem hi
        have e2 : sm (2 ^ n) (fun x => ind vs i x * (if x < 2 ^ n then p x else 0)) = sm (2 ^ n) (fun x => if rowOf x v.qs = c then p x else 0) := sm_congr (fun x hx => by
          unfold ind; rw [e, if_pos hx]; simp only
          split <;> grind)
        rw [e2, hp v hv c hc, e]
        simp only
        rw [(share_spec (h v hv) c).2]; grind) (fun j hj => by
        show 0 ≤ if j < 2 ^ n then p j else 0
        split
        · rename_i q; exact p0 j q
        · grind)
      have e3 : tot n (fun u => if u < 2 ^ n then p u else 0) = 1 := by
        rw [← tot_parts _ v0, ← shr_sum (h v0 hv0)]
        exact sm_congr (fun c hc => by
          rw [← hp v0 hv0 c hc]
          exact sm_congr (fun x hx => by rw [if_pos hx]))
      rw [e3, ← ez] at h1
      grind

/-- **kind 2**: the specification's word is what the document says -/
theorem whole_iff {d : Desk} (h : ∀ v ∈ d.views, OkV v) (small : 2 ^ d.n + (rowsOf d.views).length ≤ 56) : Kp353.whole d = true ↔ ∃ p, HasAll d.n d.views p :=
  greatest_iff h small

end Sh
end
section
/-! A determinant of columns: linear in each, 0 where two are alike, whole where all numbers are. Core Lean alone. -/
namespace Dt
open Bl

abbrev Col := Nat → Rat
def sg (k : Nat) : Rat := if k % 2 = 0 then 1 else -1
theorem sg_succ (k : Nat) : sg (k + 1) = - sg k := by
  unfold sg
  by_cases c : k % 2 = 0
  · rw [if_pos c, if_neg (by omega)]
  · rw [if_neg c, if_pos (by omega)]; grind
theorem sg_twice (k : Nat) : sg (k + k) = 1 := if_pos (by omega)

def skip (j : Nat) (C : Nat → Col) : Nat → Col := fun k => if k < j then C k else C (k + 1)
def put (C : Nat → Col) (c : Nat) (u : Col) : Nat → Col := fun k => if k = c then u else C k

/-- along the last row -/
def D : Nat → (Nat → Col) → Rat
  | 0, _ => 1
  | M + 1, C => sm (M + 1) (fun j => sg (j + M) * C j M * D M (skip j C))

theorem D_congr : ∀ (M : Nat) {C C' : Nat → Col}, (∀ j, j < M → ∀ p, p < M → C j p = C' j p) → D M C = D M C'
  | 0, _, _, _ => rfl
  | M + 1, C, C', h => by
    refine sm_congr (fun j hj => ?_)
    rw [h j hj M (by omega), D_congr M (C := skip j C) (C' := skip j C') (fun k hk p hp => ?_)]
    unfold skip
    split
    · exact h k (by omega) p (by omega)
    · exact h (k + 1) (by omega) p (by omega)

theorem put_same (C : Nat → Col) (c : Nat) (u : Col) : put C c u c = u := if_pos rfl
theorem put_ne (C : Nat → Col) {c k : Nat} (u : Col) (h : k ≠ c) : put C c u k = C k := if_neg h
theorem put_self (C : Nat → Col) (c : Nat) : put C c (C c) = C := by
  funext k
  unfold put
  split
  · rename_i e; rw [e]
  · rfl
theorem put_put (C : Nat → Col) (c : Nat) (u v : Col) : put (put C c u) c v = put C c v := by
  funext k
  unfold put
  split <;> rfl
theorem put_comm (C : Nat → Col) {c d : Nat} (h : c ≠ d) (u v : Col) : put (put C c u) d v = put (put C d v) c u := by
  funext k
  unfold put
  by_cases e : k = d <;> by_cases g : k = c
  · omega
  · rw [if_pos e, if_neg g, if_pos e]
  · rw [if_neg e, if_pos g, if_pos g]
  · rw [if_neg e, if_neg g, if_neg g, if_neg e]

theorem skip_lt (C : Nat → Col) {j k : Nat} (h : k < j) : skip j C k = C k := if_pos h
theorem skip_ge (C : Nat → Col) {j k : Nat} (h : ¬ k < j) : skip j C k = C (k + 1) := if_neg h
theorem skip_put_lt (C : Nat → Col) {j c : Nat} (h : c < j) (u : Col) : skip j (put C c u) = put (skip j C) c u := by
  funext k
  by_cases g : k = c
  · rw [g, put_same, skip_lt _ h, put_same]
  · rw [put_ne _ _ g]
    by_cases e : k < j
    · rw [skip_lt _ e, skip_lt _ e, put_ne _ _ g]
    · rw [skip_ge _ e, skip_ge _ e, put_ne _ _ (by omega)]
theorem skip_put_gt (C : Nat → Col) {j c : Nat} (h : j < c) (u : Col) : skip j (put C c u) = put (skip j C) (c - 1) u := by
  funext k
  by_cases g : k = c - 1
  · rw [g, put_same, skip_ge _ (by omega), show c - 1 + 1 = c by omega, put_same]
  · rw [put_ne _ _ g]
    by_cases e : k < j
    · rw [skip_lt _ e, skip_lt _ e, put_ne _ _ (by omega)]
    · rw [skip_ge _ e, skip_ge _ e, put_ne _ _ (by omega)]
theorem skip_put_eq (C : Nat → Col) (c : Nat) (u : Col) : skip c (put C c u) = skip c C := by
  funext k
  unfold skip put
  by_cases e : k < c
  · rw [if_pos e, if_pos e, if_neg (by omega)]
  · rw [if_neg e, if_neg e, if_neg (by omega)]

/-- linear in a column -/
theorem D_lin : ∀ (M : Nat) (C : Nat → Col) {c : Nat} (_ : c < M) (a b : Rat) (u v : Col),
    D M (put C c (fun p => a * u p + b * v p)) = a * D M (put C c u) + b * D M (put C c v)
  | 0, _, _, h, _, _, _, _ => absurd h (by omega)
  | M + 1, C, c, h, a, b, u, v => by
    show sm (M + 1) _ = a * sm (M + 1) _ + b * sm (M + 1) _
    rw [← sm_mul, ← sm_mul, ← sm_add]
    refine sm_congr (fun j hj => ?_)
    rcases Nat.lt_trichotomy j c with q | q | q
    · rw [put_ne _ _ (by omega), put_ne _ _ (by omega), put_ne _ _ (by omega), skip_put_gt _ q, skip_put_gt _ q, skip_put_gt _ q, D_lin M (skip j C) (by omega)]
      grind
    · subst q
      rw [put_same, put_same, put_same, skip_put_eq, skip_put_eq, skip_put_eq]
      grind
    · rw [put_ne _ _ (by omega), put_ne _ _ (by omega), put_ne _ _ (by omega), skip_put_lt _ q, skip_put_lt _ q, skip_put_lt _ q, D_lin M (skip j C) (by omega)]
      grind

/-- 0 where two beside one another are alike -/
theorem D_adj : ∀ (M : Nat) (C : Nat → Col) {c : Nat}, c + 1 < M → C c = C (c + 1) → D M C = 0
  | 0, _, _, h, _ => absurd h (by omega)
  | M + 1, C, c, h, e => by
    show sm (M + 1) _ = 0
    rw [sm_take (s := c) (by omega), sm_take (s := c + 1) (by omega), sm_zero' (fun j hj => ?_)]
    · rw [if_neg (by omega)]
      have e1 : skip c C = skip (c + 1) C := by
        funext k
        unfold skip
        by_cases g : k < c
        · rw [if_pos g, if_pos (by omega)]
        · rw [if_neg g]
          by_cases g2 : k = c
          · rw [if_pos (by omega), g2, e]
          · rw [if_neg (by omega)]
      rw [e1, e, show c + 1 + M = (c + M) + 1 by omega, sg_succ]
      grind
    · by_cases g : j = c + 1
      · rw [if_pos g]
      · rw [if_neg g]
        by_cases g2 : j = c
        · rw [if_pos g2]
        · rw [if_neg g2]
          have : D M (skip j C) = 0 := by
            rcases Nat.lt_or_ge j c with q | q
            · refine D_adj M (skip j C) (c := c - 1) (by omega) ?_
              unfold skip
              rw [if_neg (by omega), if_neg (by omega), show c - 1 + 1 = c by omega]
              exact e
            · refine D_adj M (skip j C) (c := c) (by omega) ?_
              unfold skip
              rw [if_pos (by omega), if_pos (by omega)]
              exact e
          rw [this]; grind

/-- two beside one another the other way round -/
theorem D_swap {M : Nat} (C : Nat → Col) {c : Nat} (h : c + 1 < M) (u v : Col) : D M (put (put C c u) (c + 1) v) = - D M (put (put C c v) (c + 1) u) := by
  have z : ∀ w : Col, D M (put (put C c w) (c + 1) w) = 0 := fun w => D_adj M _ h (by rw [put_ne _ _ (by omega), put_same, put_same])
  have e := z (fun p => 1 * u p + 1 * v p)
  rw [D_lin M _ h] at e
  rw [put_comm _ (by omega), put_comm C (c := c) (d := c + 1) (by omega), D_lin M _ (by omega), D_lin M _ (by omega)] at e
  rw [put_comm _ (by omega), z u, put_comm _ (by omega), put_comm C (c := c + 1) (d := c) (by omega), put_comm C (c := c + 1) (d := c) (by omega), z v] at e
  grind

/-- 0 where two are alike -/
theorem D_eq : ∀ (d : Nat) {M : Nat} (C : Nat → Col) {i j : Nat}, j = i + 1 + d → j < M → C i = C j → D M C = 0
  | 0, M, C, i, j, e, h, q => by
    subst e
    exact D_adj M C h q
  | d + 1, M, C, i, j, e, h, q => by
    have h1 : C = put (put C (j - 1) (C (j - 1))) (j - 1 + 1) (C j) := by
      rw [show j - 1 + 1 = j by omega, put_self, put_self]
    rw [h1, D_swap C (by omega)]
    have h2 := D_eq d (M := M) (put (put C (j - 1) (C j)) (j - 1 + 1) (C (j - 1))) (i := i) (j := j - 1) (by omega) (by omega) (by
      rw [put_ne _ _ (by omega), put_ne _ _ (by omega), put_ne _ _ (by omega), put_same]; exact q)
    rw [h2]; grind
theorem D_two {M : Nat} (C : Nat → Col) {i j : Nat} (hi : i < M) (hj : j < M) (ne : i ≠ j) (q : C i = C j) : D M C = 0 := by
  rcases Nat.lt_or_ge i j with h | h
  · exact D_eq (j - i - 1) C (i := i) (j := j) (by omega) hj q
  · exact D_eq (i - j - 1) C (i := j) (j := i) (by omega) hi q.symm

theorem D_zero {M : Nat} (C : Nat → Col) {c : Nat} (h : c < M) : D M (put C c (fun _ => 0)) = 0 := by
  have := D_lin M C h 0 0 (fun _ => 0) (fun _ => 0)
  have e : (fun p : Nat => (0 : Rat) * (fun _ => (0 : Rat)) p + 0 * (fun _ => (0 : Rat)) p) = fun _ => 0 := funext fun p => by grind
  rw [e] at this
  rw [this]; grind

/-- a column that's put together of all -/
theorem D_comb {M : Nat} (C : Nat → Col) (al : Nat → Rat) {i : Nat} (hi : i < M) : D M (put C i (fun p => sm M (fun q => al q * C q p))) = al i * D M C := by
  have gen : ∀ k, k ≤ M → D M (put C i (fun p => sm k (fun q => al q * C q p))) = if i < k then al i * D M C else 0 := by
    intro k
    induction k with
    | zero =>
      intro _
      rw [if_neg (by omega)]
      exact D_zero C hi
    | succ k ih =>
      intro hk
      have e : (fun p : Nat => sm (k + 1) (fun q => al q * C q p)) = fun p => 1 * (fun p => sm k (fun q => al q * C q p)) p + al k * C k p := funext fun p => by
        show sm k (fun q => al q * C q p) + al k * C k p = _
        grind
      rw [e, D_lin M C hi, ih (by omega)]
      by_cases c : k = i
      · subst c
        rw [if_neg (by omega), if_pos (by omega), put_self]; grind
      · have z : D M (put C i (C k)) = 0 := D_two _ hi (show k < M by omega) (fun e => c e.symm) (by rw [put_same, put_ne _ _ c])
        rw [z]
        by_cases g : i < k
        · rw [if_pos g, if_pos (by omega)]; grind
        · rw [if_neg g, if_neg (by omega)]; grind
  have := gen M (Nat.le_refl M)
  rw [if_pos hi] at this
  exact this

theorem D_unit : ∀ (M : Nat), D M (fun j p => if j = p then 1 else 0) = 1
  | 0 => rfl
  | M + 1 => by
    show sm (M + 1) _ = 1
    rw [sm_single (s := M) (by omega) (fun j hj ne => ?_)]
    · rw [sg_twice, D_congr M (C' := fun j p => if j = p then 1 else 0) (fun j hj p hp => by rw [skip_lt _ hj]), D_unit M]
      show 1 * (if M = M then 1 else 0) * 1 = (1 : Rat)
      rw [if_pos rfl]; grind
    · show sg (j + M) * (if j = M then 1 else 0) * _ = (0 : Rat)
      rw [if_neg ne]; grind

def Whl (x : Rat) : Prop := ∃ z : Int, x = (z : Rat)
theorem whl_add {x y : Rat} (hx : Whl x) (hy : Whl y) : Whl (x + y) := by
  obtain ⟨a, rfl⟩ := hx
  obtain ⟨b, rfl⟩ := hy
  exact ⟨a + b, (Rat.intCast_add a b).symm⟩
theorem whl_mul {x y : Rat} (hx : Whl x) (hy : Whl y) : Whl (x * y) := by
  obtain ⟨a, rfl⟩ := hx
  obtain ⟨b, rfl⟩ := hy
  exact ⟨a * b, (Rat.intCast_mul a b).symm⟩
theorem whl_sm {f : Nat → Rat} : ∀ {n : Nat}, (∀ i, i < n → Whl (f i)) → Whl (sm n f)
  | 0, _ => ⟨0, rfl⟩
  | n + 1, h => whl_add (whl_sm (n := n) fun i hi => h i (by omega)) (h n (by omega))
theorem D_whl : ∀ (M : Nat) {C : Nat → Col}, (∀ j, j < M → ∀ p, p < M → Whl (C j p)) → Whl (D M C)
  | 0, _, _ => ⟨1, rfl⟩
  | M + 1, C, h => by
    refine whl_sm (fun j hj => whl_mul (whl_mul ?_ (h j hj M (by omega))) (D_whl M (fun k hk p hp => ?_)))
    · unfold sg
      split
      · exact ⟨1, rfl⟩
      · exact ⟨-1, rfl⟩
    · unfold skip
      split
      · exact h k (by omega) p (by omega)
      · exact h (k + 1) (by omega) p (by omega)

end Dt
end
section
/-! Tableaus of equations whose unknowns may not be below 0: rows that are turned, in fractions and in whole numbers. -/
namespace Tb
open Bl Dt

theorem sm_split (g : Nat → Rat) (m : Nat) : ∀ n, sm (m + n) g = sm m g + sm n (fun x => g (m + x))
  | 0 => by show sm m g = sm m g + 0; grind
  | n + 1 => by
    show sm (m + n) g + g (m + n) = sm m g + (sm n (fun x => g (m + x)) + g (m + n))
    rw [sm_split g m n]; grind
theorem sm_swap (g : Nat → Nat → Rat) (n : Nat) : ∀ m, sm m (fun q => sm n (fun x => g q x)) = sm n (fun x => sm m (fun q => g q x))
  | 0 => (sm_zero n).symm
  | m + 1 => by
    show sm m (fun q => sm n (fun x => g q x)) + sm n (fun x => g m x) = sm n (fun x => sm m (fun q => g q x) + g m x)
    rw [sm_add, sm_swap g n m]
theorem sm_first (g : Nat → Rat) (n : Nat) : sm (n + 1) g = g 0 + sm n (fun i => g (i + 1)) := by
  rw [show n + 1 = 1 + n by omega, sm_split]
  show (0 + g 0) + _ = _
  rw [show (fun x => g (1 + x)) = fun i => g (i + 1) from funext fun x => by rw [Nat.add_comm]]; grind
theorem sm_rev1 (z : Nat → Rat) : ∀ m, sm (m + 1) (fun q => z (m - q)) = sm (m + 1) z
  | 0 => rfl
  | m + 1 => by
    rw [sm_first (fun q => z (m + 1 - q)) (m + 1)]
    rw [show (fun i => z (m + 1 - (i + 1))) = fun q => z (m - q) from funext fun i => by rw [show m + 1 - (i + 1) = m - i by omega], sm_rev1 z m]
    show z (m + 1) + sm (m + 1) z = sm (m + 1) z + z (m + 1)
    grind
theorem sm_rev (z : Nat → Rat) : ∀ m, sm m (fun q => z (m - 1 - q)) = sm m z
  | 0 => rfl
  | m + 1 => sm_rev1 z m

section
variable (m n : Nat) (a : Nat → Nat → Int)

/-- all columns: the gaps', numbered from the last one on, then the unknowns', then what they come to; row m: the rows' sum -/
def A0 (p v : Nat) : Rat := if p < m then (if v < m then (if v + p + 1 = m then 1 else 0) else (a p (v - m) : Rat))
  else (if v < m then 0 else sm m (fun q => (a q (v - m) : Rat)))
def S (z : Asg) : Prop := ∀ p, p < m → sm (m + n) (fun v => A0 m a p v * z v) = A0 m a p (m + n)
def f (z : Asg) : Rat := - sm m z

structure Inv (h : Nat → Nat) (R : Nat → Nat → Rat) : Prop where
  hN : ∀ q, q < m → h q < m + n
  unit : ∀ p, p ≤ m → ∀ q, q < m → R p (h q) = if p = q then 1 else 0
  row : ∀ z, S m n a z → ∀ p, p < m → sm (m + n) (fun v => R p v * z v) = R p (m + n)
  obj : ∀ z, S m n a z → f m z = - R m (m + n) + sm (m + n) (fun v => R m v * z v)
  back : ∀ z, (∀ p, p < m → sm (m + n) (fun v => R p v * z v) = R p (m + n)) → S m n a z
  col : ∀ v, v ≤ m + n → ∀ p, p ≤ m → A0 m a p v = sm m (fun q => R q v * A0 m a p (h q)) + (if p = m then R m v else 0)
end

variable {m n : Nat} {a : Nat → Nat → Int} {h : Nat → Nat} {R : Nat → Nat → Rat}

theorem A0_gap {p v : Nat} (hp : p < m) (hv : v < m) : A0 m a p v = if v + p + 1 = m then 1 else 0 := by
  unfold A0; rw [if_pos hp, if_pos hv]
theorem A0_x {p x : Nat} (hp : p < m) : A0 m a p (m + x) = (a p x : Rat) := by
  unfold A0; rw [if_pos hp, if_neg (by omega), show m + x - m = x by omega]
theorem A0_m {v : Nat} (hv : v < m) : A0 m a m v = 0 := by
  unfold A0; rw [if_neg (by omega), if_pos hv]
theorem A0_mx {x : Nat} : A0 m a m (m + x) = sm m (fun q => (a q x : Rat)) := by
  unfold A0; rw [if_neg (by omega), if_neg (by omega), show m + x - m = x by omega]

theorem S_iff (z : Asg) : S m n a z ↔ ∀ p, p < m → z (m - 1 - p) + sm n (fun x => (a p x : Rat) * z (m + x)) = (a p n : Rat) := by
  have key : ∀ p, p < m → sm (m + n) (fun v => A0 m a p v * z v) = z (m - 1 - p) + sm n (fun x => (a p x : Rat) * z (m + x)) := fun p hp => by
    rw [sm_split]
    congr 1
    · rw [sm_single (s := m - 1 - p) (by omega) (fun v hv ne => ?_)]
      · rw [A0_gap hp (by omega), if_pos (by omega)]; grind
      · rw [A0_gap hp hv, if_neg (by omega)]; grind
    · exact sm_congr (fun x hx => by rw [A0_x hp])
  constructor
  · intro hz p hp
    rw [← key p hp, hz p hp, A0_x hp]
  · intro hz p hp
    rw [key p hp, hz p hp, A0_x hp]

theorem inv_start : Inv m n a (fun q => m - 1 - q) (A0 m a) where
  hN := fun q hq => by show m - 1 - q < m + n; omega
  unit := fun p hp q hq => by
    show A0 m a p (m - 1 - q) = _
    by_cases c : p < m
    · rw [A0_gap c (by omega)]
      by_cases e : p = q
      · rw [if_pos e, if_pos (by omega)]
      · rw [if_neg e, if_neg (by omega)]
    · obtain rfl : p = m := by omega
      rw [A0_m (by omega), if_neg (by omega)]
  row := fun z hz p hp => hz p hp
  obj := fun z hz => by
    have h1 := (S_iff z).mp hz
    have h2 : sm m (fun q => z (m - 1 - q) + sm n (fun x => (a q x : Rat) * z (m + x))) = sm m (fun q => (a q n : Rat)) := sm_congr h1
    rw [sm_add, sm_rev, sm_swap] at h2
    unfold f
    rw [A0_mx, sm_split, sm_zero' (f := fun v => A0 m a m v * z v) (fun v hv => by rw [A0_m hv]; grind)]
    have h3 : sm n (fun x => A0 m a m (m + x) * z (m + x)) = sm n (fun x => sm m (fun q => (a q x : Rat) * z (m + x))) := sm_congr (fun x hx => by
      rw [A0_mx, Rat.mul_comm, ← sm_mul]
      exact sm_congr (fun q _ => Rat.mul_comm _ _))
    rw [h3]
    grind
  back := fun z hz => hz
  col := fun v hv p hp => by
    by_cases c : p < m
    · rw [if_neg (by omega), sm_single (s := p) c (fun q hq ne => ?_)]
      · show _ = A0 m a p v * A0 m a p (m - 1 - p) + 0
        rw [A0_gap c (by omega : m - 1 - p < m), if_pos (by omega)]; grind
      · show A0 m a q v * A0 m a p (m - 1 - q) = 0
        rw [A0_gap c (by omega : m - 1 - q < m), if_neg (by omega)]; grind
    · obtain rfl : p = m := by omega
      rw [if_pos rfl, sm_zero' (fun q hq => ?_)]
      · grind
      · show A0 p a q v * A0 p a p (p - 1 - q) = 0
        rw [A0_m (by omega : p - 1 - q < p)]; grind

theorem inv_inj (I : Inv m n a h R) {i j : Nat} (hi : i < m) (hj : j < m) (e : h i = h j) : i = j := by
  have h1 := I.unit i (by omega) i hi
  rw [if_pos rfl, e, I.unit i (by omega) j hj] at h1
  by_cases c : i = j
  · exact c
  · rw [if_neg c] at h1; grind

/-- the rows turned: s comes in in row r -/
def tR (R : Nat → Nat → Rat) (r s : Nat) : Nat → Nat → Rat := fun p v => if p = r then R r v / R r s else R p v - R p s * (R r v / R r s)
def tH (h : Nat → Nat) (r s : Nat) : Nat → Nat := fun q => if q = r then s else h q
theorem tR_r (r s v : Nat) : tR R r s r v = R r v / R r s := if_pos rfl
theorem tR_ne {r p : Nat} (s v : Nat) (ne : p ≠ r) : tR R r s p v = R p v - R p s * (R r v / R r s) := if_neg ne

theorem sm_lin (k1 k2 : Rat) (g1 g2 : Nat → Rat) (N : Nat) : sm N (fun v => k1 * g1 v + k2 * g2 v) = k1 * sm N g1 + k2 * sm N g2 := by
  rw [sm_add, sm_mul, sm_mul]

theorem inv_turn (I : Inv m n a h R) {r s : Nat} (hr : r < m) (hs : s < m + n) (ne : R r s ≠ 0) : Inv m n a (tH h r s) (tR R r s) := by
  have rowr : ∀ z : Asg, sm (m + n) (fun v => tR R r s r v * z v) = (1 / R r s) * sm (m + n) (fun v => R r v * z v) := fun z => by
    rw [← sm_mul]
    exact sm_congr (fun v _ => by rw [tR_r]; grind)
  have rowp : ∀ (z : Asg) p, p ≠ r → sm (m + n) (fun v => tR R r s p v * z v) = sm (m + n) (fun v => R p v * z v) - (R p s / R r s) * sm (m + n) (fun v => R r v * z v) := fun z p hp => by
    have e : sm (m + n) (fun v => tR R r s p v * z v) = sm (m + n) (fun v => 1 * (R p v * z v) + (-(R p s / R r s)) * (R r v * z v)) := sm_congr (fun v _ => by rw [tR_ne _ _ hp]; grind)
    rw [e, sm_lin]; grind
  refine { hN := ?_, unit := ?_, row := ?_, obj := ?_, back := ?_, col := ?_ }
  · intro q hq
    unfold tH
    split
    · exact hs
    · exact I.hN q hq
  · intro p hp q hq
    unfold tH
    by_cases c : q = r
    · rw [if_pos c]
      by_cases d : p = r
      · rw [d, tR_r, if_pos c.symm]; grind
      · rw [tR_ne _ _ d, if_neg (fun e => d (e.trans c))]; grind
    · rw [if_neg c]
      have h0 := I.unit r (by omega) q hq
      rw [if_neg (fun e => c e.symm)] at h0
      by_cases d : p = r
      · rw [d, tR_r, h0, if_neg (fun e => c e.symm)]; grind
      · rw [tR_ne _ _ d, h0, I.unit p hp q hq]; grind
  · intro z hz p hp
    have h1 := I.row z hz p hp
    have h2 := I.row z hz r hr
    by_cases d : p = r
    · rw [d, rowr, h2, tR_r]; grind
    · rw [rowp z p d, h1, h2, tR_ne _ _ d]; grind
  · intro z hz
    have h1 := I.obj z hz
    have h2 := I.row z hz r hr
    rw [h1, rowp z m (by omega), h2, tR_ne _ _ (by omega : m ≠ r)]; grind
  · intro z hz
    refine I.back z (fun p hp => ?_)
    have h2 := hz r hr
    rw [rowr, tR_r] at h2
    have h3 : sm (m + n) (fun v => R r v * z v) = R r (m + n) := by
      have : R r s * ((1 / R r s) * sm (m + n) (fun v => R r v * z v)) = R r s * (R r (m + n) / R r s) := by rw [h2]
      grind
    by_cases d : p = r
    · rw [d]; exact h3
    · have h1 := hz p hp
      rw [rowp z p d, tR_ne _ _ d, h3] at h1
      grind
  · intro v hv p hp
    have h1 := I.col v hv p hp
    have h2 := I.col s (by omega) p hp
    rw [h1]
    rw [sm_take (s := r) hr] at h2
    rw [sm_take (s := r) (f := fun q => R q v * A0 m a p (h q)) hr, sm_take (s := r) (f := fun q => tR R r s q v * A0 m a p (tH h r s q)) hr]
    have hrr : tH h r s r = s := if_pos rfl
    rw [tR_r, hrr, h2]
    have e : sm m (fun i => if i = r then 0 else tR R r s i v * A0 m a p (tH h r s i)) = sm m (fun i => 1 * (if i = r then 0 else R i v * A0 m a p (h i)) + (-(R r v / R r s)) * (if i = r then 0 else R i s * A0 m a p (h i))) := sm_congr (fun i hi => by
      by_cases c : i = r
      · rw [if_pos c, if_pos c, if_pos c]; grind
      · rw [if_neg c, if_neg c, if_neg c, tR_ne _ _ c]
        have : tH h r s i = h i := if_neg c
        rw [this]; grind)
    rw [e, sm_lin]
    by_cases c : p = m
    · rw [if_pos c, if_pos c, if_pos c, tR_ne _ _ (by omega : m ≠ r)]; grind
    · rw [if_neg c, if_neg c, if_neg c]; grind

/-! ### As a dictionary -/
def look (h : Nat → Nat) (v : Nat) : Nat → Option Nat
  | 0 => none
  | k + 1 => if h k = v then some k else look h v k
theorem look_some {h : Nat → Nat} {v j : Nat} : ∀ {k : Nat}, look h v k = some j → j < k ∧ h j = v
  | 0, e => by simp [look] at e
  | k + 1, e => by
    unfold look at e
    by_cases c : h k = v
    · rw [if_pos c] at e
      have := Option.some.inj e
      subst this
      exact ⟨by omega, c⟩
    · rw [if_neg c] at e
      have := look_some e
      exact ⟨by omega, this.2⟩
theorem look_none {h : Nat → Nat} {v : Nat} : ∀ {k : Nat}, look h v k = none → ∀ j, j < k → h j ≠ v
  | 0, _, j, hj => absurd hj (by omega)
  | k + 1, e, j, hj => by
    unfold look at e
    by_cases c : h k = v
    · rw [if_pos c] at e; simp at e
    · rw [if_neg c] at e
      by_cases d : j = k
      · rw [d]; exact c
      · exact look_none e j (by omega)
theorem look_at (I : Inv m n a h R) {q : Nat} (hq : q < m) : look h (h q) m = some q := by
  cases e : look h (h q) m with
  | none => exact absurd rfl (look_none e q hq)
  | some k =>
    obtain ⟨h1, h2⟩ := look_some e
    rw [inv_inj I h1 hq h2]

def dB (m : Nat) (h : Nat → Nat) (v : Nat) : Bool := (look h v m).isSome
def db (m n : Nat) (h : Nat → Nat) (R : Nat → Nat → Rat) (v : Nat) : Rat := match look h v m with
  | some q => R q (m + n)
  | none => 0
def dc (m : Nat) (h : Nat → Nat) (R : Nat → Nat → Rat) (v : Nat) : Rat := if dB m h v = true then 0 else R m v
def da (m : Nat) (h : Nat → Nat) (R : Nat → Nat → Rat) (u v : Nat) : Rat := if dB m h v = true then 0 else match look h u m with
  | some q => R q v
  | none => 0
theorem dB_h (I : Inv m n a h R) {q : Nat} (hq : q < m) : dB m h (h q) = true := by unfold dB; rw [look_at I hq]; rfl
theorem dB_true {v : Nat} (e : dB m h v = true) : ∃ q, q < m ∧ h q = v := by
  unfold dB at e
  cases c : look h v m with
  | none => rw [c] at e; exact Bool.noConfusion e
  | some q => exact ⟨q, look_some c⟩
theorem dB_false {v : Nat} (e : dB m h v = false) : ∀ q, q < m → h q ≠ v := by
  unfold dB at e
  cases c : look h v m with
  | none => exact look_none c
  | some q => rw [c] at e; exact Bool.noConfusion e
theorem db_h (I : Inv m n a h R) {q : Nat} (hq : q < m) : db m n h R (h q) = R q (m + n) := by unfold db; rw [look_at I hq]
theorem da_h (I : Inv m n a h R) {q v : Nat} (hq : q < m) (hv : dB m h v = false) : da m h R (h q) v = R q v := by
  unfold da; rw [look_at I hq, hv]; rfl
theorem dc_v {v : Nat} (hv : dB m h v = false) : dc m h R v = R m v := by unfold dc; rw [hv]; rfl

/-- a row's sum, taken apart into who's reckoned by it and the others -/
theorem row_parts (I : Inv m n a h R) {p : Nat} (hp : p ≤ m) (z : Asg) : sm (m + n) (fun v => R p v * z v) = (if p < m then z (h p) else 0) + sm (m + n) (fun v => (if dB m h v = true then 0 else R p v) * z v) := by
  have e : sm (m + n) (fun v => R p v * z v) = sm (m + n) (fun v => (if p < m ∧ v = h p then z v else 0) + (if dB m h v = true then 0 else R p v) * z v) := sm_congr (fun v hv => by
    cases c : dB m h v with
    | true =>
      obtain ⟨q, hq, e⟩ := dB_true c
      subst e
      rw [I.unit p hp q hq, if_pos rfl]
      by_cases d : p = q
      · rw [if_pos d, if_pos ⟨by omega, by rw [d]⟩]; grind
      · rw [if_neg d, if_neg (fun g => d (inv_inj I g.1 hq g.2.symm))]; grind
    | false =>
      rw [if_neg (fun g => dB_false c p g.1 g.2.symm), if_neg (by simp)]; grind)
  rw [e, sm_add]
  congr 1
  by_cases c : p < m
  · rw [if_pos c, sm_single (s := h p) (I.hN p c) (fun v hv ne => if_neg (fun g => ne g.2)), if_pos ⟨c, rfl⟩]
  · rw [if_neg c]; exact sm_zero' (fun v hv => if_neg (fun g => c g.1))

def dict (I : Inv m n a h R) : Dict (m + n) (S m n a) (f m) where
  B := dB m h
  b := db m n h R
  a := da m h R
  c := dc m h R
  v := - R m (m + n)
  a0 := fun i j e => by unfold da; rw [if_pos e]
  c0 := fun j e => by unfold dc; rw [if_pos e]
  row := fun z hz i hi e => by
    obtain ⟨q, hq, e2⟩ := dB_true e
    subst e2
    have h1 := I.row z hz q hq
    rw [row_parts I (by omega), if_pos hq] at h1
    rw [db_h I hq]
    have e3 : sm (m + n) (fun j => da m h R (h q) j * z j) = sm (m + n) (fun v => (if dB m h v = true then 0 else R q v) * z v) := sm_congr (fun v hv => by
      unfold da; rw [look_at I hq])
    rw [e3]; grind
  obj := fun z hz => by
    have h1 := I.obj z hz
    rw [row_parts I (Nat.le_refl m), if_neg (by omega)] at h1
    rw [h1]
    have e3 : sm (m + n) (fun j => dc m h R j * z j) = sm (m + n) (fun v => (if dB m h v = true then 0 else R m v) * z v) := rfl
    rw [e3]; grind
  ex := fun t => by
    refine ⟨fun v => match look h v m with
      | some q => R q (m + n) - sm (m + n) (fun u => (if dB m h u = true then 0 else R q u) * t u)
      | none => t v, I.back _ (fun p hp => ?_), fun j _ e => ?_⟩
    · rw [row_parts I (by omega), if_pos hp]
      simp only [look_at I hp]
      have e : sm (m + n) (fun v => (if dB m h v = true then 0 else R p v) * (match look h v m with
          | some q => R q (m + n) - sm (m + n) (fun u => (if dB m h u = true then 0 else R q u) * t u)
          | none => t v)) = sm (m + n) (fun u => (if dB m h u = true then 0 else R p u) * t u) := sm_congr (fun v hv => by
        cases c : dB m h v with
        | true => rw [if_pos rfl]; grind
        | false =>
          have : look h v m = none := by
            unfold dB at c
            exact Option.isNone_iff_eq_none.mp (by cases q : look h v m with
              | none => rfl
              | some k => rw [q] at c; exact Bool.noConfusion c)
          rw [this])
      rw [e]; grind
    · have : look h j m = none := by
        unfold dB at e
        exact Option.isNone_iff_eq_none.mp (by cases q : look h j m with
          | none => rfl
          | some k => rw [q] at e; exact Bool.noConfusion e)
      simp only [this]

/-- one turn as a step: only the unknowns may come in -/
theorem step_turn (I : Inv m n a h R) {r s : Nat} (hr : r < m) (hs : s < m + n) (sE : m ≤ s) (cs : 0 < R m s) (least : ∀ j, m ≤ j → j < s → R m j ≤ 0)
    (ps : 0 < R r s) (ratio : ∀ q, q < m → 0 < R q s → R r (m + n) * R q s ≤ R q (m + n) * R r s ∧ (R r (m + n) * R q s = R q (m + n) * R r s → h r ≤ h q)) (I' : Inv m n a (tH h r s) (tR R r s)) :
    Step (fun v => m ≤ v) (dict I) (dict I') s (h r) := by
  have sB : dB m h s = false := by
    cases c : dB m h s with
    | false => rfl
    | true =>
      obtain ⟨q, hq, e⟩ := dB_true c
      have := I.unit m (Nat.le_refl m) q hq
      rw [if_neg (by omega), e] at this
      grind
  exact {
    sN := hs
    tN := I.hN r hr
    sE := sE
    sB := sB
    tB := dB_h I hr
    cs := by show 0 < dc m h R s; rw [dc_v sB]; exact cs
    least := fun j hj jE => by
      show dc m h R j ≤ 0
      cases c : dB m h j with
      | true => unfold dc; rw [if_pos c]; grind
      | false => rw [dc_v c]; exact least j jE hj
    ats := by show 0 < da m h R (h r) s; rw [da_h I hr sB]; exact ps
    ratio := fun u hu hb hp => by
      obtain ⟨q, hq, e⟩ := dB_true hb
      subst e
      show db m n h R (h r) * da m h R (h q) s ≤ db m n h R (h q) * da m h R (h r) s
      have hp' : 0 < da m h R (h q) s := hp
      rw [da_h I hq sB] at hp'
      rw [db_h I hr, db_h I hq, da_h I hr sB, da_h I hq sB]
      exact (ratio q hq hp').1
    tie := fun u hu hb hp he => by
      obtain ⟨q, hq, e⟩ := dB_true hb
      subst e
      have he' : db m n h R (h r) * da m h R (h q) s = db m n h R (h q) * da m h R (h r) s := he
      have hp' : 0 < da m h R (h q) s := hp
      rw [da_h I hq sB] at hp'
      rw [db_h I hr, db_h I hq, da_h I hr sB, da_h I hq sB] at he'
      exact (ratio q hq hp').2 he'
    B' := fun v => by
      show dB m (tH h r s) v = if v = s then true else if v = h r then false else dB m h v
      by_cases c1 : v = s
      · rw [if_pos c1, c1]
        have := dB_h I' hr
        rwa [show tH h r s r = s from if_pos rfl] at this
      · rw [if_neg c1]
        by_cases c2 : v = h r
        · rw [if_pos c2]
          cases c : dB m (tH h r s) v with
          | false => rfl
          | true =>
            obtain ⟨q, hq, e⟩ := dB_true c
            unfold tH at e
            by_cases d : q = r
            · rw [if_pos d] at e; exact absurd e.symm c1
            · rw [if_neg d, c2] at e; exact absurd (inv_inj I hq hr e) d
        · rw [if_neg c2]
          cases c : dB m h v with
          | true =>
            obtain ⟨q, hq, e⟩ := dB_true c
            have d : q ≠ r := fun d => c2 (by rw [← e, d])
            have := dB_h I' hq
            rwa [show tH h r s q = h q from if_neg d, e] at this
          | false =>
            cases c3 : dB m (tH h r s) v with
            | false => rfl
            | true =>
              obtain ⟨q, hq, e⟩ := dB_true c3
              unfold tH at e
              by_cases d : q = r
              · rw [if_pos d] at e; exact absurd e.symm c1
              · rw [if_neg d] at e; exact absurd e (dB_false c q hq) }

/-! ### In whole numbers -/
def cols (m : Nat) (a : Nat → Nat → Int) (h : Nat → Nat) : Nat → Col := fun q p => if q < m then A0 m a p (h q) else if p = m then 1 else 0
def det (m : Nat) (a : Nat → Nat → Int) (h : Nat → Nat) : Rat := D (m + 1) (cols m a h)

theorem A0_whl (p v : Nat) : Whl (A0 m a p v) := by
  unfold A0
  split
  · split
    · split
      · exact ⟨1, rfl⟩
      · exact ⟨0, rfl⟩
    · exact ⟨_, rfl⟩
  · split
    · exact ⟨0, rfl⟩
    · exact whl_sm (fun q _ => ⟨_, rfl⟩)
theorem cols_whl (q p : Nat) : Whl (cols m a h q p) := by
  unfold cols
  split
  · exact A0_whl _ _
  · split
    · exact ⟨1, rfl⟩
    · exact ⟨0, rfl⟩

theorem col_comb (I : Inv m n a h R) {v : Nat} (hv : v ≤ m + n) {p : Nat} (hp : p ≤ m) : A0 m a p v = sm (m + 1) (fun q => R q v * cols m a h q p) := by
  rw [I.col v hv p hp]
  show _ = sm m (fun q => R q v * cols m a h q p) + R m v * cols m a h m p
  congr 1
  · exact sm_congr (fun q hq => by unfold cols; rw [if_pos hq])
  · unfold cols; rw [if_neg (Nat.lt_irrefl m)]
    by_cases c : p = m
    · rw [if_pos c, if_pos c]; grind
    · rw [if_neg c, if_neg c]; grind

/-- the determinant with a column in another one's place -/
theorem det_put (I : Inv m n a h R) {v : Nat} (hv : v ≤ m + n) {q : Nat} (hq : q ≤ m) : D (m + 1) (put (cols m a h) q (fun p => A0 m a p v)) = R q v * det m a h := by
  have e : D (m + 1) (put (cols m a h) q (fun p => A0 m a p v)) = D (m + 1) (put (cols m a h) q (fun p => sm (m + 1) (fun k => R k v * cols m a h k p))) := D_congr _ (fun j hj p hp => by
    unfold put
    split
    · exact col_comb I hv (by omega)
    · rfl)
  rw [e]
  exact D_comb (cols m a h) (fun k => R k v) (by omega)
theorem det_R_whl (I : Inv m n a h R) {v : Nat} (hv : v ≤ m + n) {q : Nat} (hq : q ≤ m) : Whl (det m a h * R q v) := by
  rw [Rat.mul_comm, ← det_put I hv hq]
  refine D_whl _ (fun j hj p hp => ?_)
  unfold put
  split
  · exact A0_whl _ _
  · exact cols_whl _ _
theorem det_turn (I : Inv m n a h R) {r s : Nat} (hr : r < m) (hs : s < m + n) : det m a (tH h r s) = det m a h * R r s := by
  rw [Rat.mul_comm, ← det_put I (by omega : s ≤ m + n) (by omega : r ≤ m)]
  refine D_congr _ (fun j hj p hp => ?_)
  unfold put cols tH
  by_cases c : j = r
  · rw [if_pos c, if_pos c, if_pos (by omega)]
  · rw [if_neg c, if_neg c]
theorem det_start : det m a (fun q => m - 1 - q) = 1 := by
  have e : det m a (fun q => m - 1 - q) = D (m + 1) (fun j p => if j = p then 1 else 0) := D_congr _ (fun j hj p hp => by
    unfold cols
    by_cases c : j < m
    · rw [if_pos c]
      show A0 m a p (m - 1 - j) = if j = p then 1 else 0
      by_cases d : p < m
      · rw [A0_gap d (by omega)]
        by_cases g : j = p
        · rw [if_pos g, if_pos (by omega)]
        · rw [if_neg g, if_neg (by omega)]
      · obtain rfl : p = m := by omega
        rw [A0_m (by omega : p - 1 - j < p), if_neg (by omega)]
    · rw [if_neg c]
      obtain rfl : j = m := by omega
      by_cases d : p = j
      · rw [if_pos d, if_pos d.symm]
      · rw [if_neg d, if_neg (fun e => d e.symm)])
  rw [e, D_unit]

end Tb
end
section
/-! The program's equations.solvable, on lists of whole numbers: it ends, and says whether unknowns of 0 or more meet all. -/
namespace Sv
open Bl Dt Tb

abbrev Rows := List (List Int)
structure St where
  rows : Rows
  holders : List Int
  scale : Int

def T (rows : Rows) (p x : Nat) : Int := (rows.getD p []).getD x 0
def sumRows (rows : Rows) : List Int := (List.range (rows.getD 0 []).length).map fun c => (rows.map fun row => row.getD c 0).foldl (· + ·) 0
def start (eqs : Rows) : St := ⟨eqs ++ [sumRows eqs], (List.range eqs.length).map fun (p : Nat) => -1 - (p : Int), 1⟩
/-- the last row -/
def lastRow (s : St) : List Int := s.rows.getD (s.rows.length - 1) []
def lastOf (row : List Int) : Int := row.getD (row.length - 1) 0
def going (s : St) : Bool := decide (0 < lastOf (lastRow s))
def firstAbove (row : List Int) : Option Nat := (List.range (row.length - 1)).find? fun c => decide (0 < row.getD c 0)
def tighter (rows : Rows) (holders : List Int) (c p o : Nat) : Bool :=
  decide (lastOf (rows.getD p []) * T rows o c < lastOf (rows.getD o []) * T rows p c) ||
    (decide (lastOf (rows.getD p []) * T rows o c = lastOf (rows.getD o []) * T rows p c) && decide (holders.getD p 0 < holders.getD o 0))
def tightest (rows : Rows) (holders : List Int) (c : Nat) : Option Nat := (List.range holders.length).foldl (fun b p => if 0 < T rows p c ∧ (match b with
  | none => true
  | some o => tighter rows holders c p o) = true then some p else b) none
def exchanged (rows : Rows) (place c : Nat) (scale : Int) : Rows := rows.zipIdx.map fun x => if x.2 = place then x.1 else List.zipWith (fun here there => (T rows place c * here - x.1.getD c 0 * there) / scale) x.1 (rows.getD place [])
def turned (s : St) (c r : Nat) : St := ⟨exchanged s.rows r c s.scale, s.holders.set r (c : Int), T s.rows r c⟩

/-! ### The link to fractions -/
structure Rel (m n : Nat) (a : Nat → Nat → Int) (s : St) (h : Nat → Nat) (R : Nat → Nat → Rat) : Prop where
  inv : Inv m n a h R
  rl : s.rows.length = m + 1
  cl : ∀ p, p ≤ m → (s.rows.getD p []).length = n + 1
  hl : s.holders.length = m
  hq : ∀ q, q < m → s.holders.getD q 0 = (h q : Int) - (m : Int)
  dt : (s.scale : Rat) = det m a h
  dp : 0 < s.scale
  t : ∀ p, p ≤ m → ∀ x, x ≤ n → (T s.rows p x : Rat) = (s.scale : Rat) * R p (m + x)
  feas : ∀ q, q < m → 0 ≤ R q (m + n)

variable {m n : Nat} {a : Nat → Nat → Int} {s : St} {h : Nat → Nat} {R : Nat → Nat → Rat}

theorem Rel.dpos (r : Rel m n a s h R) : (0 : Rat) < (s.scale : Rat) := Rat.intCast_pos.mpr r.dp
theorem Rel.lastOf_eq (r : Rel m n a s h R) {p : Nat} (hp : p ≤ m) : lastOf (s.rows.getD p []) = T s.rows p n := by
  unfold lastOf T; rw [r.cl p hp]; rfl
theorem Rel.lastRow_eq (r : Rel m n a s h R) : lastRow s = s.rows.getD m [] := by
  unfold lastRow; rw [r.rl]; rfl
theorem pos_scale {d x y : Rat} (hd : 0 < d) (e : y = d * x) : 0 < y ↔ 0 < x := by
  subst e
  constructor
  · intro q
    rcases (Rat.le_total : x ≤ 0 ∨ 0 ≤ x) with g | g
    · have : x * d ≤ 0 * d := Rat.mul_le_mul_of_nonneg_right g (Rat.le_of_lt hd)
      grind
    · have : x ≠ 0 := fun e => by rw [e] at q; grind
      grind
  · intro q; exact Rat.mul_pos hd q
theorem Rel.pos_iff (r : Rel m n a s h R) {p x : Nat} (hp : p ≤ m) (hx : x ≤ n) : 0 < T s.rows p x ↔ 0 < R p (m + x) := by
  rw [← pos_scale r.dpos (r.t p hp x hx)]
  exact Rat.intCast_pos.symm

/-- a division that leaves nothing over -/
theorem exact_div {X d : Int} {y : Rat} (hd : 0 < d) (e : (X : Rat) = (d : Rat) * y) (hy : Whl y) : ((X / d : Int) : Rat) = y := by
  obtain ⟨z, rfl⟩ := hy
  have : X = d * z := by
    rw [← Rat.intCast_mul] at e
    exact Rat.intCast_inj.mp e
  rw [this, Int.mul_ediv_cancel_left _ (by omega)]

theorem T_exch (r : Rel m n a s h R) {q c : Nat} (hq : q ≤ m) {p x : Nat} (hp : p ≤ m) (hx : x ≤ n) :
    T (exchanged s.rows q c s.scale) p x = if p = q then T s.rows p x else (T s.rows q c * T s.rows p x - T s.rows p c * T s.rows q x) / s.scale := by
  unfold exchanged
  conv => lhs; unfold T
  rw [Sh.getD_zipIdx _ _ _ [] _ (by rw [r.rl]; omega)]
  by_cases e : p = q
  · rw [if_pos e]; simp only [if_pos e]; rfl
  · rw [if_neg e]; simp only [if_neg e]
    rw [Sh.getD_zip _ _ _ _ 0 0 _ (by rw [r.cl p hp]; omega) (by rw [r.cl q hq]; omega)]
    rfl

theorem rel_turn (r : Rel m n a s h R) {c q : Nat} (hc : c < n) (hq : q < m) (hp : 0 < T s.rows q c)
    (feas' : ∀ k, k < m → 0 ≤ tR R q (m + c) k (m + n)) : Rel m n a (turned s c q) (tH h q (m + c)) (tR R q (m + c)) := by
  have ps : 0 < R q (m + c) := (r.pos_iff (by omega) (by omega)).mp hp
  have I' := inv_turn r.inv (s := m + c) hq (by omega) (by grind)
  have tq := r.t q (by omega) c (by omega)
  have dt' := det_turn r.inv (s := m + c) hq (by omega)
  have ne : R q (m + c) ≠ 0 := by grind
  refine { inv := I', rl := ?_, cl := ?_, hl := ?_, hq := ?_, dt := ?_, dp := hp, t := ?_, feas := feas' }
  · show (exchanged s.rows q c s.scale).length = _
    unfold exchanged; rw [List.length_map, List.length_zipIdx, r.rl]
  · intro p hp'
    show ((exchanged s.rows q c s.scale).getD p []).length = _
    unfold exchanged
    rw [Sh.getD_zipIdx _ _ _ [] _ (by rw [r.rl]; omega)]
    by_cases e : p = q
    · simp only [if_pos e]; exact r.cl p hp'
    · simp only [if_neg e]
      rw [List.length_zipWith, r.cl p hp', r.cl q (by omega)]; omega
  · show (s.holders.set q (c : Int)).length = m
    rw [List.length_set, r.hl]
  · intro k hk
    show (s.holders.set q (c : Int)).getD k 0 = _
    rw [Sh.getD_set _ _ _ _ _ (by rw [r.hl]; exact hq)]
    unfold tH
    by_cases e : k = q
    · rw [if_pos e, if_pos e]; omega
    · rw [if_neg e, if_neg e]; exact r.hq k hk
  · show (T s.rows q c : Rat) = _
    rw [tq, dt', r.dt]
  · intro p hp' x hx
    show (T (exchanged s.rows q c s.scale) p x : Rat) = (T s.rows q c : Rat) * _
    rw [T_exch r (by omega) hp' hx]
    by_cases e : p = q
    · rw [if_pos e, e, tR_r, tq, r.t q (by omega) x hx]; grind
    · rw [if_neg e, tR_ne _ _ e]
      have wh := det_R_whl I' (v := m + x) (by omega) (q := p) hp'
      rw [dt', ← r.dt, tR_ne _ _ e] at wh
      refine (exact_div r.dp ?_ (y := (s.scale : Rat) * R q (m + c) * (R p (m + x) - R p (m + c) * (R q (m + x) / R q (m + c)))) wh).trans ?_
      · rw [Rat.intCast_sub, Rat.intCast_mul, Rat.intCast_mul, tq, r.t p hp' x hx, r.t p hp' c (by omega), r.t q (by omega) x hx]
        grind
      · rw [tq]

/-! ### Choosing -/
theorem firstAbove_spec (r : Rel m n a s h R) : (firstAbove (lastRow s) = none ∧ ∀ x, x < n → R m (m + x) ≤ 0) ∨
    ∃ c, firstAbove (lastRow s) = some c ∧ c < n ∧ 0 < R m (m + c) ∧ ∀ j, m ≤ j → j < m + c → R m j ≤ 0 := by
  have e : ∀ x, x < n → (0 < (lastRow s).getD x 0 ↔ 0 < R m (m + x)) := fun x hx => by
    rw [r.lastRow_eq]
    exact r.pos_iff (Nat.le_refl m) (by omega)
  have len : (lastRow s).length - 1 = n := by rw [r.lastRow_eq, r.cl m (Nat.le_refl m)]; rfl
  unfold firstAbove
  rw [len]
  cases c : (List.range n).find? fun c => decide (0 < (lastRow s).getD c 0) with
  | none =>
    refine Or.inl ⟨rfl, fun x hx => ?_⟩
    have := List.find?_eq_none.mp c x (List.mem_range.mpr hx)
    have h2 : ¬ 0 < R m (m + x) := fun q => this (decide_eq_true ((e x hx).mpr q))
    grind
  | some k =>
    have h1 := List.mem_range.mp (List.mem_of_find?_eq_some c)
    have h2 := List.find?_some c
    refine Or.inr ⟨k, rfl, h1, (e k h1).mp (of_decide_eq_true h2), fun j hj hk => ?_⟩
    obtain ⟨h3, i, hi, h4, h5⟩ := List.find?_eq_some_iff_getElem.mp c
    rw [List.getElem_range] at h4
    subst h4
    have h6 := h5 (j - m) (by omega)
    rw [List.getElem_range] at h6
    have h7 : ¬ 0 < R m (m + (j - m)) := fun q => by
      have := (e (j - m) (by omega)).mpr q
      simp only [decide_eq_true this] at h6
      exact Bool.noConfusion h6
    rw [show m + (j - m) = j by omega] at h7
    grind

def ratio (n m : Nat) (R : Nat → Nat → Rat) (c p : Nat) : Rat := R p (m + n) / R p (m + c)
def beats (n m : Nat) (h : Nat → Nat) (R : Nat → Nat → Rat) (c p o : Nat) : Bool := decide (ratio n m R c p < ratio n m R c o ∨ (ratio n m R c p = ratio n m R c o ∧ h p < h o))

theorem tighter_eq (r : Rel m n a s h R) {c p o : Nat} (hc : c < n) (hp : p < m) (ho : o < m) (pp : 0 < R p (m + c)) (po : 0 < R o (m + c)) : tighter s.rows s.holders c p o = beats n m h R c p o := by
  have dp := r.dpos
  have dd : (0 : Rat) < (s.scale : Rat) * (s.scale : Rat) * (R p (m + c) * R o (m + c)) := Rat.mul_pos (Rat.mul_pos dp dp) (Rat.mul_pos pp po)
  have e1 : ((lastOf (s.rows.getD p []) * T s.rows o c : Int) : Rat) = (s.scale : Rat) * (s.scale : Rat) * (R p (m + c) * R o (m + c)) * ratio n m R c p := by
    rw [r.lastOf_eq (by omega), Rat.intCast_mul, r.t p (by omega) n (by omega), r.t o (by omega) c (by omega)]
    unfold ratio; grind
  have e2 : ((lastOf (s.rows.getD o []) * T s.rows p c : Int) : Rat) = (s.scale : Rat) * (s.scale : Rat) * (R p (m + c) * R o (m + c)) * ratio n m R c o := by
    rw [r.lastOf_eq (by omega), Rat.intCast_mul, r.t o (by omega) n (by omega), r.t p (by omega) c (by omega)]
    unfold ratio; grind
  have hh : s.holders.getD p 0 < s.holders.getD o 0 ↔ h p < h o := by
    rw [r.hq p hp, r.hq o ho]; omega
  have lt : lastOf (s.rows.getD p []) * T s.rows o c < lastOf (s.rows.getD o []) * T s.rows p c ↔ ratio n m R c p < ratio n m R c o := by
    have q := pos_scale (x := ratio n m R c o - ratio n m R c p) (y := ((lastOf (s.rows.getD o []) * T s.rows p c - lastOf (s.rows.getD p []) * T s.rows o c : Int) : Rat)) dd (by rw [Rat.intCast_sub, e1, e2]; grind)
    rw [Rat.intCast_pos] at q
    constructor
    · intro g; have := q.mp (by omega); grind
    · intro g; have := q.mpr (by grind); omega
  have eq : lastOf (s.rows.getD p []) * T s.rows o c = lastOf (s.rows.getD o []) * T s.rows p c ↔ ratio n m R c p = ratio n m R c o := by
    constructor
    · intro g
      rw [g, e2] at e1
      have : (s.scale : Rat) * (s.scale : Rat) * (R p (m + c) * R o (m + c)) * (ratio n m R c o - ratio n m R c p) = 0 := by grind
      rcases Rat.mul_eq_zero.mp this with q | q <;> grind
    · intro g
      rw [g, ← e2] at e1
      exact Rat.intCast_inj.mp e1
  unfold tighter beats
  rw [Bool.eq_iff_iff]
  simp only [Bool.or_eq_true, Bool.and_eq_true, decide_eq_true_iff]
  rw [lt, eq, hh]

theorem tightest_eq (rows : Rows) (holders : List Int) (c : Nat) : tightest rows holders c = ((List.range holders.length).filter fun p => decide (0 < T rows p c)).foldl (Sh.pick fun p o => tighter rows holders c p o) none := by
  rw [List.foldl_filter]
  unfold tightest
  congr 1
  funext b p
  by_cases q : 0 < T rows p c
  · cases b with
    | none => simp [q, Sh.pick]
    | some o => simp [q, Sh.pick]
  · simp [q]

theorem tightest_spec (r : Rel m n a s h R) {c : Nat} (hc : c < n) : (tightest s.rows s.holders c = none ∧ ∀ p, p < m → R p (m + c) ≤ 0) ∨
    ∃ q, tightest s.rows s.holders c = some q ∧ q < m ∧ 0 < R q (m + c) ∧ ∀ p, p < m → 0 < R p (m + c) → R q (m + n) * R p (m + c) ≤ R p (m + n) * R q (m + c) ∧ (R q (m + n) * R p (m + c) = R p (m + n) * R q (m + c) → h q ≤ h p) := by
  rw [tightest_eq]
  have mem : ∀ x, x ∈ (List.range s.holders.length).filter (fun p => decide (0 < T s.rows p c)) ↔ x < m ∧ 0 < R x (m + c) := by
    intro x
    rw [List.mem_filter, List.mem_range, r.hl]
    constructor
    · rintro ⟨h1, h2⟩; exact ⟨h1, (r.pos_iff (by omega) (by omega)).mp (of_decide_eq_true h2)⟩
    · rintro ⟨h1, h2⟩; exact ⟨h1, decide_eq_true ((r.pos_iff (by omega) (by omega)).mpr h2)⟩
  rw [Sh.pick_congr (γ := beats n m h R c) _ _ (fun x hx y hy => by
    have hx' := (mem x).mp (by rcases hx with q | q; exact q; exact absurd q (by simp))
    have hy' := (mem y).mp (by rcases hy with q | q; exact q; exact absurd q (by simp))
    exact tighter_eq r hc hx'.1 hy'.1 hx'.2 hy'.2)]
  rcases Sh.pick_best (β := beats n m h R c) (fun x y e => by unfold beats at *; simp only [decide_eq_true_iff, decide_eq_false_iff_not] at e ⊢; grind) (fun x k m e1 e2 => by unfold beats at *; simp only [decide_eq_false_iff_not] at e1 e2 ⊢; grind)
    ((List.range s.holders.length).filter fun p => decide (0 < T s.rows p c)) with ⟨e, e2⟩ | ⟨q, e, hm, hx⟩
  · refine Or.inl ⟨e, fun p hp => ?_⟩
    apply Classical.byContradiction
    intro g
    have := (mem p).mpr ⟨hp, by grind⟩
    rw [e2] at this
    simp at this
  · obtain ⟨hq, pq⟩ := (mem q).mp hm
    refine Or.inr ⟨q, e, hq, pq, fun p hp pp => ?_⟩
    have := hx p ((mem p).mpr ⟨hp, pp⟩)
    unfold beats at this
    simp only [decide_eq_false_iff_not] at this
    have prod : 0 < R q (m + c) * R p (m + c) := Rat.mul_pos pq pp
    have e1 : R q (m + n) * R p (m + c) = ratio n m R c q * (R q (m + c) * R p (m + c)) := by unfold ratio; grind
    have e2 : R p (m + n) * R q (m + c) = ratio n m R c p * (R q (m + c) * R p (m + c)) := by unfold ratio; grind
    rw [e1, e2]
    refine ⟨Rat.mul_le_mul_of_nonneg_right (by grind) (Rat.le_of_lt prod), fun g => ?_⟩
    have g2 : (ratio n m R c q - ratio n m R c p) * (R q (m + c) * R p (m + c)) = 0 := by grind
    have g3 : ratio n m R c q = ratio n m R c p := by rcases Rat.mul_eq_zero.mp g2 with e | e <;> grind
    have : ¬ h p < h q := fun c => this (Or.inr ⟨g3.symm, c⟩)
    omega

/-! ### One turn -/
theorem f_le {z : Asg} (z0 : ∀ j, j < m + n → 0 ≤ z j) : f m z ≤ 0 := by
  have : 0 ≤ sm m z := sm_nonneg (fun i hi => z0 i (by omega))
  unfold f; grind

theorem Rel.dfeas (r : Rel m n a s h R) : (dict r.inv).Feas := fun u hu hb => by
  obtain ⟨q, hq, e⟩ := dB_true hb
  subst e
  show 0 ≤ db m n h R (h q)
  rw [db_h r.inv hq]
  exact r.feas q hq

theorem turn_ok (r : Rel m n a s h R) {c : Nat} (hc : firstAbove (lastRow s) = some c) :
    ∃ q, tightest s.rows s.holders c = some q ∧ q < m ∧ c < n ∧ 0 < T s.rows q c ∧ ∃ r' : Rel m n a (turned s c q) (tH h q (m + c)) (tR R q (m + c)),
      Step (fun v => m ≤ v) (dict r.inv) (dict r'.inv) (m + c) (h q) := by
  rcases firstAbove_spec r with ⟨e, _⟩ | ⟨c', e, cn, cp, cl⟩
  · rw [e] at hc; exact absurd hc (by simp)
  rw [e] at hc
  obtain rfl : c' = c := Option.some.inj hc
  rcases tightest_spec r cn with ⟨e2, no⟩ | ⟨q, e2, hq, pq, le⟩
  · exfalso
    have sB : dB m h (m + c') = false := by
      cases g : dB m h (m + c') with
      | false => rfl
      | true =>
        obtain ⟨k, hk, e⟩ := dB_true g
        have := r.inv.unit m (Nat.le_refl m) k hk
        rw [if_neg (by omega), e] at this
        grind
    obtain ⟨z, hz, z0, lt⟩ := unbounded (dict r.inv) r.dfeas (s := m + c') (by omega) sB (by
      show 0 < dc m h R (m + c'); rw [dc_v sB]; exact cp) (fun u hu hb => by
        obtain ⟨k, hk, e⟩ := dB_true hb
        subst e
        show da m h R (h k) (m + c') ≤ 0
        rw [da_h r.inv hk sB]
        exact no k hk) 0
    have := f_le z0
    grind
  · have I' := inv_turn r.inv (s := m + c') hq (by omega) (by grind)
    have st := step_turn r.inv hq (by omega : m + c' < m + n) (by omega) cp cl pq le I'
    have fe := st.feas r.dfeas
    have tp := (r.pos_iff (by omega : q ≤ m) (by omega : c' ≤ n)).mpr pq
    have r' := rel_turn r cn hq tp (fun k hk => by
      have := fe _ (I'.hN k hk) (dB_h I' hk)
      have e : (dict I').b (tH h q (m + c') k) = tR R q (m + c') k (m + n) := db_h I' hk
      rw [e] at this
      exact this)
    exact ⟨q, e2, hq, cn, tp, r', st⟩

/-! ### The run -/
structure G where
  st : St
  h : Nat → Nat
  R : Nat → Nat → Rat
def Ended (s : St) : Prop := going s = false ∨ firstAbove (lastRow s) = none
def nxtS (s : St) : St := if going s = true then (match firstAbove (lastRow s) with
  | none => s
  | some c => match tightest s.rows s.holders c with
    | none => s
    | some q => turned s c q) else s
def nxtG (m : Nat) (g : G) : G := if going g.st = true then (match firstAbove (lastRow g.st) with
  | none => g
  | some c => match tightest g.st.rows g.st.holders c with
    | none => g
    | some q => ⟨turned g.st c q, tH g.h q (m + c), tR g.R q (m + c)⟩) else g
def stAt (s : St) : Nat → St
  | 0 => s
  | k + 1 => nxtS (stAt s k)
def gAt (m : Nat) (g : G) : Nat → G
  | 0 => g
  | k + 1 => nxtG m (gAt m g k)
def RelG (m n : Nat) (a : Nat → Nat → Int) (g : G) : Prop := Rel m n a g.st g.h g.R

theorem nxtG_st (m : Nat) (g : G) : (nxtG m g).st = nxtS g.st := by
  unfold nxtG nxtS
  by_cases c : going g.st = true
  · rw [if_pos c, if_pos c]
    cases firstAbove (lastRow g.st) with
    | none => rfl
    | some c =>
      simp only
      cases tightest g.st.rows g.st.holders c <;> rfl
  · rw [if_neg c, if_neg c]
theorem gAt_st (m : Nat) (g : G) : ∀ k, (gAt m g k).st = stAt g.st k
  | 0 => rfl
  | k + 1 => by
    show (nxtG m (gAt m g k)).st = nxtS (stAt g.st k)
    rw [nxtG_st, gAt_st m g k]
theorem nxtG_ok {g : G} (r : RelG m n a g) : RelG m n a (nxtG m g) := by
  unfold nxtG
  by_cases c : going g.st = true
  · rw [if_pos c]
    cases e : firstAbove (lastRow g.st) with
    | none => exact r
    | some c =>
      obtain ⟨q, e2, _, _, _, r', _⟩ := turn_ok r e
      simp only [e2]
      exact r'
  · rw [if_neg c]; exact r
theorem gAt_ok {g : G} (r : RelG m n a g) : ∀ k, RelG m n a (gAt m g k)
  | 0 => r
  | k + 1 => nxtG_ok (gAt_ok r k)

theorem not_ended {s : St} (e : ¬ Ended s) : going s = true ∧ ∃ c, firstAbove (lastRow s) = some c := by
  constructor
  · cases c : going s with
    | true => rfl
    | false => exact absurd (Or.inl c) e
  · cases c : firstAbove (lastRow s) with
    | none => exact absurd (Or.inr c) e
    | some k => exact ⟨k, rfl⟩

theorem run_short {g : G} (r : RelG m n a g) {K : Nat} (ne : ∀ k, k < K → ¬ Ended (gAt m g k).st) : K + 1 ≤ 2 ^ (m + n) := by
  have ex : ∀ k, k < K → ∃ s t, Step (fun v => m ≤ v) (dict (gAt_ok r k).inv) (dict (gAt_ok r (k + 1)).inv) s t := fun k hk => by
    obtain ⟨h1, c, h2⟩ := not_ended (ne k hk)
    obtain ⟨q, e2, _, _, _, r', st⟩ := turn_ok (gAt_ok r k) h2
    refine ⟨m + c, (gAt m g k).h q, ?_⟩
    have e : gAt m g (k + 1) = ⟨turned (gAt m g k).st c q, tH (gAt m g k).h q (m + c), tR (gAt m g k).R q (m + c)⟩ := by
      show nxtG m (gAt m g k) = _
      unfold nxtG
      rw [if_pos h1, h2]; simp only; rw [e2]
    have gen : ∀ (g2 : G) (r2 : RelG m n a g2), g2 = ⟨turned (gAt m g k).st c q, tH (gAt m g k).h q (m + c), tR (gAt m g k).R q (m + c)⟩ →
        Step (fun v => m ≤ v) (dict (gAt_ok r k).inv) (dict r2.inv) (m + c) ((gAt m g k).h q) := by
      intro g2 r2 e
      subst e
      exact st
    exact gen _ (gAt_ok r (k + 1)) e
  have run : Run (fun v => m ≤ v) (fun k => dict (gAt_ok r k).inv) (fun k => if h : k < K then (ex k h).choose else 0) (fun k => if h : k < K then (ex k h).choose_spec.choose else 0) K :=
    ⟨(gAt_ok r 0).dfeas, fun k hk => by
      have := (ex k hk).choose_spec.choose_spec
      simp only [dif_pos hk]
      exact this⟩
  exact run.short

/-- it ends -/
theorem ends {g : G} (r : RelG m n a g) : ∃ K, Ended (gAt m g K).st ∧ ∀ k, k < K → ¬ Ended (gAt m g k).st := by
  apply Classical.byContradiction
  intro no
  have all : ∀ k, ¬ Ended (gAt m g k).st := by
    intro k
    induction k using Nat.strongRecOn with
    | ind k ih => exact fun e => no ⟨k, e, ih⟩
  have := run_short r (K := 2 ^ (m + n)) (fun k _ => all k)
  omega

/-- unknowns of 0 or more that meet all -/
def Solution (m n : Nat) (a : Nat → Nat → Int) (x : Nat → Rat) : Prop := (∀ j, j < n → 0 ≤ x j) ∧ ∀ p, p < m → sm n (fun j => (a p j : Rat) * x j) = (a p n : Rat)

theorem yes (r : Rel m n a s h R) (e : going s = false) : ∃ x, Solution m n a x := by
  have h1 : ¬ 0 < R m (m + n) := fun q => by
    have := (r.pos_iff (Nat.le_refl m) (Nat.le_refl n)).mpr q
    rw [← r.lastOf_eq (Nat.le_refl m), ← r.lastRow_eq] at this
    unfold going at e
    rw [decide_eq_true this] at e
    exact Bool.noConfusion e
  obtain ⟨z, hz, z0, _, hf⟩ := attained (dict r.inv) r.dfeas
  have hv : (dict r.inv).v = - R m (m + n) := rfl
  rw [hv] at hf
  have sum0 : sm m z ≤ 0 := by unfold f at hf; grind
  have gap : ∀ i, i < m → z i = 0 := fun i hi => by
    rw [sm_take (s := i) hi] at sum0
    have h2 : 0 ≤ sm m (fun j => if j = i then 0 else z j) := sm_nonneg (fun j hj => by
      show 0 ≤ if j = i then 0 else z j
      split
      · grind
      · exact z0 j (by omega))
    have h3 := z0 i (by omega)
    grind
  refine ⟨fun j => z (m + j), fun j hj => z0 _ (by omega), fun p hp => ?_⟩
  have := (S_iff z).mp hz p hp
  rw [gap (m - 1 - p) (by omega)] at this
  grind
theorem no (r : Rel m n a s h R) (e1 : going s = true) (e2 : firstAbove (lastRow s) = none) : ¬ ∃ x, Solution m n a x := by
  rintro ⟨x, x0, hx⟩
  have h1 : 0 < R m (m + n) := by
    refine (r.pos_iff (Nat.le_refl m) (Nat.le_refl n)).mp ?_
    rw [← r.lastOf_eq (Nat.le_refl m), ← r.lastRow_eq]
    unfold going at e1
    exact of_decide_eq_true e1
  rcases firstAbove_spec r with ⟨_, le⟩ | ⟨c, e, _⟩
  · have := best (E := fun v => m ≤ v) (dict r.inv) (fun j hj jE => by
      show dc m h R j ≤ 0
      cases c : dB m h j with
      | true => unfold dc; rw [if_pos c]; grind
      | false =>
        rw [dc_v c]
        have := le (j - m) (by omega)
        rwa [show m + (j - m) = j by omega] at this) (z := fun v => if v < m then 0 else x (v - m)) ((S_iff _).mpr (fun p hp => by
          have e : sm n (fun j => (a p j : Rat) * (if m + j < m then 0 else x (m + j - m))) = sm n (fun j => (a p j : Rat) * x j) := sm_congr (fun j hj => by
            rw [if_neg (by omega), show m + j - m = j by omega])
          show (if m - 1 - p < m then 0 else _) + sm n (fun j => (a p j : Rat) * (if m + j < m then 0 else x (m + j - m))) = _
          rw [if_pos (by omega), e, hx p hp]; grind)) (fun j hj => by
            show 0 ≤ if j < m then 0 else x (j - m)
            split
            · grind
            · exact x0 _ (by omega)) (fun j hj jE _ => by
              show (if j < m then 0 else x (j - m)) = 0
              rw [if_pos (by omega)])
    have hv : (dict r.inv).v = - R m (m + n) := rfl
    rw [hv] at this
    have z0 : sm m (fun v => if v < m then 0 else x (v - m)) = 0 := sm_zero' (fun v hv => if_pos hv)
    unfold f at this
    rw [z0] at this
    grind
  · rw [e2] at e; exact absurd e (by simp)

/-! ### The start -/
theorem foldl_sm (l : List (List Int)) (c : Nat) : ∀ (k : Int), (((l.map fun row => row.getD c 0).foldl (· + ·) k : Int) : Rat) = (k : Rat) + sm l.length (fun q => (((l.getD q []).getD c 0 : Int) : Rat)) := by
  induction l with
  | nil => intro k; show (k : Rat) = k + 0; grind
  | cons x l ih =>
    intro k
    rw [List.map_cons, List.foldl_cons, ih, List.length_cons, Tb.sm_first, Rat.intCast_add]
    have e : sm l.length (fun i => ((((x :: l).getD (i + 1) []).getD c 0 : Int) : Rat)) = sm l.length (fun q => (((l.getD q []).getD c 0 : Int) : Rat)) := sm_congr (fun i _ => by simp)
    rw [e]
    show _ = (k : Rat) + (((x.getD c 0 : Int) : Rat) + _)
    grind

def coef (eqs : Rows) (p x : Nat) : Int := (eqs.getD p []).getD x 0

theorem rel_start {eqs : Rows} {n : Nat} (m0 : 0 < eqs.length) (hl : ∀ row ∈ eqs, row.length = n + 1) (pos : ∀ row ∈ eqs, 0 ≤ row.getD n 0) :
    Rel eqs.length n (coef eqs) (start eqs) (fun q => eqs.length - 1 - q) (A0 eqs.length (coef eqs)) := by
  have mem : ∀ p, p < eqs.length → eqs.getD p [] ∈ eqs := fun p hp => by
    rw [List.getD_eq_getElem?_getD, List.getElem?_eq_getElem hp]; exact List.getElem_mem hp
  have g1 : ∀ p, p < eqs.length → (start eqs).rows.getD p [] = eqs.getD p [] := fun p hp => by
    show (eqs ++ [sumRows eqs]).getD p [] = _
    rw [List.getD_eq_getElem?_getD, List.getD_eq_getElem?_getD, List.getElem?_append_left hp]
  have g2 : (start eqs).rows.getD eqs.length [] = sumRows eqs := by
    show (eqs ++ [sumRows eqs]).getD eqs.length [] = _
    rw [List.getD_eq_getElem?_getD, List.getElem?_append_right (Nat.le_refl _)]; simp
  have len0 : (eqs.getD 0 []).length = n + 1 := hl _ (mem 0 m0)
  refine { inv := inv_start, rl := ?_, cl := ?_, hl := ?_, hq := ?_, dt := ?_, dp := (by show (0 : Int) < 1; decide), t := ?_, feas := ?_ }
  · show (eqs ++ [sumRows eqs]).length = _; simp
  · intro p hp
    by_cases c : p < eqs.length
    · rw [g1 p c]; exact hl _ (mem p c)
    · obtain rfl : p = eqs.length := by omega
      rw [g2]; unfold sumRows; rw [List.length_map, List.length_range, len0]
  · show ((List.range eqs.length).map fun (p : Nat) => -1 - (p : Int)).length = _; simp
  · intro q hq
    show ((List.range eqs.length).map fun (p : Nat) => -1 - (p : Int)).getD q 0 = _
    rw [List.getD_eq_getElem?_getD, List.getElem?_map, List.getElem?_range hq]
    show -1 - (q : Int) = _
    omega
  · rw [det_start]; rfl
  · intro p hp x hx
    have one : ((start eqs).scale : Rat) = 1 := rfl
    rw [one]
    unfold T
    by_cases c : p < eqs.length
    · rw [g1 p c, A0_x c]; unfold coef; grind
    · obtain rfl : p = eqs.length := by omega
      rw [g2, A0_mx]
      unfold sumRows
      rw [List.getD_eq_getElem?_getD, List.getElem?_map, List.getElem?_range (by rw [len0]; omega)]
      show (((eqs.map fun row => row.getD x 0).foldl (· + ·) 0 : Int) : Rat) = _
      rw [foldl_sm]
      show ((0 : Int) : Rat) + sm eqs.length (fun q => (((eqs.getD q []).getD x 0 : Int) : Rat)) = 1 * sm eqs.length (fun q => (coef eqs q x : Rat))
      unfold coef
      have : ((0 : Int) : Rat) = 0 := rfl
      rw [this]; grind
  · intro q hq
    rw [A0_x hq]
    exact Rat.intCast_nonneg.mpr (pos _ (mem q hq))

/-- **the equations**: the run from the start ends; it says yes just if there are such unknowns -/
theorem solvable_spec {eqs : Rows} {n : Nat} (m0 : 0 < eqs.length) (hl : ∀ row ∈ eqs, row.length = n + 1) (pos : ∀ row ∈ eqs, 0 ≤ row.getD n 0) :
    ∃ K, (∀ k, k < K → going (stAt (start eqs) k) = true ∧ ∃ c q, firstAbove (lastRow (stAt (start eqs) k)) = some c ∧ tightest (stAt (start eqs) k).rows (stAt (start eqs) k).holders c = some q ∧ stAt (start eqs) (k + 1) = turned (stAt (start eqs) k) c q) ∧
      ((going (stAt (start eqs) K) = false ∧ ∃ x, Solution eqs.length n (coef eqs) x) ∨ (going (stAt (start eqs) K) = true ∧ firstAbove (lastRow (stAt (start eqs) K)) = none ∧ ¬ ∃ x, Solution eqs.length n (coef eqs) x)) := by
  have r0 : RelG eqs.length n (coef eqs) ⟨start eqs, fun q => eqs.length - 1 - q, A0 eqs.length (coef eqs)⟩ := rel_start m0 hl pos
  obtain ⟨K, hK, ne⟩ := ends r0
  refine ⟨K, fun k hk => ?_, ?_⟩
  · have h1 := ne k hk
    have r := gAt_ok r0 k
    obtain ⟨h2, c, h3⟩ := not_ended h1
    obtain ⟨q, h4, _⟩ := turn_ok r h3
    rw [gAt_st] at h2 h3 h4
    refine ⟨h2, c, q, h3, h4, ?_⟩
    show nxtS (stAt (start eqs) k) = _
    unfold nxtS
    rw [if_pos h2, h3]; simp only; rw [h4]
  · have r := gAt_ok r0 K
    have st := gAt_st eqs.length ⟨start eqs, fun q => eqs.length - 1 - q, A0 eqs.length (coef eqs)⟩ K
    cases c : going (gAt eqs.length ⟨start eqs, fun q => eqs.length - 1 - q, A0 eqs.length (coef eqs)⟩ K).st with
    | false => exact Or.inl ⟨by rw [← st]; exact c, yes r c⟩
    | true =>
      rcases hK with e | e
      · rw [e] at c; exact Bool.noConfusion c
      · exact Or.inr ⟨by rw [← st]; exact c, by rw [← st]; exact e, no r c e⟩

end Sv
end
section
/-! The program's wholes.has_whole, on lists: it says whether there's a whole that has all tables. -/
namespace Wh
open Kp351 Bl Sh

def parts (a : Nat) : List Nat := (List.range (a + 1)).filter fun p => p &&& a == p
/-- a holds all of b -/
def sup (a b : Nat) : Bool := a &&& b == b

/-! ### Small sets: by looking at all -/
theorem setOf4 : ∀ n, n < 5 → ∀ a, a < 2 ^ n → setOf n a = setOf 4 a := by decide +kernel
theorem parts_len4 : ∀ a, a < 16 → (parts a).length = 2 ^ (setOf 4 a).length := by decide +kernel
theorem numOf4 : ∀ a, a < 16 → numOf (setOf 4 a) = a := by decide +kernel
theorem shown4 : ∀ a, a < 16 → ∀ x, x < 16 → (parts a).idxOf (x &&& a) = rowOf x (setOf 4 a) ∧ (parts a).getD (rowOf x (setOf 4 a)) 0 = x &&& a := by decide +kernel
theorem sup4 : ∀ a, a < 16 → ∀ p, p < 16 → p &&& a = p → ∀ x, x < 16 → sup x p = sup (x &&& a) p := by decide +kernel
theorem top4' : ∀ a, a < 16 → ∀ c, c < 8 → ∀ k, k < 8 → (!(decide (c < (parts a).length) && decide (k < (parts a).length) && sup ((parts a).getD c 0) ((parts a).getD k 0)) || decide (k ≤ c)) = true := by decide +kernel
theorem top4 (a : Nat) (ha : a < 16) (c : Nat) (hc : c < 8) (k : Nat) (hk : k < 8) (h1 : c < (parts a).length) (h2 : k < (parts a).length) (h3 : sup ((parts a).getD c 0) ((parts a).getD k 0) = true) : k ≤ c := by
  have := top4' a ha c hc k hk
  rw [h3, decide_eq_true h1, decide_eq_true h2] at this
  simpa using this
theorem self4 (a : Nat) (_ : a < 16) (k : Nat) (_ : k < 8) (_ : k < (parts a).length) : sup ((parts a).getD k 0) ((parts a).getD k 0) = true := by
  unfold sup; simp
theorem parts_lt {a p : Nat} (h : p ∈ parts a) : p ≤ a ∧ p &&& a = p := by
  unfold parts at h
  obtain ⟨h1, h2⟩ := List.mem_filter.mp h
  exact ⟨by have := List.mem_range.mp h1; omega, by simpa using h2⟩

/-! ### What the program has of a view -/
/-- so often all of these are answered 1 -/
def often (a : Nat) (table : List Nat) (p : Nat) : Nat := total ((((parts a).zip table).filter fun x => sup x.1 p).map fun x => x.2)
def unitOf (vs : List (Nat × List Nat)) : Nat := vs.foldl (fun u v => u * total v.2) 1
def shareOf (u : Nat) (v : Nat × List Nat) (p : Nat) : Nat := u / total v.2 * often v.1 v.2 p
def addOne (acc : Option (List (Nat × Nat))) (x : Nat × Nat) : Option (List (Nat × Nat)) := match acc with
  | none => none
  | some l => match l.lookup x.1 with
    | none => some (l ++ [x])
    | some y => if y = x.2 then some l else none
def pairsOf (u : Nat) (vs : List (Nat × List Nat)) : List (Nat × Nat) := vs.flatMap fun v => (parts v.1).map fun p => (p, shareOf u v p)
def shares (vs : List (Nat × List Nat)) : Option (List (Nat × Nat)) := (pairsOf (unitOf vs) vs).foldl addOne (some [])
def equation (n : Nat) (x : Nat × Nat) : List Int := ((List.range (2 ^ n)).map fun w => if sup w x.1 = true then 1 else 0) ++ [(x.2 : Int)]
def equations (n : Nat) (l : List (Nat × Nat)) : Sv.Rows := l.map (equation n)

/-! ### Whether the shares of one part are alike -/
theorem add_none (xs : List (Nat × Nat)) : xs.foldl addOne none = none := by
  induction xs with
  | nil => rfl
  | cons x xs ih => rw [List.foldl_cons]; exact ih
theorem lookup_append (l : List (Nat × Nat)) (x : Nat × Nat) (k : Nat) (h : l.lookup x.1 = none) : (l ++ [x]).lookup k = if k = x.1 then some x.2 else l.lookup k := by
  induction l with
  | nil =>
    obtain ⟨x1, x2⟩ := x
    by_cases c : k = x1
    · simp [c]
    · have : (k == x1) = false := by simpa using c
      simp [c, List.lookup, this]
  | cons y l ih =>
    obtain ⟨y1, y2⟩ := y
    rw [List.cons_append]
    by_cases c : k = y1
    · subst c
      rw [List.lookup_cons_self, List.lookup_cons_self]
      have : k ≠ x.1 := fun e => by rw [← e, List.lookup_cons_self] at h; simp at h
      rw [if_neg this]
    · have e1 : (k == y1) = false := by simpa using c
      have e2 : x.1 ≠ y1 := fun e => by rw [e, List.lookup_cons_self] at h; simp at h
      have e3 : (x.1 == y1) = false := by simpa using e2
      rw [List.lookup_cons, e1, List.lookup_cons, e1]
      rw [List.lookup_cons, e3] at h
      exact ih h
theorem mem_of_lookup {l : List (Nat × Nat)} {k y : Nat} (h : l.lookup k = some y) : (k, y) ∈ l := by
  induction l with
  | nil => simp at h
  | cons z l ih =>
    obtain ⟨z1, z2⟩ := z
    by_cases c : k = z1
    · subst c
      rw [List.lookup_cons_self] at h
      rw [Option.some.inj h]; exact List.mem_cons_self
    · have e1 : (k == z1) = false := by simpa using c
      rw [List.lookup_cons, e1] at h
      exact List.mem_cons_of_mem _ (ih h)

/-- behind some pairs: none, if two of one part differ; else a list of them in which each is found -/
theorem add_spec : ∀ (xs l : List (Nat × Nat)), (∀ x ∈ l, l.lookup x.1 = some x.2) →
    (xs.foldl addOne (some l) = none ∧ ∃ x ∈ l ++ xs, ∃ y ∈ l ++ xs, x.1 = y.1 ∧ x.2 ≠ y.2) ∨
    ∃ r, xs.foldl addOne (some l) = some r ∧ (∀ x ∈ r, r.lookup x.1 = some x.2) ∧ (∀ x ∈ l ++ xs, x ∈ r) ∧ ∀ x ∈ r, x ∈ l ++ xs
  | [], l, h => Or.inr ⟨l, rfl, h, fun x hx => by simpa using hx, fun x hx => by simpa using hx⟩
  | x :: xs, l, h => by
    rw [List.foldl_cons]
    cases e : l.lookup x.1 with
    | none =>
      have e1 : addOne (some l) x = some (l ++ [x]) := by unfold addOne; simp only; rw [e]
      rw [e1]
      have h' : ∀ y ∈ l ++ [x], (l ++ [x]).lookup y.1 = some y.2 := fun y hy => by
        rw [lookup_append l x y.1 e]
        rcases List.mem_append.mp hy with q | q
        · have := h y q
          by_cases c : y.1 = x.1
          · rw [c, e] at this; simp at this
          · rw [if_neg c]; exact this
        · rw [List.mem_singleton.mp q]; simp
      rcases add_spec xs (l ++ [x]) h' with ⟨e2, y, hy, z, hz, q⟩ | ⟨r, e2, h1, h2, h3⟩
      · refine Or.inl ⟨e2, y, ?_, z, ?_, q⟩
        · rw [List.append_assoc] at hy; exact hy
        · rw [List.append_assoc] at hz; exact hz
      · refine Or.inr ⟨r, e2, h1, fun y hy => h2 y ?_, fun y hy => ?_⟩
        · rw [List.append_assoc]; exact hy
        · have := h3 y hy
          rw [List.append_assoc] at this; exact this
    | some y =>
      by_cases c : y = x.2
      · have e1 : addOne (some l) x = some l := by unfold addOne; simp only; rw [e]; simp only; rw [if_pos c]
        rw [e1]
        have hx : x ∈ l := by
          have := mem_of_lookup e
          rw [c] at this; exact this
        rcases add_spec xs l h with ⟨e2, y, hy, z, hz, q⟩ | ⟨r, e2, h1, h2, h3⟩
        · refine Or.inl ⟨e2, y, ?_, z, ?_, q⟩
          · rcases List.mem_append.mp hy with g | g
            · exact List.mem_append_left _ g
            · exact List.mem_append_right _ (List.mem_cons_of_mem _ g)
          · rcases List.mem_append.mp hz with g | g
            · exact List.mem_append_left _ g
            · exact List.mem_append_right _ (List.mem_cons_of_mem _ g)
        · refine Or.inr ⟨r, e2, h1, fun y hy => ?_, fun y hy => ?_⟩
          · rcases List.mem_append.mp hy with g | g
            · exact h2 y (List.mem_append_left _ g)
            · rcases List.mem_cons.mp g with g | g
              · rw [g]; exact h2 x (List.mem_append_left _ hx)
              · exact h2 y (List.mem_append_right _ g)
          · rcases List.mem_append.mp (h3 y hy) with g | g
            · exact List.mem_append_left _ g
            · exact List.mem_append_right _ (List.mem_cons_of_mem _ g)
      · have e1 : addOne (some l) x = none := by unfold addOne; simp only; rw [e]; simp only; rw [if_neg c]
        rw [e1, add_none]
        refine Or.inl ⟨rfl, (x.1, y), List.mem_append_left _ (mem_of_lookup e), x, List.mem_append_right _ List.mem_cons_self, rfl, c⟩

theorem shares_spec (vs : List (Nat × List Nat)) :
    (shares vs = none ∧ ∃ x ∈ pairsOf (unitOf vs) vs, ∃ y ∈ pairsOf (unitOf vs) vs, x.1 = y.1 ∧ x.2 ≠ y.2) ∨
    ∃ r, shares vs = some r ∧ (∀ x ∈ r, r.lookup x.1 = some x.2) ∧ (∀ x ∈ pairsOf (unitOf vs) vs, x ∈ r) ∧ ∀ x ∈ r, x ∈ pairsOf (unitOf vs) vs := by
  have := add_spec (pairsOf (unitOf vs) vs) [] (fun x hx => absurd hx (by simp))
  rw [List.nil_append] at this
  exact this

/-! ### The equations' solutions -/
theorem equation_len (n : Nat) (x : Nat × Nat) : (equation n x).length = 2 ^ n + 1 := by unfold equation; simp
theorem equation_at (n : Nat) (x : Nat × Nat) {w : Nat} (h : w < 2 ^ n) : (equation n x).getD w 0 = if sup w x.1 = true then 1 else 0 := by
  unfold equation
  rw [List.getD_eq_getElem?_getD, List.getElem?_append_left (by simpa using h), List.getElem?_map, List.getElem?_range h]; rfl
theorem equation_end (n : Nat) (x : Nat × Nat) : (equation n x).getD (2 ^ n) 0 = (x.2 : Int) := by
  unfold equation
  rw [List.getD_eq_getElem?_getD, List.getElem?_append_right (by simp)]; simp

/-- so likely is all that holds a part, together -/
def above (n p : Nat) (x : Nat → Rat) : Rat := sm (2 ^ n) (fun w => if sup w p = true then x w else 0)

theorem solution_iff (n : Nat) (l : List (Nat × Nat)) (x : Nat → Rat) : Sv.Solution (equations n l).length (2 ^ n) (Sv.coef (equations n l)) x ↔ (∀ w, w < 2 ^ n → 0 ≤ x w) ∧ ∀ y ∈ l, above n y.1 x = (y.2 : Rat) := by
  have key : ∀ i, i < l.length → ∃ y ∈ l, (equations n l).getD i [] = equation n y := fun i hi => by
    refine ⟨l[i], List.getElem_mem hi, ?_⟩
    unfold equations
    rw [List.getD_eq_getElem?_getD, List.getElem?_map, List.getElem?_eq_getElem hi]; rfl
  have row : ∀ y : Nat × Nat, ∀ i, (equations n l).getD i [] = equation n y → sm (2 ^ n) (fun j => (Sv.coef (equations n l) i j : Rat) * x j) = above n y.1 x ∧ Sv.coef (equations n l) i (2 ^ n) = (y.2 : Int) := fun y i e => by
    constructor
    · refine sm_congr (fun w hw => ?_)
      unfold Sv.coef
      rw [e, equation_at n y hw]
      by_cases c : sup w y.1 = true
      · rw [if_pos c, if_pos c]
        have : ((1 : Int) : Rat) = 1 := rfl
        rw [this]; grind
      · rw [if_neg c, if_neg c]
        have : ((0 : Int) : Rat) = 0 := rfl
        rw [this]; grind
    · unfold Sv.coef; rw [e, equation_end]
  have len : (equations n l).length = l.length := List.length_map _
  unfold Sv.Solution
  rw [len]
  constructor
  · rintro ⟨h1, h2⟩
    refine ⟨h1, fun y hy => ?_⟩
    obtain ⟨i, hi, e⟩ := List.getElem_of_mem hy
    have e2 : (equations n l).getD i [] = equation n y := by
      unfold equations
      rw [List.getD_eq_getElem?_getD, List.getElem?_map, List.getElem?_eq_getElem hi, e]; rfl
    have := h2 i hi
    rw [(row y i e2).1, (row y i e2).2, Rat.intCast_natCast] at this
    exact this
  · rintro ⟨h1, h2⟩
    refine ⟨h1, fun i hi => ?_⟩
    obtain ⟨y, hy, e⟩ := key i hi
    rw [(row y i e).1, (row y i e).2, h2 y hy, Rat.intCast_natCast]

/-! ### A view, by its parts -/
/-- a view of the specification as the program has it: its set as a number -/
def num (v : View) : Nat × List Nat := (numOf v.qs, v.table)
/-- a view of n questions -/
structure Vw (n : Nat) (v : View) : Prop where
  n4 : n < 5
  a : numOf v.qs < 2 ^ n
  q : v.qs = setOf 4 (numOf v.qs)
  s3 : v.qs.length ≤ 3
  ok : OkV v

theorem Vw.a16 {n : Nat} {v : View} (h : Vw n v) : numOf v.qs < 16 := by
  have h1 := h.a
  have h2 : 2 ^ n ≤ 2 ^ 4 := Nat.pow_le_pow_right (by omega) (by have := h.n4; omega)
  omega
theorem Vw.len {n : Nat} {v : View} (h : Vw n v) : (parts (numOf v.qs)).length = 2 ^ v.qs.length := by
  have := parts_len4 _ h.a16
  rw [← h.q] at this; exact this
theorem Vw.row {n : Nat} {v : View} (h : Vw n v) {x : Nat} (hx : x < 2 ^ n) : (parts (numOf v.qs)).getD (rowOf x v.qs) 0 = x &&& numOf v.qs := by
  have h2 : 2 ^ n ≤ 2 ^ 4 := Nat.pow_le_pow_right (by omega) (by have := h.n4; omega)
  have := (shown4 _ h.a16 x (by omega)).2
  rw [← h.q] at this; exact this
theorem Vw.len8 {n : Nat} {v : View} (h : Vw n v) : 2 ^ v.qs.length ≤ 8 :=
  Nat.pow_le_pow_right (n := 2) (by omega) h.s3

theorem often_fold : ∀ (ps tb : List Nat) (p : Nat), tb.length = ps.length → (((total (((ps.zip tb).filter fun x => sup x.1 p).map fun x => x.2)) : Nat) : Rat) = sm ps.length (fun c => if sup (ps.getD c 0) p = true then (tb.getD c 0 : Rat) else 0)
  | [], [], p, _ => rfl
  | [], _ :: _, _, h => by simp at h
  | _ :: _, [], _, h => by simp at h
  | a :: ps, b :: tb, p, h => by
    have ih := often_fold ps tb p (by simpa using h)
    rw [List.length_cons, Tb.sm_first]
    have e : sm ps.length (fun i => if sup ((a :: ps).getD (i + 1) 0) p = true then (((b :: tb).getD (i + 1) 0 : Nat) : Rat) else 0) = sm ps.length (fun c => if sup (ps.getD c 0) p = true then (tb.getD c 0 : Rat) else 0) := sm_congr (fun i _ => by simp)
    rw [e, ← ih, List.zip_cons_cons, List.filter_cons]
    show _ = (if sup a p = true then (b : Rat) else 0) + _
    by_cases c : sup a p = true
    · simp only [c, if_true]
      rw [List.map_cons, total_cons]
      simp
    · simp only [c]
      simp
      grind
theorem often_eq {n : Nat} {v : View} (h : Vw n v) (p : Nat) : ((often (numOf v.qs) v.table p : Nat) : Rat) = sm (2 ^ v.qs.length) (fun c => if sup ((parts (numOf v.qs)).getD c 0) p = true then (v.table.getD c 0 : Rat) else 0) := by
  unfold often
  rw [often_fold _ _ _ (by rw [h.len, h.ok.1]), h.len]

/-- what holds a part, by the rows that worlds show -/
theorem above_rows {n : Nat} {v : View} (h : Vw n v) {p : Nat} (hp : p &&& numOf v.qs = p) (hp2 : p ≤ numOf v.qs) (x : Nat → Rat) :
    above n p x = sm (2 ^ v.qs.length) (fun c => if sup ((parts (numOf v.qs)).getD c 0) p = true then sm (2 ^ n) (fun w => if rowOf w v.qs = c then x w else 0) else 0) := by
  have a16 := h.a16
  have n16 : 2 ^ n ≤ 2 ^ 4 := Nat.pow_le_pow_right (by omega) (by have := h.n4; omega)
  rw [show above n p x = tot n (fun w => if sup w p = true then x w else 0) from rfl, ← tot_parts _ v]
  refine sm_congr (fun c hc => ?_)
  by_cases g : sup ((parts (numOf v.qs)).getD c 0) p = true
  · rw [if_pos g]
    refine sm_congr (fun w hw => ?_)
    by_cases d : rowOf w v.qs = c
    · rw [if_pos d, if_pos d]
      have e := sup4 _ a16 p (by omega) hp w (by omega)
      rw [← h.row hw, d, g] at e
      rw [if_pos e]
    · rw [if_neg d, if_neg d]
  · rw [if_neg g]
    refine sm_zero' (fun w hw => ?_)
    by_cases d : rowOf w v.qs = c
    · rw [if_pos d]
      have e := sup4 _ a16 p (by omega) hp w (by omega)
      rw [← h.row hw, d] at e
      rw [if_neg (by rw [e]; exact g)]
    · rw [if_neg d]

theorem mem_part {n : Nat} {v : View} (h : Vw n v) {k : Nat} (hk : k < 2 ^ v.qs.length) : (parts (numOf v.qs)).getD k 0 ∈ parts (numOf v.qs) := by
  rw [List.getD_eq_getElem?_getD, List.getElem?_eq_getElem (by rw [h.len]; exact hk)]
  exact List.getElem_mem _

/-- a view's table is had just if each of its parts is -/
theorem view_iff {n : Nat} {v : View} (h : Vw n v) (x : Nat → Rat) : (∀ c, c < 2 ^ v.qs.length → sm (2 ^ n) (fun w => if rowOf w v.qs = c then x w else 0) = shr v c) ↔
    ∀ p ∈ parts (numOf v.qs), above n p x = ((often (numOf v.qs) v.table p : Nat) : Rat) / (total v.table : Rat) := by
  have a16 := h.a16
  have len := h.len
  have l8 := h.len8
  have oe : ∀ p, ((often (numOf v.qs) v.table p : Nat) : Rat) / (total v.table : Rat) = sm (2 ^ v.qs.length) (fun c => if sup ((parts (numOf v.qs)).getD c 0) p = true then shr v c else 0) := fun p => by
    rw [often_eq h]
    have e : sm (2 ^ v.qs.length) (fun c => if sup ((parts (numOf v.qs)).getD c 0) p = true then shr v c else 0) = sm (2 ^ v.qs.length) (fun c => (1 / (total v.table : Rat)) * (if sup ((parts (numOf v.qs)).getD c 0) p = true then (v.table.getD c 0 : Rat) else 0)) := sm_congr (fun c _ => by
      unfold shr
      split <;> grind)
    rw [e, sm_mul]; grind
  constructor
  · intro hx p hp
    obtain ⟨h1, h2⟩ := parts_lt hp
    rw [above_rows h h2 h1, oe]
    exact sm_congr (fun c hc => by rw [hx c hc])
  · intro hp
    have down : ∀ d c, d + c + 1 = 2 ^ v.qs.length → (∀ c', c < c' → c' < 2 ^ v.qs.length → sm (2 ^ n) (fun w => if rowOf w v.qs = c' then x w else 0) = shr v c') → sm (2 ^ n) (fun w => if rowOf w v.qs = c then x w else 0) = shr v c := by
      intro d c hd above'
      have hc : c < 2 ^ v.qs.length := by omega
      have mp := mem_part h hc
      obtain ⟨h1, h2⟩ := parts_lt mp
      have e := hp _ mp
      rw [above_rows h h2 h1, oe, sm_take (s := c) hc, sm_take (s := c) (f := fun k => if sup ((parts (numOf v.qs)).getD k 0) ((parts (numOf v.qs)).getD c 0) = true then shr v k else 0) hc] at e
      rw [if_pos (self4 _ a16 c (by omega) (by omega)), if_pos (self4 _ a16 c (by omega) (by omega))] at e
      have e2 : sm (2 ^ v.qs.length) (fun i => if i = c then 0 else if sup ((parts (numOf v.qs)).getD i 0) ((parts (numOf v.qs)).getD c 0) = true then sm (2 ^ n) (fun w => if rowOf w v.qs = i then x w else 0) else 0) =
          sm (2 ^ v.qs.length) (fun i => if i = c then 0 else if sup ((parts (numOf v.qs)).getD i 0) ((parts (numOf v.qs)).getD c 0) = true then shr v i else 0) := sm_congr (fun i hi => by
        by_cases g : i = c
        · rw [if_pos g, if_pos g]
        · rw [if_neg g, if_neg g]
          by_cases q : sup ((parts (numOf v.qs)).getD i 0) ((parts (numOf v.qs)).getD c 0) = true
          · rw [if_pos q, if_pos q]
            have := top4 _ a16 i (by omega) c (by omega) (by omega) (by omega) q
            exact above' i (by omega) hi
          · rw [if_neg q, if_neg q])
      rw [e2] at e
      grind
    have all : ∀ d c, d + c + 1 = 2 ^ v.qs.length → sm (2 ^ n) (fun w => if rowOf w v.qs = c then x w else 0) = shr v c := by
      intro d
      induction d using Nat.strongRecOn with
      | ind d ih =>
        intro c hd
        exact down d c hd (fun c' h1 h2 => ih (2 ^ v.qs.length - 1 - c') (by omega) c' (by omega))
    exact fun c hc => all (2 ^ v.qs.length - 1 - c) c (by omega)

/-! ### All views -/
theorem unit_fold : ∀ (vs : List (Nat × List Nat)) (u : Nat), (∀ v ∈ vs, 0 < total v.2) → 0 < u → (0 < vs.foldl (fun u v => u * total v.2) u) ∧ u ∣ vs.foldl (fun u v => u * total v.2) u ∧ ∀ v ∈ vs, total v.2 ∣ vs.foldl (fun u v => u * total v.2) u
  | [], u, _, hu => ⟨hu, Nat.dvd_refl _, fun v hv => absurd hv (by simp)⟩
  | x :: vs, u, h, hu => by
    rw [List.foldl_cons]
    have hx := h x List.mem_cons_self
    obtain ⟨h1, h2, h3⟩ := unit_fold vs (u * total x.2) (fun v hv => h v (List.mem_cons_of_mem _ hv)) (Nat.mul_pos hu hx)
    refine ⟨h1, Nat.dvd_trans (Nat.dvd_mul_right _ _) h2, fun v hv => ?_⟩
    rcases List.mem_cons.mp hv with q | q
    · rw [q]; exact Nat.dvd_trans (Nat.dvd_mul_left _ _) h2
    · exact h3 v q

theorem share_rat {v : View} (h : OkV v) {u : Nat} (hd : total v.table ∣ u) (p : Nat) : ((shareOf u (num v) p : Nat) : Rat) = (u : Rat) * (((often (numOf v.qs) v.table p : Nat) : Rat) / (total v.table : Rat)) := by
  obtain ⟨k, hk⟩ := hd
  have h0 := tot_pos h
  have h1 := h.2
  unfold shareOf num
  simp only
  rw [hk, Nat.mul_div_cancel_left _ h1, Rat.natCast_mul, Rat.natCast_mul]
  grind

theorem hasAll_iff {n : Nat} {vs : List View} (h : ∀ v ∈ vs, Vw n v) (p : Nat → Rat) : HasAll n vs p ↔ (∀ x, x < 2 ^ n → 0 ≤ p x) ∧ ∀ y ∈ pairsOf (unitOf (vs.map num)) (vs.map num), above n y.1 (fun w => (unitOf (vs.map num) : Rat) * p w) = (y.2 : Rat) := by
  have uf := unit_fold (vs.map num) 1 (fun v hv => by
    obtain ⟨w, hw, e⟩ := List.mem_map.mp hv
    rw [← e]; exact (h w hw).ok.2) (by omega)
  have upos : (0 : Rat) < (unitOf (vs.map num) : Rat) := by
    have : ((0 : Nat) : Rat) < (unitOf (vs.map num) : Rat) := Rat.natCast_lt_natCast.mpr uf.1
    simpa using this
  have ab : ∀ q, above n q (fun w => (unitOf (vs.map num) : Rat) * p w) = (unitOf (vs.map num) : Rat) * above n q p := fun q => by
    unfold above
    rw [← sm_mul]
    exact sm_congr (fun w _ => by split <;> grind)
  constructor
  · rintro ⟨h1, h2⟩
    refine ⟨h1, fun y hy => ?_⟩
    obtain ⟨w, hw, hy2⟩ := List.mem_flatMap.mp hy
    obtain ⟨v, hv, e⟩ := List.mem_map.mp hw
    obtain ⟨q, hq, e2⟩ := List.mem_map.mp hy2
    subst e
    subst e2
    simp only
    have := (view_iff (h v hv) p).mp (h2 v hv) q hq
    rw [ab, this, share_rat (h v hv).ok (show total v.table ∣ unitOf (vs.map num) from uf.2.2 _ hw)]
  · rintro ⟨h1, h2⟩
    refine ⟨h1, fun v hv => (view_iff (h v hv) p).mpr (fun q hq => ?_)⟩
    have hw : num v ∈ vs.map num := List.mem_map.mpr ⟨v, hv, rfl⟩
    have := h2 (q, shareOf (unitOf (vs.map num)) (num v) q) (List.mem_flatMap.mpr ⟨num v, hw, List.mem_map.mpr ⟨q, hq, rfl⟩⟩)
    simp only at this
    rw [ab, share_rat (h v hv).ok (show total v.table ∣ unitOf (vs.map num) from uf.2.2 _ hw)] at this
    have e : (unitOf (vs.map num) : Rat) * (above n q p - ((often (numOf v.qs) v.table q : Nat) : Rat) / (total v.table : Rat)) = 0 := by grind
    rcases Rat.mul_eq_zero.mp e with g | g <;> grind

theorem hasAll_scaled {n : Nat} {vs : List View} (h : ∀ v ∈ vs, Vw n v) : (∃ p, HasAll n vs p) ↔ ∃ x : Nat → Rat, (∀ w, w < 2 ^ n → 0 ≤ x w) ∧ ∀ y ∈ pairsOf (unitOf (vs.map num)) (vs.map num), above n y.1 x = (y.2 : Rat) := by
  have uf := unit_fold (vs.map num) 1 (fun v hv => by
    obtain ⟨w, hw, e⟩ := List.mem_map.mp hv
    rw [← e]; exact (h w hw).ok.2) (by omega)
  have upos : (0 : Rat) < (unitOf (vs.map num) : Rat) := by
    have : ((0 : Nat) : Rat) < (unitOf (vs.map num) : Rat) := Rat.natCast_lt_natCast.mpr uf.1
    simpa using this
  constructor
  · rintro ⟨p, hp⟩
    obtain ⟨h1, h2⟩ := (hasAll_iff h p).mp hp
    exact ⟨fun w => (unitOf (vs.map num) : Rat) * p w, fun w hw => Rat.mul_nonneg (Rat.le_of_lt upos) (h1 w hw), h2⟩
  · rintro ⟨x, h1, h2⟩
    refine ⟨fun w => x w / (unitOf (vs.map num) : Rat), (hasAll_iff h _).mpr ⟨fun w hw => ?_, fun y hy => ?_⟩⟩
    · refine pos_of_mul upos ?_
      rw [Rat.div_mul_cancel (by grind)]; exact h1 w hw
    · rw [← h2 y hy]
      congr 1
      funext w
      rw [Rat.mul_comm, Rat.div_mul_cancel (by grind)]

/-- **has_whole**: two shares of a part differ: no whole; else the equations say -/
theorem none_whole {n : Nat} {vs : List View} (h : ∀ v ∈ vs, Vw n v) (e : shares (vs.map num) = none) : ¬ ∃ p, HasAll n vs p := by
  rintro hp
  obtain ⟨x, _, h2⟩ := (hasAll_scaled h).mp hp
  rcases shares_spec (vs.map num) with ⟨_, y, hy, z, hz, e1, e2⟩ | ⟨r, e1, _⟩
  · have a1 := h2 y hy
    have a2 := h2 z hz
    rw [e1, a2] at a1
    exact e2 (Rat.natCast_inj.mp a1).symm
  · rw [e1] at e; simp at e
theorem some_whole {n : Nat} {vs : List View} (h : ∀ v ∈ vs, Vw n v) {r : List (Nat × Nat)} (e : shares (vs.map num) = some r) :
    (∃ p, HasAll n vs p) ↔ ∃ x, Sv.Solution (equations n r).length (2 ^ n) (Sv.coef (equations n r)) x := by
  rcases shares_spec (vs.map num) with ⟨e1, _⟩ | ⟨r', e1, _, h1, h2⟩
  · rw [e1] at e; simp at e
  rw [e1] at e
  obtain rfl : r' = r := Option.some.inj e
  rw [hasAll_scaled h]
  constructor
  · rintro ⟨x, a, b⟩
    exact ⟨x, (solution_iff n r' x).mpr ⟨a, fun y hy => b y (h2 y hy)⟩⟩
  · rintro ⟨x, hx⟩
    obtain ⟨a, b⟩ := (solution_iff n r' x).mp hx
    exact ⟨x, a, fun y hy => b y (h1 y hy)⟩

end Wh
end
section
/-! How great the numbers of equations.solvable grow. -/
namespace Sv
open Bl Dt Tb

def bnd (x b : Rat) : Prop := -b ≤ x ∧ x ≤ b
theorem half_nonneg {x : Rat} (h : 0 ≤ 2 * x) : 0 ≤ x := by
  rcases (Rat.le_total : 0 ≤ x ∨ x ≤ 0) with q | q
  · exact q
  · have : 2 * x ≤ 2 * 0 := Rat.mul_le_mul_of_nonneg_left q (by decide)
    have h2 : 2 * x = 0 := by grind
    grind
theorem bnd_mul {x y a b : Rat} (hx : bnd x a) (hy : bnd y b) : bnd (x * y) (a * b) := by
  obtain ⟨x1, x2⟩ := hx
  obtain ⟨y1, y2⟩ := hy
  have p1 : 0 ≤ (a - x) * (b + y) := Rat.mul_nonneg (by grind) (by grind)
  have p2 : 0 ≤ (a + x) * (b - y) := Rat.mul_nonneg (by grind) (by grind)
  have p3 : 0 ≤ (a - x) * (b - y) := Rat.mul_nonneg (by grind) (by grind)
  have p4 : 0 ≤ (a + x) * (b + y) := Rat.mul_nonneg (by grind) (by grind)
  have q1 : 0 ≤ a * b - x * y := half_nonneg (by grind)
  have q2 : 0 ≤ a * b + x * y := half_nonneg (by grind)
  constructor <;> grind
theorem bnd_add {x y a b : Rat} (hx : bnd x a) (hy : bnd y b) : bnd (x + y) (a + b) := by
  obtain ⟨x1, x2⟩ := hx
  obtain ⟨y1, y2⟩ := hy
  constructor <;> grind
theorem bnd_mono {x a b : Rat} (hx : bnd x a) (h : a ≤ b) : bnd x b := by
  obtain ⟨x1, x2⟩ := hx
  constructor <;> grind
theorem bnd_sm {f : Nat → Rat} {b : Rat} : ∀ {n : Nat}, (∀ i, i < n → bnd (f i) b) → bnd (sm n f) ((n : Rat) * b)
  | 0, _ => by
    show bnd 0 (((0 : Nat) : Rat) * b)
    have : ((0 : Nat) : Rat) = 0 := rfl
    rw [this]
    constructor <;> grind
  | n + 1, h => by
    have h1 := bnd_sm (n := n) (fun i hi => h i (by omega))
    have h2 := bnd_add h1 (h n (by omega))
    have e : (n : Rat) * b + b = ((n + 1 : Nat) : Rat) * b := by
      rw [Rat.natCast_add]
      have : ((1 : Nat) : Rat) = 1 := rfl
      rw [this]; grind
    rw [e] at h2
    exact h2
theorem nat_mono {a b : Nat} (h : a ≤ b) : (a : Rat) ≤ (b : Rat) := Rat.natCast_le_natCast.mpr h
theorem bnd_sg (k : Nat) : bnd (sg k) 1 := by
  unfold sg
  split <;> constructor <;> grind
theorem bnd_D (B : Nat) : ∀ (M : Nat) {C : Nat → Col}, (∀ j, j < M → ∀ p, p < M → bnd (C j p) B) → bnd (D M C) (((M * B) ^ M : Nat) : Rat)
  | 0, C, _ => by
    show bnd 1 (((0 * B) ^ 0 : Nat) : Rat)
    have : (((0 * B) ^ 0 : Nat) : Rat) = 1 := rfl
    rw [this]
    constructor <;> grind
  | M + 1, C, h => by
    have h1 : bnd (D (M + 1) C) (((M + 1 : Nat) : Rat) * ((1 * (B : Rat)) * (((M * B) ^ M : Nat) : Rat))) := bnd_sm (fun j hj =>
      bnd_mul (bnd_mul (bnd_sg _) (h j hj M (by omega))) (bnd_D B M (fun k hk p hp => by
        unfold skip
        split
        · exact h k (by omega) p (by omega)
        · exact h (k + 1) (by omega) p (by omega))))
    refine bnd_mono h1 ?_
    rw [Rat.one_mul, ← Rat.natCast_mul, ← Rat.natCast_mul]
    refine nat_mono ?_
    have h2 : (M * B) ^ M ≤ ((M + 1) * B) ^ M := Nat.pow_le_pow_left (Nat.mul_le_mul_right _ (by omega)) _
    calc (M + 1) * (B * (M * B) ^ M) ≤ (M + 1) * (B * ((M + 1) * B) ^ M) := Nat.mul_le_mul_left _ (Nat.mul_le_mul_left _ h2)
      _ = ((M + 1) * B) ^ (M + 1) := by rw [Nat.pow_succ, Nat.mul_comm (((M + 1) * B) ^ M), Nat.mul_assoc]

variable {m n : Nat} {a : Nat → Nat → Int} {s : St} {h : Nat → Nat} {R : Nat → Nat → Rat}

theorem bnd_nat {z : Int} {b : Nat} (h0 : 0 ≤ z) (h : z ≤ (b : Int)) : bnd (z : Rat) b := by
  have h1 : ((0 : Int) : Rat) ≤ (z : Rat) := Rat.intCast_le_intCast.mpr h0
  have h2 : (z : Rat) ≤ ((b : Int) : Rat) := Rat.intCast_le_intCast.mpr h
  rw [Rat.intCast_natCast] at h2
  have h3 : ((0 : Int) : Rat) = 0 := rfl
  rw [h3] at h1
  constructor <;> grind

/-- the numbers that the equations may have -/
def Few (m n : Nat) (a : Nat → Nat → Int) : Prop := m ≤ 16 ∧ ∀ p, p < m → ∀ x, x ≤ n → 0 ≤ a p x ∧ a p x ≤ 2 ^ 58

theorem A0_bnd (F : Few m n a) {v : Nat} (hv : v ≤ m + n) {p : Nat} (_ : p ≤ m) : bnd (A0 m a p v) ((2 ^ 62 : Nat) : Rat) := by
  have one : bnd 1 ((2 ^ 62 : Nat) : Rat) := by
    have : (1 : Rat) ≤ ((2 ^ 62 : Nat) : Rat) := nat_mono (show 1 ≤ 2 ^ 62 by decide)
    constructor <;> grind
  have zero : bnd 0 ((2 ^ 62 : Nat) : Rat) := by
    have : ((0 : Nat) : Rat) ≤ ((2 ^ 62 : Nat) : Rat) := nat_mono (by decide)
    have e : ((0 : Nat) : Rat) = 0 := rfl
    rw [e] at this
    constructor <;> grind
  have b58 : ∀ q, q < m → ¬ v < m → bnd (a q (v - m) : Rat) ((2 ^ 58 : Nat) : Rat) := fun q hq c => by
    have := F.2 q hq (v - m) (by omega)
    exact bnd_nat this.1 (by simpa using this.2)
  unfold A0
  split
  · split
    · split
      · exact one
      · exact zero
    · rename_i c d
      exact bnd_mono (b58 p c d) (nat_mono (by decide))
  · split
    · exact zero
    · rename_i c d
      have h1 := bnd_sm (n := m) (f := fun q => (a q (v - m) : Rat)) (fun q hq => b58 q hq d)
      refine bnd_mono h1 ?_
      rw [← Rat.natCast_mul]
      refine nat_mono (Nat.le_trans (Nat.mul_le_mul_right _ F.1) (by decide))
theorem cols_bnd (I : Inv m n a h R) (F : Few m n a) {q : Nat} {p : Nat} (hp : p ≤ m) : bnd (cols m a h q p) ((2 ^ 62 : Nat) : Rat) := by
  unfold cols
  split
  · rename_i c
    exact A0_bnd F (Nat.le_of_lt (I.hN q c)) hp
  · have one : (1 : Rat) ≤ ((2 ^ 62 : Nat) : Rat) := nat_mono (show 1 ≤ 2 ^ 62 by decide)
    split <;> constructor <;> grind
/-- a number that none passes -/
def big : Nat := (2 ^ 67) ^ 17
theorem big_lt : big < 2 ^ 1140 := by
  unfold big
  rw [← Nat.pow_mul]
  exact Nat.pow_lt_pow_right (by decide) (by decide)
theorem whole_bnd (F : Few m n a) {x : Rat} (h : bnd x ((((m + 1) * 2 ^ 62) ^ (m + 1) : Nat) : Rat)) : bnd x (big : Rat) := by
  refine bnd_mono h (nat_mono ?_)
  have h1 : (m + 1) * 2 ^ 62 ≤ 2 ^ 67 := Nat.le_trans (Nat.mul_le_mul_right _ (by have := F.1; omega : m + 1 ≤ 17)) (by decide)
  have h2 : ((m + 1) * 2 ^ 62) ^ (m + 1) ≤ (2 ^ 67) ^ (m + 1) := Nat.pow_le_pow_left h1 _
  have h3 : (2 ^ 67) ^ (m + 1) ≤ (2 ^ 67) ^ 17 := Nat.pow_le_pow_right (Nat.pow_pos (by omega)) (by have := F.1; omega)
  exact Nat.le_trans h2 h3
theorem int_bnd {z : Int} {b : Nat} (h : bnd (z : Rat) (b : Rat)) : z.natAbs ≤ b := by
  obtain ⟨h1, h2⟩ := h
  have e : ((b : Int) : Rat) = (b : Rat) := Rat.intCast_natCast b
  rw [← e] at h1 h2
  rw [← Rat.intCast_neg] at h1
  have g1 := Rat.intCast_le_intCast.mp h1
  have g2 := Rat.intCast_le_intCast.mp h2
  omega

/-- no number of the rows, nor the scale, is great -/
theorem Rel.bound (r : Rel m n a s h R) (F : Few m n a) : (∀ p, p ≤ m → ∀ x, x ≤ n → (T s.rows p x).natAbs < 2 ^ 1140) ∧ s.scale.natAbs < 2 ^ 1140 := by
  constructor
  · intro p hp x hx
    have e : (T s.rows p x : Rat) = D (m + 1) (put (cols m a h) p (fun q => A0 m a q (m + x))) := by
      rw [r.t p hp x hx, det_put r.inv (by omega) hp, r.dt, Rat.mul_comm]
    refine Nat.lt_of_le_of_lt (int_bnd ?_) big_lt
    rw [e]
    refine whole_bnd F (bnd_D (2 ^ 62) (m + 1) (fun j hj q hq => ?_))
    unfold put
    split
    · exact A0_bnd F (by omega) (by omega)
    · exact cols_bnd r.inv F (by omega)
  · refine Nat.lt_of_le_of_lt (int_bnd ?_) big_lt
    rw [r.dt]
    exact whole_bnd F (bnd_D (2 ^ 62) (m + 1) (fun j hj q hq => cols_bnd r.inv F (by omega)))

/-- the run's states -/
theorem rel_at {eqs : Rows} {n : Nat} (m0 : 0 < eqs.length) (hl : ∀ row ∈ eqs, row.length = n + 1) (pos : ∀ row ∈ eqs, 0 ≤ row.getD n 0) (k : Nat) : ∃ h R, Rel eqs.length n (coef eqs) (stAt (start eqs) k) h R := by
  have r0 : RelG eqs.length n (coef eqs) ⟨start eqs, fun q => eqs.length - 1 - q, A0 eqs.length (coef eqs)⟩ := rel_start m0 hl pos
  have r := gAt_ok r0 k
  have e := gAt_st eqs.length ⟨start eqs, fun q => eqs.length - 1 - q, A0 eqs.length (coef eqs)⟩ k
  unfold RelG at r
  rw [e] at r
  exact ⟨_, _, r⟩

end Sv
end
section
/-! The parts' shares as a dict holds them; how many, how great. -/
namespace Wh
open Kp351 Bl

theorem addOne_some {l : List (Nat × Nat)} {x : Nat × Nat} {r : List (Nat × Nat)} (h : addOne (some l) x = some r) : (l.lookup x.1 = none ∧ r = l ++ [x]) ∨ (l.lookup x.1 = some x.2 ∧ r = l) := by
  unfold addOne at h
  simp only at h
  cases e : l.lookup x.1 with
  | none => rw [e] at h; exact Or.inl ⟨rfl, (Option.some.inj h).symm⟩
  | some y =>
    rw [e] at h
    simp only at h
    by_cases c : y = x.2
    · rw [if_pos c] at h; exact Or.inr ⟨by rw [c], (Option.some.inj h).symm⟩
    · rw [if_neg c] at h; simp at h
/-- what is always so of the pairs that are held -/
structure Held (l : List (Nat × Nat)) : Prop where
  nd : (l.map (·.1)).Nodup
  look : ∀ x ∈ l, l.lookup x.1 = some x.2
theorem lookup_none_iff {l : List (Nat × Nat)} {k : Nat} : l.lookup k = none ↔ k ∉ l.map (·.1) := by
  induction l with
  | nil => simp
  | cons y l ih =>
    obtain ⟨y1, y2⟩ := y
    by_cases c : k = y1
    · subst c
      rw [List.lookup_cons_self]
      simp
    · have e1 : (k == y1) = false := by simpa using c
      rw [List.lookup_cons, e1]
      show List.lookup k l = none ↔ _
      rw [ih]
      simp [c]
theorem held_nil : Held [] := ⟨List.nodup_nil, fun x hx => absurd hx (by simp)⟩
theorem held_add {l r : List (Nat × Nat)} {x : Nat × Nat} (h : Held l) (e : addOne (some l) x = some r) : Held r := by
  rcases addOne_some e with ⟨h1, rfl⟩ | ⟨_, rfl⟩
  · refine ⟨?_, fun y hy => ?_⟩
    · rw [List.map_append, List.nodup_append]
      refine ⟨h.nd, by simp, fun a ha b hb => ?_⟩
      simp at hb
      subst hb
      exact fun q => lookup_none_iff.mp h1 (q ▸ ha)
    · rw [lookup_append l x y.1 h1]
      rcases List.mem_append.mp hy with q | q
      · have := h.look y q
        by_cases c : y.1 = x.1
        · rw [c, h1] at this; simp at this
        · rw [if_neg c]; exact this
      · rw [List.mem_singleton.mp q]; simp
  · exact h
theorem held_fold : ∀ (xs l r : List (Nat × Nat)), Held l → xs.foldl addOne (some l) = some r → Held r ∧ r.length ≤ l.length + xs.length ∧ ∀ y ∈ r, y ∈ l ++ xs
  | [], l, r, h, e => by
    have := Option.some.inj e
    subst this
    exact ⟨h, by simp, fun y hy => by simpa using hy⟩
  | x :: xs, l, r, h, e => by
    rw [List.foldl_cons] at e
    cases c : addOne (some l) x with
    | none => rw [c, add_none] at e; simp at e
    | some l2 =>
      rw [c] at e
      obtain ⟨h1, h2, h3⟩ := held_fold xs l2 r (held_add h c) e
      have hl2 : l2.length ≤ l.length + 1 ∧ ∀ y ∈ l2, y ∈ l ++ [x] := by
        rcases addOne_some c with ⟨_, rfl⟩ | ⟨_, rfl⟩
        · exact ⟨by simp, fun y hy => hy⟩
        · exact ⟨by omega, fun y hy => List.mem_append_left _ hy⟩
      refine ⟨h1, by rw [List.length_cons]; omega, fun y hy => ?_⟩
      rcases List.mem_append.mp (h3 y hy) with q | q
      · rcases List.mem_append.mp (hl2.2 y q) with q | q
        · exact List.mem_append_left _ q
        · rw [List.mem_singleton.mp q]; exact List.mem_append_right _ List.mem_cons_self
      · exact List.mem_append_right _ (List.mem_cons_of_mem _ q)
/-- no two alike and all below M: at most M -/
theorem few_of {l : List Nat} (h : l.Nodup) {M : Nat} (lt : ∀ x ∈ l, x < M) : l.length ≤ M :=
  inj_le M l.length (fun i => l.getD i 0) (fun i hi => lt _ (by rw [List.getD_eq_getElem?_getD, List.getElem?_eq_getElem hi]; exact List.getElem_mem hi)) (fun i j hij hj e => by
    have e : l.getD i 0 = l.getD j 0 := e
    rw [List.getD_eq_getElem?_getD, List.getD_eq_getElem?_getD, List.getElem?_eq_getElem (by omega), List.getElem?_eq_getElem hj] at e
    have h2 := List.pairwise_iff_getElem.mp (List.nodup_iff_pairwise_ne.mp h) i j (by omega) hj hij
    exact h2 e)

/-! ### how great -/
theorem total_le : ∀ (l : List Nat) (b : Nat), (∀ x ∈ l, x ≤ b) → total l ≤ l.length * b
  | [], _, _ => by simp [total]
  | x :: l, b, h => by
    have h1 := total_le l b (fun y hy => h y (List.mem_cons_of_mem _ hy))
    have h2 := h x List.mem_cons_self
    rw [Sh.total_cons, List.length_cons, Nat.add_mul]
    omega
theorem total_filter_zip : ∀ (ps tb : List Nat) (p : Nat), total (((ps.zip tb).filter fun x => sup x.1 p).map fun x => x.2) ≤ total tb
  | [], tb, p => by simp [total]
  | _ :: _, [], p => by simp [total]
  | a :: ps, b :: tb, p => by
    have ih := total_filter_zip ps tb p
    rw [List.zip_cons_cons, List.filter_cons, Sh.total_cons]
    by_cases c : sup a p = true
    · simp only [c, if_true]
      rw [List.map_cons, Sh.total_cons]
      show b + _ ≤ b + _
      omega
    · simp only [c]
      simp
      omega
theorem often_le (a : Nat) (tb : List Nat) (p : Nat) : often a tb p ≤ total tb := total_filter_zip _ _ _
theorem share_le {u : Nat} {v : Nat × List Nat} (p : Nat) (hd : total v.2 ∣ u) (h0 : 0 < total v.2) : shareOf u v p ≤ u := by
  obtain ⟨k, hk⟩ := hd
  unfold shareOf
  rw [hk, Nat.mul_div_cancel_left _ h0, Nat.mul_comm]
  exact Nat.mul_le_mul_right _ (often_le _ _ _)
theorem unit_le : ∀ (vs : List (Nat × List Nat)) (u : Nat), (∀ v ∈ vs, total v.2 ≤ 800) → vs.foldl (fun u v => u * total v.2) u ≤ u * 800 ^ vs.length
  | [], u, _ => by simp
  | v :: vs, u, h => by
    rw [List.foldl_cons, List.length_cons]
    have h1 := unit_le vs (u * total v.2) (fun w hw => h w (List.mem_cons_of_mem _ hw))
    have h2 := h v List.mem_cons_self
    calc _ ≤ u * total v.2 * 800 ^ vs.length := h1
      _ ≤ u * 800 * 800 ^ vs.length := Nat.mul_le_mul_right _ (Nat.mul_le_mul_left _ h2)
      _ = u * 800 ^ (vs.length + 1) := by rw [Nat.pow_succ, Nat.mul_assoc, Nat.mul_comm 800]
theorem unit58 {vs : List (Nat × List Nat)} (h : ∀ v ∈ vs, total v.2 ≤ 800) (six : vs.length ≤ 6) : unitOf vs ≤ 2 ^ 58 := by
  have h1 := unit_le vs 1 h
  have h2 : 800 ^ vs.length ≤ 800 ^ 6 := Nat.pow_le_pow_right (by omega) six
  unfold unitOf
  have h3 : 800 ^ 6 ≤ 2 ^ 58 := by decide
  omega

/-- the equations of what is held are few and their numbers not great -/
theorem eqs_few {n : Nat} {vs : List View} (h : ∀ v ∈ vs, Vw n v) (le : ∀ v ∈ vs, ∀ x ∈ v.table, x ≤ 100) (six : vs.length ≤ 6) {r : List (Nat × Nat)} (e : shares (vs.map num) = some r) :
    r.length ≤ 16 ∧ ∀ p, p < (equations n r).length → ∀ x, x ≤ 2 ^ n → 0 ≤ Sv.coef (equations n r) p x ∧ Sv.coef (equations n r) p x ≤ 2 ^ 58 := by
  obtain ⟨h1, _, h3⟩ := held_fold _ _ _ held_nil e
  have t800 : ∀ v ∈ vs.map num, total v.2 ≤ 800 := fun v hv => by
    obtain ⟨w, hw, e⟩ := List.mem_map.mp hv
    subst e
    have h4 := total_le w.table 100 (le w hw)
    have h5 := (h w hw).ok.1
    have h6 := (h w hw).len8
    show total w.table ≤ 800
    have h7 : w.table.length * 100 ≤ 8 * 100 := Nat.mul_le_mul_right _ (by omega)
    omega
  have u58 := unit58 t800 (by rw [List.length_map]; exact six)
  have uf := unit_fold (vs.map num) 1 (fun v hv => by
    obtain ⟨w, hw, e⟩ := List.mem_map.mp hv
    rw [← e]; exact (h w hw).ok.2) (by omega)
  have each : ∀ y ∈ r, y.1 < 16 ∧ y.2 ≤ 2 ^ 58 := fun y hy => by
    have h4 := h3 y hy
    rw [List.nil_append] at h4
    obtain ⟨w, hw, h5⟩ := List.mem_flatMap.mp h4
    obtain ⟨v, hv, e⟩ := List.mem_map.mp hw
    obtain ⟨p, hp, e2⟩ := List.mem_map.mp h5
    subst e
    subst e2
    have h6 := (parts_lt hp).1
    have h7 := (h v hv).a16
    refine ⟨by show p < 16; exact Nat.lt_of_le_of_lt h6 h7, ?_⟩
    have h8 := share_le (u := unitOf (vs.map num)) (v := num v) p (uf.2.2 _ hw) (h v hv).ok.2
    exact Nat.le_trans h8 u58
  refine ⟨?_, fun p hp x hx => ?_⟩
  · have := few_of h1.nd (M := 16) (fun k hk => by
      obtain ⟨y, hy, e⟩ := List.mem_map.mp hk
      rw [← e]; exact (each y hy).1)
    rw [List.length_map] at this
    exact this
  · have len : (equations n r).length = r.length := List.length_map _
    rw [len] at hp
    have e2 : (equations n r).getD p [] = equation n r[p] := by
      unfold equations
      rw [List.getD_eq_getElem?_getD, List.getElem?_map, List.getElem?_eq_getElem hp]; rfl
    unfold Sv.coef
    rw [e2]
    by_cases c : x < 2 ^ n
    · rw [equation_at n _ c]
      split <;> decide
    · have ex : x = 2 ^ n := by omega
      rw [ex, equation_end]
      have := (each _ (List.getElem_mem hp)).2
      omega

end Wh
end
section
/-! The program's kinds.agree on lists, and what the specification says of two views. -/
namespace Kn
open Kp340 Kp351 Bl FrV Sh Wh

/-- so often these of some questions are answered 1 -/
def margN (v : Nat × List Nat) (s p : Nat) : Nat := total ((((parts v.1).zip v.2).filter fun x => x.1 &&& s == p).map fun x => x.2)
def agreeN (v w : Nat × List Nat) : Bool := (parts (v.1 &&& w.1)).all fun p => margN v (v.1 &&& w.1) p * total w.2 == margN w (v.1 &&& w.1) p * total v.2

theorem fold_sm (P : Nat → Bool) : ∀ (ps tb : List Nat), tb.length = ps.length → (((total (((ps.zip tb).filter fun x => P x.1).map fun x => x.2)) : Nat) : Rat) = sm ps.length (fun c => if P (ps.getD c 0) = true then (tb.getD c 0 : Rat) else 0)
  | [], [], _ => rfl
  | [], _ :: _, h => by simp at h
  | _ :: _, [], h => by simp at h
  | a :: ps, b :: tb, h => by
    have ih := fold_sm P ps tb (by simpa using h)
    rw [List.length_cons, Tb.sm_first]
    have e : sm ps.length (fun i => if P ((a :: ps).getD (i + 1) 0) = true then (((b :: tb).getD (i + 1) 0 : Nat) : Rat) else 0) = sm ps.length (fun c => if P (ps.getD c 0) = true then (tb.getD c 0 : Rat) else 0) := sm_congr (fun i _ => by simp)
    rw [e, ← ih, List.zip_cons_cons, List.filter_cons]
    show _ = (if P a = true then (b : Rat) else 0) + _
    by_cases c : P a = true
    · simp only [c, if_true]
      rw [List.map_cons, total_cons]
      simp
    · simp only [c]
      simp
      grind
theorem marg_eq {n : Nat} {v : View} (h : Vw n v) (s p : Nat) : ((margN (num v) s p : Nat) : Rat) = sm (2 ^ v.qs.length) (fun c => if ((parts (numOf v.qs)).getD c 0 &&& s == p) = true then (v.table.getD c 0 : Rat) else 0) := by
  unfold margN num
  rw [fold_sm (fun x => x &&& s == p) _ _ (by rw [h.len, h.ok.1]), h.len]

/-- a sum of fractions -/
theorem sumF_from : ∀ (l : List Fr) (a : Fr), Good a → (∀ x ∈ l, Good x) → Good (l.foldl add a) ∧ val (l.foldl add a) = val a + sm l.length (fun i => val (l.getD i (0, 1)))
  | [], a, ha, _ => ⟨ha, by show val a = val a + 0; grind⟩
  | x :: l, a, ha, h => by
    have hx := add_spec ha (h x List.mem_cons_self)
    have ih := sumF_from l (add a x) hx.1 (fun y hy => h y (List.mem_cons_of_mem _ hy))
    refine ⟨ih.1, ih.2.trans ?_⟩
    rw [hx.2, List.length_cons, Tb.sm_first]
    have e : sm l.length (fun i => val ((x :: l).getD (i + 1) (0, 1))) = sm l.length (fun i => val (l.getD i (0, 1))) := sm_congr (fun i _ => by simp)
    rw [e]
    show _ = val a + (val x + _)
    grind
theorem sm_filter (f : Nat → Rat) (g : Nat → Fr) (P : Nat → Bool) (h : ∀ c, val (g c) = f c) : ∀ m, sm (((List.range m).filter P).map g).length (fun i => val ((((List.range m).filter P).map g).getD i (0, 1))) = sm m (fun c => if P c = true then f c else 0)
  | 0 => rfl
  | m + 1 => by
    have ih := sm_filter f g P h m
    rw [List.range_succ, List.filter_append, List.map_append]
    by_cases c : P m = true
    · have e : List.filter P [m] = [m] := by simp [c]
      rw [e]
      show sm (_ ++ [g m]).length _ = sm m _ + _
      rw [List.length_append]
      show sm _ _ + _ = _
      have e2 : sm (((List.range m).filter P).map g).length (fun i => val (((((List.range m).filter P).map g) ++ [g m]).getD i (0, 1))) = sm (((List.range m).filter P).map g).length (fun i => val ((((List.range m).filter P).map g).getD i (0, 1))) := sm_congr (fun i hi => by
        rw [List.getD_eq_getElem?_getD, List.getElem?_append_left hi, ← List.getD_eq_getElem?_getD])
      have e3 : (((((List.range m).filter P).map g) ++ [g m]).getD (((List.range m).filter P).map g).length (0, 1)) = g m := by
        rw [List.getD_eq_getElem?_getD, List.getElem?_append_right (Nat.le_refl _)]; simp
      show sm (((List.range m).filter P).map g).length (fun i => val (((((List.range m).filter P).map g) ++ [g m]).getD i (0, 1))) + val (((((List.range m).filter P).map g) ++ [g m]).getD (((List.range m).filter P).map g).length (0, 1)) = _
      rw [e2, e3, ih, h]
      show _ = _ + (if P m = true then f m else 0)
      rw [if_pos c]
    · have e : List.filter P [m] = [] := by simp [c]
      rw [e]
      show sm ((((List.range m).filter P).map g) ++ []).length (fun i => val (((((List.range m).filter P).map g) ++ []).getD i (0, 1))) = sm m _ + _
      rw [List.append_nil, ih]
      show _ = _ + (if P m = true then f m else 0)
      rw [if_neg c]
      grind

/-- a margin's fraction -/
theorem margin_val {n : Nat} {v : View} (h : Vw n v) (P : Nat → Bool) : Good (sumF (((rows v.qs).filter P).map (share v))) ∧ val (sumF (((rows v.qs).filter P).map (share v))) = sm (2 ^ v.qs.length) (fun c => if P c = true then shr v c else 0) := by
  have h1 := sumF_from (((rows v.qs).filter P).map (share v)) (0, 1) good_zero (fun x hx => by
    obtain ⟨c, _, e⟩ := List.mem_map.mp hx
    subst e
    exact (share_spec h.ok c).1)
  refine ⟨h1.1, h1.2.trans ?_⟩
  rw [val_zero]
  unfold rows
  rw [sm_filter (shr v) (share v) P (fun c => (share_spec h.ok c).2)]
  grind

/-- rows and their parts: by looking at all -/
theorem part_rows : ∀ a, a < 16 → ∀ b, b < 16 → ((List.range 8).all fun c => (List.range 8).all fun r => !(decide (c < (parts a).length) && decide (r < (parts (a &&& b)).length)) || ((partRow ⟨setOf 4 a, []⟩ c (setOf 4 (a &&& b)) == r) == ((parts a).getD c 0 &&& (a &&& b) == (parts (a &&& b)).getD r 0))) = true := by decide +kernel
theorem common_set : ∀ a, a < 16 → ∀ b, b < 16 → common ⟨setOf 4 a, []⟩ ⟨setOf 4 b, []⟩ = setOf 4 (a &&& b) := by decide +kernel
theorem and_comm : ∀ a, a < 16 → ∀ b, b < 16 → a &&& b < 16 ∧ (parts (a &&& b)).length ≤ (parts a).length := by decide +kernel

theorem common_eq {n : Nat} {v w : View} (hv : Vw n v) (hw : Vw n w) : common v w = setOf 4 (numOf v.qs &&& numOf w.qs) := by
  have := common_set _ hv.a16 _ hw.a16
  rw [← hv.q, ← hw.q] at this
  exact this
theorem row_iff {n : Nat} {v : View} (hv : Vw n v) {b : Nat} (hb : b < 16) {c r : Nat} (hc : c < 2 ^ v.qs.length) (hr : r < (parts (numOf v.qs &&& b)).length) : (partRow v c (setOf 4 (numOf v.qs &&& b)) == r) = ((parts (numOf v.qs)).getD c 0 &&& (numOf v.qs &&& b) == (parts (numOf v.qs &&& b)).getD r 0) := by
  have h1 := part_rows _ hv.a16 _ hb
  have h8 := hv.len8
  have hl := hv.len
  have hl2 := (and_comm _ hv.a16 _ hb).2
  have h2 := List.all_eq_true.mp (List.all_eq_true.mp h1 c (List.mem_range.mpr (by omega))) r (List.mem_range.mpr (by omega))
  rw [decide_eq_true (show c < (parts (numOf v.qs)).length by omega), decide_eq_true hr] at h2
  have e : partRow ⟨setOf 4 (numOf v.qs), []⟩ c (setOf 4 (numOf v.qs &&& b)) = partRow v c (setOf 4 (numOf v.qs &&& b)) := by
    unfold partRow
    rw [← hv.q]
  rw [e] at h2
  simpa using h2

theorem row_val {n : Nat} {v : View} (hv : Vw n v) {b : Nat} (hb : b < 16) {r : Nat} (hr : r < (parts (numOf v.qs &&& b)).length) :
    sm (2 ^ v.qs.length) (fun c => if (partRow v c (setOf 4 (numOf v.qs &&& b)) == r) = true then shr v c else 0) = ((margN (num v) (numOf v.qs &&& b) ((parts (numOf v.qs &&& b)).getD r 0) : Nat) : Rat) / (total v.table : Rat) := by
  have t0 := tot_pos hv.ok
  rw [marg_eq hv]
  have e : sm (2 ^ v.qs.length) (fun c => if (partRow v c (setOf 4 (numOf v.qs &&& b)) == r) = true then shr v c else 0) = sm (2 ^ v.qs.length) (fun c => (1 / (total v.table : Rat)) * (if ((parts (numOf v.qs)).getD c 0 &&& (numOf v.qs &&& b) == (parts (numOf v.qs &&& b)).getD r 0) = true then (v.table.getD c 0 : Rat) else 0)) := sm_congr (fun c hc => by
    rw [row_iff hv hb hc hr]
    by_cases g : ((parts (numOf v.qs)).getD c 0 &&& (numOf v.qs &&& b) == (parts (numOf v.qs &&& b)).getD r 0) = true
    · rw [if_pos g, if_pos g]; unfold shr; grind
    · rw [if_neg g, if_neg g]; grind)
  rw [e, sm_mul]
  grind

theorem agree_iff {n : Nat} {v w : View} (hv : Vw n v) (hw : Vw n w) : agreeN (num v) (num w) = Kp351.agree v w := by
  have cv := common_eq hv hw
  have ab : numOf w.qs &&& numOf v.qs = numOf v.qs &&& numOf w.qs := Nat.and_comm _ _
  have len : (parts (numOf v.qs &&& numOf w.qs)).length = 2 ^ (setOf 4 (numOf v.qs &&& numOf w.qs)).length := parts_len4 _ (and_comm _ hv.a16 _ hw.a16).1
  have tv := tot_pos hv.ok
  have tw := tot_pos hw.ok
  have key : ∀ r, r < (parts (numOf v.qs &&& numOf w.qs)).length →
      ((sumF (((rows v.qs).filter fun c => partRow v c (setOf 4 (numOf v.qs &&& numOf w.qs)) == r).map (share v)) = sumF (((rows w.qs).filter fun c => partRow w c (setOf 4 (numOf v.qs &&& numOf w.qs)) == r).map (share w))) ↔
      margN (num v) (numOf v.qs &&& numOf w.qs) ((parts (numOf v.qs &&& numOf w.qs)).getD r 0) * total w.table = margN (num w) (numOf v.qs &&& numOf w.qs) ((parts (numOf v.qs &&& numOf w.qs)).getD r 0) * total v.table) := fun r hr => by
    have m1 := margin_val hv (fun c => partRow v c (setOf 4 (numOf v.qs &&& numOf w.qs)) == r)
    have m2 := margin_val hw (fun c => partRow w c (setOf 4 (numOf v.qs &&& numOf w.qs)) == r)
    have e1 := row_val hv hw.a16 hr
    have e2 := row_val hw hv.a16 (r := r) (by rw [ab]; exact hr)
    rw [ab] at e2
    have q : ((margN (num v) (numOf v.qs &&& numOf w.qs) ((parts (numOf v.qs &&& numOf w.qs)).getD r 0) : Nat) : Rat) / (total v.table : Rat) = ((margN (num w) (numOf v.qs &&& numOf w.qs) ((parts (numOf v.qs &&& numOf w.qs)).getD r 0) : Nat) : Rat) / (total w.table : Rat) ↔
        margN (num v) (numOf v.qs &&& numOf w.qs) ((parts (numOf v.qs &&& numOf w.qs)).getD r 0) * total w.table = margN (num w) (numOf v.qs &&& numOf w.qs) ((parts (numOf v.qs &&& numOf w.qs)).getD r 0) * total v.table := by
      generalize margN (num v) (numOf v.qs &&& numOf w.qs) ((parts (numOf v.qs &&& numOf w.qs)).getD r 0) = x
      generalize margN (num w) (numOf v.qs &&& numOf w.qs) ((parts (numOf v.qs &&& numOf w.qs)).getD r 0) = y
      constructor
      · intro g
        have g2 : ((x * total w.table : Nat) : Rat) = ((y * total v.table : Nat) : Rat) := by
          rw [Rat.natCast_mul, Rat.natCast_mul]
          grind
        exact Rat.natCast_inj.mp g2
      · intro g
        have g2 : ((x * total w.table : Nat) : Rat) = ((y * total v.table : Nat) : Rat) := by rw [g]
        rw [Rat.natCast_mul, Rat.natCast_mul] at g2
        grind
    rw [← q, ← e1, ← e2, ← m1.2, ← m2.2]
    exact ⟨fun g => by rw [g], fun g => good_inj m1.1 m2.1 g⟩
  unfold agreeN Kp351.agree
  rw [cv]
  unfold margin rows
  rw [← len]
  rw [Bool.eq_iff_iff, List.all_eq_true, beq_iff_eq]
  constructor
  · intro h
    refine List.map_congr_left (fun r hr => (key r (List.mem_range.mp hr)).mpr ?_)
    have hr' := List.mem_range.mp hr
    have := h ((parts (numOf v.qs &&& numOf w.qs)).getD r 0) (by
      rw [List.getD_eq_getElem?_getD, List.getElem?_eq_getElem hr']; exact List.getElem_mem hr')
    exact beq_iff_eq.mp this
  · intro h p hp
    obtain ⟨r, hr, e⟩ := List.getElem_of_mem hp
    have h2 := List.map_inj_left.mp h r (List.mem_range.mpr hr)
    have h3 := (key r hr).mp h2
    have e' : (parts (numOf v.qs &&& numOf w.qs)).getD r 0 = p := by
      rw [List.getD_eq_getElem?_getD]
      show ((parts ((num v).fst &&& (num w).fst))[r]?).getD 0 = p
      rw [List.getElem?_eq_getElem hr, e]; rfl
    rw [e'] at h3
    exact beq_iff_eq.mpr h3
end Kn
end
section
/-! What the specification says of sets of views: which can be together, by what the document means; smaller sets can too. -/
namespace Db
open Kp351 Kp355 Sh Wh

/-- some world fits all of these -/
def dWorld (n : Nat) (vs : List View) : Prop := ∃ x, x < 2 ^ n ∧ ∀ v ∈ vs, seen v (rowOf x v.qs) = true
/-- any two of these agree -/
def dAgree (vs : List View) : Prop := vs.Pairwise fun v w => Kp351.agree v w = true
/-- there's a whole that has all of their tables -/
def dWhole (n : Nat) (vs : List View) : Prop := ∃ p, HasAll n vs p
def dKind (k n : Nat) (vs : List View) : Prop := match k with
  | 0 => dWorld n vs
  | 1 => dAgree vs
  | _ => dWhole n vs
structure WfD (n : Nat) (vs : List View) : Prop where
  n4 : n < 5
  six : vs.length ≤ 6
  v : ∀ v ∈ vs, Vw n v
  nd : (vs.map fun v => numOf v.qs).Nodup

theorem WfD.sub {n : Nat} {vs ws : List View} (h : WfD n vs) (s : ws.Sublist vs) : WfD n ws :=
  ⟨h.n4, Nat.le_trans s.length_le h.six, fun v hv => h.v v (s.subset hv), h.nd.sublist (s.map _)⟩

/-! ### few rows -/
theorem pow_set4 : ∀ a, a < 16 → (setOf 4 a).length ≤ 3 → 2 ^ (setOf 4 a).length ≤ if [7, 11, 13, 14].contains a then 8 else 4 := by decide +kernel
def tri (l : List Nat) : Nat := (l.filter fun a => [7, 11, 13, 14].contains a).length
theorem tri_le {l : List Nat} (h : l.Nodup) : tri l ≤ 4 := by
  have h1 : ((l.filter fun a => [7, 11, 13, 14].contains a)).Nodup := h.sublist List.filter_sublist
  have h2 : (l.filter fun a => [7, 11, 13, 14].contains a) ⊆ [7, 11, 13, 14] := fun a ha => by
    have := (List.mem_filter.mp ha).2
    simpa using this
  have := List.Nodup.length_le_of_subset h1 h2
  exact this
theorem rows_sum {n : Nat} : ∀ (vs : List View), (∀ v ∈ vs, Vw n v) → (rowsOf vs).length ≤ 4 * vs.length + 4 * tri (vs.map fun v => numOf v.qs)
  | [], _ => by simp [rowsOf]
  | v :: vs, h => by
    have ih := rows_sum vs (fun u hu => h u (List.mem_cons_of_mem _ hu))
    have hv := h v List.mem_cons_self
    have e : (rowsOf (v :: vs)).length = 2 ^ v.qs.length + (rowsOf vs).length := by
      rw [rowsOf_eq, rowsOf_eq, List.flatMap_cons, List.length_append, List.length_map]
      unfold rows
      rw [List.length_range]
    have p := pow_set4 _ hv.a16 (by rw [← hv.q]; exact hv.s3)
    rw [← hv.q] at p
    rw [e, List.length_cons, List.map_cons]
    unfold tri at *
    rw [List.filter_cons]
    by_cases c : [7, 11, 13, 14].contains (numOf v.qs) = true
    · rw [if_pos c] at p
      rw [if_pos c, List.length_cons]; omega
    · rw [if_neg c] at p
      rw [if_neg c]; omega
theorem few {n : Nat} {vs : List View} (h : WfD n vs) : 2 ^ n + (rowsOf vs).length ≤ 56 := by
  have h1 := rows_sum vs h.v
  have h2 := tri_le h.nd
  have h3 : 2 ^ n ≤ 2 ^ 4 := Nat.pow_le_pow_right (by omega) (by have := h.n4; omega)
  have h4 := h.six
  omega

/-! ### the three kinds -/
theorem worlds_iff (d : Kp351.Desk) : (worlds d != []) = true ↔ dWorld d.n d.views := by
  unfold worlds dWorld
  rw [bne_iff_ne, Ne, List.filter_eq_nil_iff]
  constructor
  · intro h
    apply Classical.byContradiction
    intro g
    refine h fun x hx q => g ⟨x, List.mem_range.mp hx, fun v hv => ?_⟩
    exact List.all_eq_true.mp q v hv
  · rintro ⟨x, hx, h⟩ g
    exact g x (List.mem_range.mpr hx) (List.all_eq_true.mpr h)
theorem mem_pairs {k i j : Nat} : (i, j) ∈ pairs k ↔ i < j ∧ j < k := by
  unfold pairs
  rw [List.mem_flatMap]
  constructor
  · rintro ⟨a, ha, h⟩
    obtain ⟨b, hb, e⟩ := List.mem_map.mp h
    obtain ⟨h1, h2⟩ := List.mem_filter.mp hb
    cases e
    exact ⟨by simpa using h2, List.mem_range.mp h1⟩
  · rintro ⟨h1, h2⟩
    exact ⟨i, List.mem_range.mpr (by omega), List.mem_map.mpr ⟨j, List.mem_filter.mpr ⟨List.mem_range.mpr h2, by simpa using h1⟩, rfl⟩⟩
theorem off_iff (d : Kp351.Desk) : (off d).isNone = true ↔ dAgree d.views := by
  unfold off dAgree
  rw [Option.isNone_iff_eq_none, List.find?_eq_none, List.pairwise_iff_getElem]
  constructor
  · intro h i j hi hj hij
    have := h (i, j) (mem_pairs.mpr ⟨hij, hj⟩)
    unfold viewAt at this
    simp only [List.getD_eq_getElem?_getD, List.getElem?_eq_getElem hi, List.getElem?_eq_getElem hj, Option.getD_some] at this
    simpa using this
  · rintro h ⟨i, j⟩ hp
    obtain ⟨hij, hj⟩ := mem_pairs.mp hp
    have hi : i < d.views.length := by omega
    have := h i j hi hj hij
    unfold viewAt
    simp only [List.getD_eq_getElem?_getD, List.getElem?_eq_getElem hi, List.getElem?_eq_getElem hj, Option.getD_some]
    simp [this]

def sel (vs : List View) (s : Nat) : List View := (setOf vs.length s).map fun i => vs.getD i ⟨[], []⟩
theorem filter_range_sub {α : Type} (P : Nat → Bool) (d : α) : ∀ (l : List α) (k : Nat), (((List.range' k l.length).filter P).map fun i => l.getD (i - k) d).Sublist l
  | [], k => by simp
  | x :: l, k => by
    have ih := filter_range_sub P d l (k + 1)
    rw [List.length_cons, List.range'_succ, List.filter_cons]
    have e : (((List.range' (k + 1) l.length).filter P).map fun i => (x :: l).getD (i - k) d) = (((List.range' (k + 1) l.length).filter P).map fun i => l.getD (i - (k + 1)) d) := by
      refine List.map_congr_left fun i hi => ?_
      have h1 := (List.mem_filter.mp hi).1
      have h2 := (List.mem_range'_1.mp h1).1
      rw [show i - k = (i - (k + 1)) + 1 by omega]
      simp
    by_cases c : P k = true
    · rw [if_pos c, List.map_cons, e]
      have : (x :: l).getD (k - k) d = x := by simp
      rw [this]
      exact ih.cons_cons x
    · rw [if_neg c, e]
      exact ih.cons x
theorem sel_sub (vs : List View) (s : Nat) : (sel vs s).Sublist vs := by
  unfold sel setOf
  have := filter_range_sub (fun i => s.testBit i) (⟨[], []⟩ : View) vs 0
  rw [← List.range_eq_range'] at this
  simpa using this
/-- of less a set is less -/
theorem sel_mono (vs : List View) {s t : Nat} (h : ∀ i, i < vs.length → t.testBit i = true → s.testBit i = true) : (sel vs t).Sublist (sel vs s) := by
  unfold sel setOf
  have e : (List.range vs.length).filter (fun i => t.testBit i) = ((List.range vs.length).filter (fun i => s.testBit i)).filter (fun i => t.testBit i) := by
    rw [List.filter_filter]
    refine List.filter_congr fun i hi => ?_
    have hi' := List.mem_range.mp hi
    cases c : t.testBit i with
    | false => simp
    | true => simp [h i hi' c]
  rw [e]
  exact List.filter_sublist.map _

theorem kind_mono {k n : Nat} {vs ws : List View} (s : ws.Sublist vs) (h : dKind k n vs) : dKind k n ws := by
  match k, h with
  | 0, ⟨x, hx, h⟩ => exact ⟨x, hx, fun v hv => h v (s.subset hv)⟩
  | 1, h => exact List.Pairwise.sublist s h
  | k + 2, ⟨p, h1, h2⟩ => exact ⟨p, h1, fun v hv => h2 v (s.subset hv)⟩
theorem tog_iff {d : Kp355.Desk} (W : WfD d.desk.n d.desk.views) (k s : Nat) : together d k s = true ↔ dKind k d.desk.n (sel d.desk.views s) := by
  have W' := W.sub (sel_sub d.desk.views s)
  match k with
  | 0 => exact worlds_iff (only d s)
  | 1 => exact off_iff (only d s)
  | k + 2 => exact whole_iff (d := only d s) (fun v hv => (W'.v v hv).ok) (few W')
theorem tog_mono {d : Kp355.Desk} (W : WfD d.desk.n d.desk.views) {k s t : Nat} (h : ∀ i, i < d.desk.views.length → t.testBit i = true → s.testBit i = true) (hs : together d k s = true) : together d k t = true :=
  (tog_iff W k t).mpr (kind_mono (sel_mono _ h) ((tog_iff W k s).mp hs))
theorem tog_none {d : Kp355.Desk} (W : WfD d.desk.n d.desk.views) (k : Nat) : together d k 0 = true := by
  refine (tog_iff W k 0).mpr ?_
  have e : sel d.desk.views 0 = [] := by unfold sel setOf; simp
  rw [e]
  match k with
  | 0 => exact ⟨0, Nat.pow_pos (by omega), fun v hv => by simp at hv⟩
  | 1 => exact List.Pairwise.nil
  | k + 2 => exact ⟨fun _ => 0, fun _ _ => by grind, fun v hv => by simp at hv⟩
/-- one less -/
theorem less_bit : ∀ s, s < 64 → ∀ i, i < 6 → s.testBit i = true → ∀ j, j < 6 → (s - 2 ^ i).testBit j = (s.testBit j && !(j == i)) := by decide +kernel
theorem less_lt : ∀ s, s < 64 → ∀ i, i < 6 → s.testBit i = true → 2 ^ i ≤ s ∧ s - 2 ^ i < s := by decide +kernel

/-! ### the best of a list -/
/-- the first of the best, gone through once -/
theorem fold_best {lt : Nat → Nat → Bool} {P : Nat → Bool} {N : Nat} (hN : 0 < N) (hP : P (N - 1) = true) (hb : ∀ s, s < N - 1 → lt s (N - 1) = true) {b : Nat → Nat} (h0 : b 0 = 0)
    (hs : ∀ j, j + 1 < ((List.range N).filter P).length → b (j + 1) = if lt (((List.range N).filter P).getD (j + 1) 0) (((List.range N).filter P).getD (b j) 0) = true then j + 1 else b j) :
    (List.range N).foldl (fun (x s : Nat) => if P s && lt s x then s else x) (N - 1) = ((List.range N).filter P).getD (b (((List.range N).filter P).length - 1)) 0 := by
  have e1 : ∀ (l : List Nat) (x : Nat), l.foldl (fun (x s : Nat) => if P s && lt s x then s else x) x = (l.filter P).foldl (fun (x s : Nat) => if lt s x then s else x) x := by
    intro l
    induction l with
    | nil => intro x; rfl
    | cons y l ih =>
      intro x
      rw [List.foldl_cons, List.filter_cons]
      by_cases c : P y = true
      · rw [if_pos c, List.foldl_cons, ← ih]; simp [c]
      · rw [if_neg c, ← ih]; simp [c]
  rw [e1]
  have mem : N - 1 ∈ (List.range N).filter P := List.mem_filter.mpr ⟨List.mem_range.mpr (by omega), hP⟩
  have lt_all : ∀ s ∈ (List.range N).filter P, s < N := fun s h => List.mem_range.mp (List.mem_filter.mp h).1
  have nd : ((List.range N).filter P).Nodup := List.nodup_range.sublist List.filter_sublist
  have inc : ((List.range N).filter P).Pairwise (· < ·) := List.Pairwise.sublist List.filter_sublist List.pairwise_lt_range
  generalize (List.range N).filter P = L at *
  cases L with
  | nil => simp at mem
  | cons x0 L =>
    have key : ∀ (j : Nat), j ≤ L.length → (L.take j).foldl (fun (x s : Nat) => if lt s x then s else x) x0 = (x0 :: L).getD (b j) 0 := by
      intro j
      induction j with
      | zero => intro _; rw [h0]; rfl
      | succ j ih =>
        intro hj
        have hj' : j < L.length := by omega
        have e2 : L.take (j + 1) = L.take j ++ [L[j]] := by rw [List.take_add_one, List.getElem?_eq_getElem hj']; rfl
        rw [e2, List.foldl_append, ih (by omega), List.foldl_cons, List.foldl_nil, hs j (by rw [List.length_cons]; omega)]
        have e3 : (x0 :: L).getD (j + 1) 0 = L[j] := by simp [hj']
        rw [← e3]
        split <;> rfl
    have k1 := key L.length (Nat.le_refl _)
    rw [List.take_length] at k1
    rw [List.foldl_cons, List.length_cons, Nat.add_sub_cancel, ← k1]
    congr 1
    by_cases c : x0 = N - 1
    · rw [c]; split <;> rfl
    · rw [hb x0 (by have := lt_all x0 List.mem_cons_self; omega), if_pos rfl]
theorem size_full : ∀ c, c < 7 → ∀ s, s < 64 → s < 2 ^ c - 1 → (setOf c s).length < (setOf c (2 ^ c - 1)).length := by decide +kernel
theorem enough_all {d : Kp355.Desk} (W : WfD d.desk.n d.desk.views) (k : Nat) : enough d k (2 ^ count d - 1) = true := by
  unfold enough rest
  rw [Nat.sub_self]
  exact tog_none W k
/-- the sets that it's enough to leave out -/
def enoughs (d : Kp355.Desk) (k : Nat) : List Nat := (List.range (2 ^ count d)).filter (enough d k)
theorem enoughs_lt {d : Kp355.Desk} {k j : Nat} (h : j + 1 < (enoughs d k).length) {i : Nat} (hi : i ≤ j) : (enoughs d k).getD i 0 < (enoughs d k).getD (j + 1) 0 := by
  have inc : (enoughs d k).Pairwise (· < ·) := List.Pairwise.sublist List.filter_sublist List.pairwise_lt_range
  have hi' : i < (enoughs d k).length := by omega
  have := (List.pairwise_iff_getElem.mp inc) i (j + 1) hi' h (by omega)
  rw [List.getD_eq_getElem?_getD, List.getD_eq_getElem?_getD, List.getElem?_eq_getElem hi', List.getElem?_eq_getElem h]
  exact this
theorem fewest_eq {d : Kp355.Desk} (W : WfD d.desk.n d.desk.views) (k : Nat) {b : Nat → Nat} (h0 : b 0 = 0)
    (hs : ∀ j, j + 1 < (enoughs d k).length → b (j + 1) = if size d ((enoughs d k).getD (j + 1) 0) < size d ((enoughs d k).getD (b j) 0) then j + 1 else b j) : fewest d k = (enoughs d k).getD (b ((enoughs d k).length - 1)) 0 := by
  have hN : 0 < 2 ^ count d := Nat.pow_pos (by omega)
  have six : d.desk.views.length ≤ 6 := W.six
  have c6 : count d ≤ 6 := six
  have p64 : 2 ^ count d ≤ 2 ^ 6 := Nat.pow_le_pow_right (by omega) c6
  refine fold_best (lt := fun s x => decide (size d s < size d x)) (P := enough d k) hN (enough_all W k) (fun s h => decide_eq_true (size_full _ (by omega) s (by omega) h)) h0 (fun j hj => ?_)
  have := hs j hj
  unfold enoughs at this
  rw [this]
  simp only [decide_eq_true_eq]
theorem fold_lt {N : Nat} (c : Nat → Nat → Bool) : ∀ (l : List Nat) (b : Nat), b < N → (∀ s ∈ l, s < N) → l.foldl (fun (b s : Nat) => if c b s = true then s else b) b < N
  | [], _, h, _ => h
  | x :: l, b, h, hl => by
    rw [List.foldl_cons]
    refine fold_lt c l _ ?_ (fun s hs => hl s (List.mem_cons_of_mem _ hs))
    split
    · exact hl x List.mem_cons_self
    · exact h
theorem fewest_lt (d : Kp355.Desk) (k : Nat) : fewest d k < 2 ^ count d := by
  have hN : 0 < 2 ^ count d := Nat.pow_pos (by omega)
  exact fold_lt (fun b s => enough d k s && decide (size d s < size d b)) _ _ (by omega) (fun s hs => List.mem_range.mp hs)
theorem cheapest_lt (d : Kp355.Desk) (k : Nat) : cheapest d k < 2 ^ count d := by
  have hN : 0 < 2 ^ count d := Nat.pow_pos (by omega)
  exact fold_lt (fun b s => enough d k s && (decide (costOf d s < costOf d b) || (costOf d s == costOf d b && decide (size d s < size d b)))) _ _ (by omega) (fun s hs => List.mem_range.mp hs)
/-! ### the cheapest -/
theorem total_map_le {f : Nat → Nat} : ∀ {l m : List Nat}, l.Sublist m → total (l.map f) ≤ total (m.map f)
  | _, _, .slnil => Nat.le_refl _
  | _, _, .cons x h => by rw [List.map_cons, total_cons]; exact Nat.le_trans (total_map_le h) (Nat.le_add_left _ _)
  | _, _, .cons_cons x h => by rw [List.map_cons, List.map_cons, total_cons, total_cons]; exact Nat.add_le_add_left (total_map_le h) _
theorem total_map_lt {f : Nat → Nat} : ∀ {l m : List Nat}, l.Sublist m → l.length < m.length → (∀ x ∈ m, 1 ≤ f x) → total (l.map f) < total (m.map f)
  | _, _, .slnil, h, _ => absurd h (Nat.lt_irrefl _)
  | l, _, .cons (l₂ := m) x s, _, p => by
    rw [List.map_cons, total_cons]
    have := total_map_le (f := f) s
    have := p x List.mem_cons_self
    omega
  | _, _, .cons_cons x s, h, p => by
    rw [List.map_cons, List.map_cons, total_cons, total_cons]
    have := total_map_lt (f := f) s (by simpa using h) (fun y hy => p y (List.mem_cons_of_mem _ hy))
    omega
theorem all_set : ∀ c, c < 7 → setOf c (2 ^ c - 1) = List.range c := by decide +kernel
theorem cost_full {d : Kp355.Desk} (six : count d ≤ 6) (tr : ∀ i, i < count d → 1 ≤ d.trust.getD i 0) {s : Nat} (hs : s < 2 ^ count d - 1) : costOf d s < costOf d (2 ^ count d - 1) := by
  have p64 : 2 ^ count d ≤ 2 ^ 6 := Nat.pow_le_pow_right (by omega) six
  unfold costOf
  rw [all_set _ (by omega)]
  refine total_map_lt List.filter_sublist ?_ (fun x hx => tr x (List.mem_range.mp hx))
  have := size_full (count d) (by omega) s (by omega) hs
  rw [all_set _ (by omega)] at this
  exact this
theorem cheapest_eq {d : Kp355.Desk} (W : WfD d.desk.n d.desk.views) (tr : ∀ i, i < count d → 1 ≤ d.trust.getD i 0) (k : Nat) {b : Nat → Nat} (h0 : b 0 = 0)
    (hs : ∀ j, j + 1 < (enoughs d k).length → b (j + 1) = if costOf d ((enoughs d k).getD (j + 1) 0) < costOf d ((enoughs d k).getD (b j) 0) ∨ (costOf d ((enoughs d k).getD (j + 1) 0) = costOf d ((enoughs d k).getD (b j) 0) ∧ size d ((enoughs d k).getD (j + 1) 0) < size d ((enoughs d k).getD (b j) 0)) then j + 1 else b j) : cheapest d k = (enoughs d k).getD (b ((enoughs d k).length - 1)) 0 := by
  have hN : 0 < 2 ^ count d := Nat.pow_pos (by omega)
  have six : count d ≤ 6 := W.six
  refine fold_best (lt := fun s x => decide (costOf d s < costOf d x) || (costOf d s == costOf d x && decide (size d s < size d x))) (P := enough d k) hN (enough_all W k) (fun s h => ?_) h0 (fun j hj => ?_)
  · rw [decide_eq_true (cost_full six tr h), Bool.true_or]
  have := hs j hj
  unfold enoughs at this
  rw [this]
  congr 1
  simp
end Db
end
section
set_option Elab.async false
set_option maxRecDepth 100000
set_option exponentiation.threshold 2000
/-! What holds of conflicts and ways out: what can't be together has a conflict in it; it's enough to leave out what meets each conflict; each way out. -/
namespace Db
open Kp351 Kp355 Sh Wh

theorem rest_bit : ∀ c, c < 7 → ∀ s, s < 64 → s < 2 ^ c → ∀ i, i < c → (2 ^ c - 1 - s).testBit i = !s.testBit i := by decide +kernel
theorem less_bit7 : ∀ s, s < 64 → ∀ i, i < 6 → s.testBit i = true → ∀ j, j < 6 → (s - 2 ^ i).testBit j = (s.testBit j && !(j == i)) := less_bit
theorem mem_setOf {c s i : Nat} : i ∈ setOf c s ↔ i < c ∧ s.testBit i = true := by
  unfold setOf
  rw [List.mem_filter, List.mem_range]
theorem bits_eq {c s t : Nat} (hs : s < 2 ^ c) (ht : t < 2 ^ c) (h : ∀ i, i < c → s.testBit i = t.testBit i) : s = t := by
  refine Nat.eq_of_testBit_eq fun i => ?_
  by_cases hi : i < c
  · exact h i hi
  · have p : 2 ^ c ≤ 2 ^ i := Nat.pow_le_pow_right (by omega) (by omega)
    rw [Nat.testBit_lt_two_pow (by omega), Nat.testBit_lt_two_pow (by omega)]

section
variable {d : Kp355.Desk} (W : WfD d.desk.n d.desk.views)
include W
theorem c6 : count d ≤ 6 := W.six
theorem c64 : 2 ^ count d ≤ 64 := Nat.pow_le_pow_right (n := 2) (by omega) (c6 W)
theorem rest_at {s i : Nat} (hs : s < 2 ^ count d) (hi : i < count d) : (rest d s).testBit i = !s.testBit i := rest_bit _ (by have := c6 W; omega) s (by have := c64 W; omega) hs i hi
theorem mem_conflicts {k q : Nat} : q ∈ conflicts d k ↔ q < 2 ^ count d ∧ together d k q = false ∧ ∀ i, i < count d → q.testBit i = true → together d k (q - 2 ^ i) = true := by
  unfold conflicts sets
  rw [List.mem_filter, List.mem_range, Bool.and_eq_true, Bool.not_eq_true', List.all_eq_true]
  exact ⟨fun ⟨a, b, c⟩ => ⟨a, b, fun i hi ht => c i (mem_setOf.mpr ⟨hi, ht⟩)⟩, fun ⟨a, b, c⟩ => ⟨a, b, fun i hi => c i (mem_setOf.mp hi).1 (mem_setOf.mp hi).2⟩⟩
theorem mem_ways {k q : Nat} : q ∈ ways d k ↔ q < 2 ^ count d ∧ enough d k q = true ∧ ∀ i, i < count d → q.testBit i = true → enough d k (q - 2 ^ i) = false := by
  unfold ways sets
  rw [List.mem_filter, List.mem_range, Bool.and_eq_true, List.all_eq_true]
  exact ⟨fun ⟨a, b, c⟩ => ⟨a, b, fun i hi ht => by simpa using c i (mem_setOf.mpr ⟨hi, ht⟩)⟩, fun ⟨a, b, c⟩ => ⟨a, b, fun i hi => by simpa using c i (mem_setOf.mp hi).1 (mem_setOf.mp hi).2⟩⟩
theorem less_in {s i : Nat} (hs : s < 2 ^ count d) (hi : i < count d) (h : s.testBit i = true) : s - 2 ^ i < s ∧ ∀ j, j < count d → (s - 2 ^ i).testBit j = true → s.testBit j = true := by
  have a := c6 W
  have b := c64 W
  refine ⟨(less_lt s (by omega) i (by omega) h).2, fun j hj ht => ?_⟩
  rw [less_bit s (by omega) i (by omega) h j (by omega)] at ht
  rw [Bool.and_eq_true] at ht
  exact ht.1
/-- what can't be together has a conflict in it -/
theorem conflict_in (k : Nat) : ∀ s, s < 2 ^ count d → together d k s = false → ∃ q, q ∈ conflicts d k ∧ ∀ i, i < count d → q.testBit i = true → s.testBit i = true := by
  intro s
  induction s using Nat.strongRecOn with
  | ind s ih =>
    intro hs h
    by_cases c : ∃ i, i < count d ∧ s.testBit i = true ∧ together d k (s - 2 ^ i) = false
    · obtain ⟨i, hi, ht, hf⟩ := c
      have b := less_in W hs hi ht
      obtain ⟨q, hq, sub⟩ := ih (s - 2 ^ i) b.1 (by omega) hf
      exact ⟨q, hq, fun j hj hj' => b.2 j hj (sub j hj hj')⟩
    · refine ⟨s, (mem_conflicts W).mpr ⟨hs, h, fun i hi ht => ?_⟩, fun _ _ z => z⟩
      cases e : together d k (s - 2 ^ i) with
      | true => rfl
      | false => exact absurd ⟨i, hi, ht, e⟩ c
theorem enough_mono {k s t : Nat} (hs : s < 2 ^ count d) (ht : t < 2 ^ count d) (h : ∀ i, i < count d → s.testBit i = true → t.testBit i = true) (e : enough d k s = true) : enough d k t = true := by
  refine tog_mono W (s := rest d s) (fun i hi g => ?_) e
  have hi : i < count d := hi
  rw [rest_at W ht hi] at g
  rw [rest_at W hs hi]
  cases q : s.testBit i with
  | false => rfl
  | true => rw [h i hi q] at g; exact g
theorem rest_lt (s : Nat) : rest d s < 2 ^ count d := by
  have : 0 < 2 ^ count d := Nat.pow_pos (by omega)
  unfold rest
  omega
/-- it's enough to leave out a set just if it meets each conflict -/
theorem enough_meets {k s : Nat} (hs : s < 2 ^ count d) : enough d k s = true ↔ ∀ q ∈ conflicts d k, ∃ i, i < count d ∧ q.testBit i = true ∧ s.testBit i = true := by
  constructor
  · intro e q hq
    obtain ⟨hq1, hq2, hq3⟩ := (mem_conflicts W).mp hq
    apply Classical.byContradiction
    intro no
    have : together d k q = true := by
      refine tog_mono W (s := rest d s) (fun i hi g => ?_) e
      have hi : i < count d := hi
      rw [rest_at W hs hi]
      cases b : s.testBit i with
      | false => rfl
      | true => exact absurd ⟨i, hi, g, b⟩ no
    rw [hq2] at this; cases this
  · intro h
    cases e : enough d k s with
    | true => rfl
    | false =>
      obtain ⟨q, hq, sub⟩ := conflict_in W k (rest d s) (rest_lt W s) e
      obtain ⟨i, hi, h1, h2⟩ := h q hq
      have := sub i hi h1
      rw [rest_at W hs hi, h2] at this
      cases this
/-- in what it's enough to leave out there's a way out -/
theorem way_in (k : Nat) : ∀ s, s < 2 ^ count d → enough d k s = true → ∃ q, q ∈ ways d k ∧ ∀ i, i < count d → q.testBit i = true → s.testBit i = true := by
  intro s
  induction s using Nat.strongRecOn with
  | ind s ih =>
    intro hs h
    by_cases c : ∃ i, i < count d ∧ s.testBit i = true ∧ enough d k (s - 2 ^ i) = true
    · obtain ⟨i, hi, ht, hf⟩ := c
      have b := less_in W hs hi ht
      obtain ⟨q, hq, sub⟩ := ih (s - 2 ^ i) b.1 (by omega) hf
      exact ⟨q, hq, fun j hj hj' => b.2 j hj (sub j hj hj')⟩
    · refine ⟨s, (mem_ways W).mpr ⟨hs, h, fun i hi ht => ?_⟩, fun _ _ z => z⟩
      cases e : enough d k (s - 2 ^ i) with
      | false => rfl
      | true => exact absurd ⟨i, hi, ht, e⟩ c
theorem mem_never {k i : Nat} : i ∈ never d k ↔ i < count d ∧ ∀ q ∈ conflicts d k, q.testBit i = false := by
  unfold never
  rw [List.mem_filter, List.mem_range, List.all_eq_true]
  simp
theorem mem_always {k i : Nat} : i ∈ always d k ↔ i < count d ∧ ∀ q ∈ ways d k, q.testBit i = true := by
  unfold always
  rw [List.mem_filter, List.mem_range, List.all_eq_true]
theorem one_bit {i : Nat} (hi : i < count d) : 2 ^ i < 2 ^ count d ∧ ∀ j, (2 ^ i).testBit j = decide (i = j) := ⟨Nat.pow_lt_pow_right (by omega) hi, fun j => Nat.testBit_two_pow⟩
/-- who's in each way out can't be by itself -/
theorem always_iff {k i : Nat} : i ∈ always d k ↔ i < count d ∧ together d k (2 ^ i) = false := by
  rw [mem_always W]
  refine and_congr_right fun hi => ?_
  obtain ⟨h1, h2⟩ := one_bit W hi
  have rl := rest_lt W (d := d) (2 ^ i)
  constructor
  · intro h
    cases e : together d k (2 ^ i) with
    | false => rfl
    | true =>
      have en : enough d k (rest d (2 ^ i)) = true := by
        unfold enough
        refine tog_mono W (s := 2 ^ i) (fun j hj g => ?_) e
        have hj : j < count d := hj
        rw [rest_at W rl hj, rest_at W h1 hj, Bool.not_not] at g
        exact g
      obtain ⟨q, hq, sub⟩ := way_in W k _ rl en
      have := sub i hi (h q hq)
      rw [rest_at W h1 hi, h2 i] at this
      simp at this
  · intro h q hq
    obtain ⟨q1, q2, _⟩ := (mem_ways W).mp hq
    cases e : q.testBit i with
    | true => rfl
    | false =>
      have : together d k (2 ^ i) = true := by
        refine tog_mono W (s := rest d q) (fun j hj g => ?_) q2
        have hj : j < count d := hj
        rw [h2 j] at g
        have g := of_decide_eq_true g
        subst g
        rw [rest_at W q1 hj, e]; rfl
      rw [h] at this; cases this
/-- who's in no conflict is in no way out, and the other way round -/
theorem never_iff {k i : Nat} : i ∈ never d k ↔ i < count d ∧ ∀ q ∈ ways d k, q.testBit i = false := by
  rw [mem_never W]
  refine and_congr_right fun hi => ?_
  constructor
  · intro h q hq
    obtain ⟨q1, q2, q3⟩ := (mem_ways W).mp hq
    cases e : q.testBit i with
    | false => rfl
    | true =>
      have b := less_in W q1 hi e
      have := q3 i hi e
      have en : enough d k (q - 2 ^ i) = true := by
        refine (enough_meets W (s := q - 2 ^ i) (by omega)).mpr fun c hc => ?_
        obtain ⟨j, hj, h1, h2⟩ := (enough_meets W q1).mp q2 c hc
        refine ⟨j, hj, h1, ?_⟩
        rw [less_bit q (by have := c64 W; omega) i (by have := c6 W; omega) e j (by have := c6 W; omega), h2]
        have : j ≠ i := fun g => by rw [g, h c hc] at h1; cases h1
        simp [this]
      rw [en] at this; cases this
  · intro h c hc
    obtain ⟨c1, c2, c3⟩ := (mem_conflicts W).mp hc
    cases e : c.testBit i with
    | false => rfl
    | true =>
      -- leave out all that's not in c, and i
      have b := less_in W c1 hi e
      have rl := rest_lt W (d := d) (c - 2 ^ i)
      have lb := fun j (hj : j < count d) => less_bit c (by have := c64 W; omega) i (by have := c6 W; omega) e j (by have := c6 W; omega)
      have en : enough d k (rest d (c - 2 ^ i)) = true := by
        unfold enough
        refine tog_mono W (s := c - 2 ^ i) (fun j hj g => ?_) (c3 i hi e)
        have hj : j < count d := hj
        rw [rest_at W rl hj, rest_at W (by omega) hj, Bool.not_not] at g
        exact g
      obtain ⟨q, hq, sub⟩ := way_in W k _ rl en
      obtain ⟨q1, q2, _⟩ := (mem_ways W).mp hq
      obtain ⟨j, hj, h1, h2⟩ := (enough_meets W q1).mp q2 c hc
      have g := sub j hj h2
      rw [rest_at W (by omega) hj, lb j hj, h1] at g
      have ji : j = i := by
        apply Classical.byContradiction
        intro z
        simp [z] at g
      rw [ji] at h2
      rw [h q hq] at h2
      exact h2.symm
end
end Db
end
section
set_option Elab.async false
set_option maxRecDepth 100000
set_option maxHeartbeats 4000000
namespace Dv
open PySem PySem.Spec PyProof.Rows L2
def top (i : Nat) : Stmt := PySem.Challenge.pw_doubtviews_s01_answers.main.body.getD i (.Pass ⟨0, 0, 0, 0⟩)
/-- a def that is called: its promise, its name, how it takes its arguments -/
structure Cal (P : Program) (w : World) (K : PySem.W.Frag) (mg : Str → Option Value) (base : Heap) (x : Str) (k : Nat) (ps : List Str) (sp : Sp) (f : Addr) (fd : FuncData) : Prop where
  ok : FnOk P w K mg base CX0 k f fd ps sp
  mg : mg x = some (.ref f)
  kp : PySem.W.keepIn K (Value.ref f) = true
  b : Binds K fd ps []
/-- a class that is made -/
structure Mak (P : Program) (w : World) (K : PySem.W.Frag) (mg : Str → Option Value) (base : Heap) (x : Str) (k : Nat) (ps : List Str) (sp : Sp) (C f : Addr) (fd : FuncData) : Prop where
  made : Mk K C f
  ok : FnOk P w K mg base CX0 k f fd ps sp
  mg : mg x = some (.ref C)
  b : Binds K fd ps []
end Dv
end
section
set_option Elab.async false
set_option maxRecDepth 100000
/-! min(xs, key=f): f a function whose keys are tuples of whole numbers. -/
namespace MinK
open PySem PySem.Spec L2 PyProof.Rows

/-- an object of one's own, made in this def: nobody else knows of it -/
structure Own (X : Cx) (pins : List (Addr × Obj)) (a : Addr) : Prop where
  ne : a ≠ X.env.locals
  nf : a ∉ X.fs
  ge : X.s_0.heap.objs.size ≤ a
  nc : ∀ x c, X.env.cells.lookup x = some c → c ≠ a
  np : ∀ p ∈ X.pn ++ pins, p.1 ≠ a
section
variable {X : Cx} {σ : L2.St} {H : Hp} {s : Shared} {pins : List (Addr × Obj)}
theorem own_of (I : Inv X pins σ H s) {a : Addr} (h : s.heap.objs.size ≤ a) : Own X pins a where
  ne := fun e => by have := I.lt; rw [← e] at this; exact absurd (Nat.lt_of_lt_of_le this h) (Nat.lt_irrefl _)
  nf := I.nofs h
  ge := Nat.le_trans I.sz h
  nc := fun x c e q => by
    obtain ⟨v, ob, hob, _⟩ := I.cell x c e
    rw [q] at hob
    exact absurd (Nat.lt_of_lt_of_le (Heap.lt_size hob) h) (Nat.lt_irrefl _)
  np := fun p hp q => by
    have := (I.pin p hp).1
    rw [q] at this
    exact absurd (Nat.lt_of_lt_of_le (Heap.lt_size this) h) (Nat.lt_irrefl _)
/-- it is written -/
theorem Own.turn {a : Addr} (O : Own X pins a) (I : Inv X pins σ H s) (n : H a = none) {h' : Heap} {t' : Nat} (k : ∀ b o, b ≠ a → s.heap.get? b = some o → h'.get? b = some o) : Inv X pins σ H { s with heap := h', toks := t' } :=
  I.turned k n O.ne (.inr O.ge) O.nc O.np
/-- more pins -/
theorem Inv.more {more : List (Addr × Obj)} (I : Inv X pins σ H s) (h : ∀ p ∈ more, s.heap.get? p.1 = some p.2 ∧ H p.1 = none ∧ p.1 ≠ X.env.locals ∧ p.1 ∉ X.fs ∧ ∀ v, p.2.data ≠ .cell v) : Inv X (pins ++ more) σ H s :=
  I.pins_of fun p hp => (List.mem_append.mp hp).elim (fun z => I.pin p (List.mem_append_right _ z)) (h p)
theorem Inv.fewer {more : List (Addr × Obj)} (I : Inv X (pins ++ more) σ H s) : Inv X pins σ H s :=
  I.pins_of fun p hp => I.pin p (List.mem_append_right _ (List.mem_append_left _ hp))
theorem Inv.at_ {more : List (Addr × Obj)} (I : Inv X (pins ++ more) σ H s) {p : Addr × Obj} (hp : p ∈ more) : s.heap.get? p.1 = some p.2 ∧ H p.1 = none :=
  let h := I.pin p (List.mem_append_right _ (List.mem_append_right _ hp)); ⟨h.1, h.2.1⟩
end

theorem same_seqT {K : PySem.W.Frag} {H H' : Hp} {a : Addr} {xs : List V} (e : Same H H') (h : SqT K H a xs) : SqT K H' a xs := by
  rcases h with (g | ⟨ob, g⟩) | g
  · exact .inl (.inl (e a _ g))
  · exact .inl (.inr ⟨ob, e a _ g⟩)
  · exact .inr g
/-- the first of the least -/
def bestTo (ks : Nat → List Int) : Nat → Nat
  | 0 => 0
  | j + 1 => if HT.lexLt (ks (j + 1)) (ks (bestTo ks j)) = true then j + 1 else bestTo ks j
theorem bestTo_le (ks : Nat → List Int) : ∀ j, bestTo ks j ≤ j
  | 0 => Nat.le_refl _
  | j + 1 => by
    have := bestTo_le ks j
    unfold bestTo
    split <;> omega

/-- who's who in the walk: the list l, the iterator It, the list S of the best so far and its key, the function f -/
structure Who (X : Cx) (pins : List (Addr × Obj)) (f l S It : Addr) (fo : Obj) : Prop where
  best : Own X pins S
  iter : Own X pins It
  li : l ≠ It
  si : S ≠ It
  fs : f ≠ S
  fi : f ≠ It
  fn : f ≠ X.env.locals ∧ f ∉ X.fs ∧ ∀ v, fo.data ≠ .cell v
/-- where the walk stands: j items are drawn, best is held -/
structure Stand (X : Cx) (pins : List (Addr × Obj)) (σ : L2.St) (H : Hp) (f l S It : Addr) (fo : Obj) (j : Nat) (best : Array Value) (H' : Hp) (s' : Shared) : Prop where
  same : Same H H'
  inv : Inv X pins σ H' s'
  held : ∃ c, s'.heap.get? S = some (seqObj "list" best c)
  place : s'.heap.IsListIter It l j
  fn : s'.heap.get? f = some fo
  nS : H' S = none
  nI : H' It = none
  nf : H' f = none
/-- the key's promise, from any later state -/
def KeyOn (X : Cx) (σ : L2.St) (H : Hp) (f : Addr) (fo : Obj) (xs : List V) (ks : Nat → List Int) : Prop := ∀ (i : Nat) (x : V) (u : Value) (pins' : List (Addr × Obj)) (H' : Hp) (s' : Shared), xs[i]? = some x → RelV x u → Same H H' → Inv X pins' σ H' s' → s'.heap.get? f = some fo → H' f = none →
  wpAny (model X.prog X.w) X.A.in1 (call (.ref f) [u]) (EP X pins' σ fun v H'' => Same H' H'' ∧ ∃ t, v = .ref t ∧ SqT X.K H'' t ((ks i).map V.int)) (fun _ _ => False) s'
section
variable {X : Cx} {pins : List (Addr × Obj)} {σ : L2.St} {H H' : Hp} {f l S It : Addr} {fo : Obj} {xs : List V} {ks : Nat → List Int} {j : Nat} {best : Array Value} {s' : Shared} {E : Value → Shared → Prop}
/-- only the iterator has changed -/
theorem Stand.drawn (W : Who X pins f l S It fo) (T : Stand X pins σ H f l S It fo j best H' s') {h' : Heap} {t' i : Nat} (k : ∀ b o, b ∉ [It] → s'.heap.get? b = some o → h'.get? b = some o) (p : h'.IsListIter It l i) : Stand X pins σ H f l S It fo i best H' { s' with heap := h', toks := t' } := by
  obtain ⟨c, hc⟩ := T.held
  have k' : ∀ b o, b ≠ It → s'.heap.get? b = some o → h'.get? b = some o := fun b o n => k b o fun m => n (List.mem_singleton.mp m)
  exact ⟨T.same, W.iter.turn T.inv T.nI k', ⟨c, k' S _ W.si hc⟩, p, k' f _ W.fi T.fn, T.nS, T.nI, T.nf⟩
theorem Stand.items (T : Stand X pins σ H f l S It fo j best H' s') (hl : SqL X.K H l xs) : ∃ its : List Value, Vals xs its ∧ s'.heap.IsList l its.toArray ∧ its.toArray.size = xs.length := by
  obtain ⟨its, rv, pl, _⟩ := T.inv.list (T.same.seq hl)
  exact ⟨its, rv, pl.isList, (List.size_toArray ..).trans rv.length.symm⟩
theorem Stand.next (W : Who X pins f l S It fo) (T : Stand X pins σ H f l S It fo j best H' s') (hh : X.A.handled = none) (hl : SqL X.K H l xs) (lt : j < xs.length) {Q : Option Value → Shared → Prop}
    (go : ∀ x u s2, xs[j]? = some x → RelV x u → Stand X pins σ H f l S It fo (j + 1) best H' s2 → Q (some u) s2) : wpAny (model X.prog X.w) X.A.in1 (pyNext (.ref It)) Q E s' := by
  obtain ⟨its, rv, pl, sz⟩ := T.items hl
  refine (Walks.list (prog := X.prog) (w := X.w) (A := X.A.in1) hh It l W.li its.toArray).item j s' Q E (by rw [sz]; exact lt) ⟨T.place, pl⟩ fun v h2 tk hP st k => ?_
  obtain ⟨u, hu, r⟩ := rv.get (List.getElem?_eq_getElem lt)
  have e : its[j]? = some v := by simpa using hP
  rw [e] at hu
  cases hu
  exact go _ _ _ (List.getElem?_eq_getElem lt) r (T.drawn W k st.1)
theorem Stand.stop (W : Who X pins f l S It fo) (T : Stand X pins σ H f l S It fo xs.length best H' s') (hh : X.A.handled = none) (hl : SqL X.K H l xs) {Q : Option Value → Shared → Prop}
    (go : ∀ s2, Inv X pins σ H' s2 → (∃ c, s2.heap.get? S = some (seqObj "list" best c)) → Q none s2) : wpAny (model X.prog X.w) X.A.in1 (pyNext (.ref It)) Q E s' := by
  obtain ⟨its, rv, pl, sz⟩ := T.items hl
  refine (Walks.list (prog := X.prog) (w := X.w) (A := X.A.in1) hh It l W.li its.toArray).done s' Q E ⟨by rw [sz]; exact T.place, pl⟩ fun h2 tk k => ?_
  have k' : ∀ b o, b ≠ It → s'.heap.get? b = some o → h2.get? b = some o := fun b o n => k b o fun m => n (List.mem_singleton.mp m)
  obtain ⟨c, hc⟩ := T.held
  exact go _ (W.iter.turn T.inv T.nI k') ⟨c, k' S _ W.si hc⟩
/-- the key of an item -/
theorem Stand.key (W : Who X pins f l S It fo) (T : Stand X pins σ H f l S It fo j best H' s') (K : KeyOn X σ H f fo xs ks) {i : Nat} {x : V} {u : Value} (hx : xs[i]? = some x) (r : RelV x u) {Q : Value → Shared → Prop}
    (go : ∀ t H2 s2, Same H' H2 → SqT X.K H2 t ((ks i).map V.int) → Stand X pins σ H f l S It fo j best H2 s2 → Q (.ref t) s2) : wpAny (model X.prog X.w) X.A.in1 (call (.ref f) [u]) Q E s' := by
  obtain ⟨c, hc⟩ := T.held
  obtain ⟨oI, gI, cI, dI⟩ := T.place
  have I2 : Inv X (pins ++ [(S, seqObj "list" best c), (It, oI), (f, fo)]) σ H' s' := Inv.more T.inv fun p hp => by
    simp only [List.mem_cons, List.not_mem_nil, or_false] at hp
    rcases hp with rfl | rfl | rfl
    · exact ⟨hc, T.nS, W.best.ne, W.best.nf, fun v z => by cases z⟩
    · exact ⟨gI, T.nI, W.iter.ne, W.iter.nf, fun v z => by rw [show oI.data = _ from dI] at z; cases z⟩
    · exact ⟨T.fn, T.nf, W.fn⟩
  refine wpAny_mono (K i x u _ H' s' hx r T.same I2 T.fn T.nf) (fun v s2 z => ?_) fun _ _ z => z.elim
  obtain ⟨y, H2, I3, ry, sm, t, rfl, ht⟩ := z
  cases (show v = Value.ref t from ry)
  have a1 := Inv.at_ I3 (p := (S, seqObj "list" best c)) (by simp)
  have a2 := Inv.at_ I3 (p := (It, oI)) (by simp)
  have a3 := Inv.at_ I3 (p := (f, fo)) (by simp)
  exact go t H2 s2 sm ht ⟨T.same.trans sm, Inv.fewer I3, ⟨c, a1.1⟩, ⟨oI, a2.1, cI, dI⟩, a3.1, a1.2, a2.2, a3.2⟩
/-- another best is held -/
theorem Stand.put (W : Who X pins f l S It fo) (T : Stand X pins σ H f l S It fo j best H' s') (new : Array Value) : Stand X pins σ H f l S It fo j new H' { s' with heap := s'.heap.update S (Obj.mapSeq fun _ => new) } := by
  obtain ⟨c, hc⟩ := T.held
  obtain ⟨oI, gI, cI, dI⟩ := T.place
  have but := (Heap.SameBut.update s'.heap S (Obj.mapSeq fun _ => new)).2
  exact ⟨T.same, W.best.turn (t' := s'.toks) T.inv T.nS fun b o n e => (but b n).trans e, ⟨_, get?_update_seq hc fun _ => new⟩, ⟨oI, (but It W.si.symm).trans gI, cI, dI⟩, (but f W.fs).trans T.fn, T.nS, T.nI, T.nf⟩

theorem loop_name : (toString "min" ++ toString ".loop" : String) = "min.loop" := by decide
/-- one entry of the loop -/
theorem loop_in {R : Result → Shared → Prop} (T : Stand X pins σ H f l S It fo j best H' s')
    (go : wpAny (model X.prog X.w) X.A.in1 (Builtin.«min.loop» ⟨[.ref It, .ref f, .ref S], []⟩) (fun fin s2 => match fin with
      | .done z => R (.ok z) s2
      | .again c' => c'.quiet = true ∧ codeAny (model X.prog X.w) X.A c' R s2) (fun e s2 => R (.error e) s2) s') : codeAny (model X.prog X.w) X.A (.builtin "min.loop" ⟨[.ref It, .ref f, .ref S], []⟩) R s' := by
  have _ := T
  refine codeAny_builtin PySem.F.entry_min_loop (by rw [Around.under_plainId PySem.F.plain_min_loop _]; exact go)
/-- the loop, from the second item on -/
theorem min_loop {R : Result → Shared → Prop} (W : Who X pins f l S It fo) (hu : X.A.in1.units < cLine) (hh : X.A.handled = none) (hl : SqL X.K H l xs) (K : KeyOn X σ H f fo xs ks)
    (due : ∀ (x : V) (u : Value) (H' : Hp) (s' : Shared), xs[bestTo ks (xs.length - 1)]? = some x → RelV x u → Same H H' → Inv X pins σ H' s' → R (.ok (.ret u)) s') :
    ∀ (left j : Nat) (H' : Hp) (s' : Shared) (x : V) (u : Value) (t : Addr), j + 1 + left = xs.length → Stand X pins σ H f l S It fo (j + 1) #[u, .ref t] H' s' → xs[bestTo ks j]? = some x → RelV x u → SqT X.K H' t ((ks (bestTo ks j)).map V.int) →
      codeAny (model X.prog X.w) X.A (.builtin "min.loop" ⟨[.ref It, .ref f, .ref S], []⟩) R s' := by
  intro left
  induction left with
  | zero =>
    intro j H' s' x u t len T hx rx _
    have len' : j + 1 = xs.length := len
    obtain ⟨c, hc⟩ := T.held
    refine loop_in T ?_
    show wpAny _ _ (seqItems? (.ref S) >>= _) _ _ _
    rw [len'] at T
    refine wpAny_bind (wpAny_seqItems hc rfl (wpAny_bind (wpAny_tryCatch (T.stop W hh hl fun s2 I2 ⟨c2, hc2⟩ => ?_))))
    refine wpAny_bind (wpAny_updateSeq hc2 rfl (wpAny_bind (wpAny_letGo (wpAny_pure ?_))))
    refine due x u H' _ (by rw [show xs.length - 1 = j by omega]; exact hx) rx T.same ?_
    exact W.best.turn (t' := s2.toks) I2 T.nS fun b o n e => ((Heap.SameBut.update s2.heap S (Obj.mapSeq fun _ => (#[] : Array Value))).2 b n).trans e
  | succ left ih =>
    intro j H' s' x u t len T hx rx ht
    obtain ⟨c, hc⟩ := T.held
    have step : bestTo ks (j + 1) = if HT.lexLt (ks (j + 1)) (ks (bestTo ks j)) = true then j + 1 else bestTo ks j := rfl
    refine loop_in T ?_
    show wpAny _ _ (seqItems? (.ref S) >>= _) _ _ _
    refine wpAny_bind (wpAny_seqItems hc rfl (wpAny_bind (wpAny_tryCatch (T.next W hh hl (by omega) fun y v s2 hy ry T2 => ?_))))
    show wpAny _ _ (tryCatch (holding [v] (call (.ref f) [v])) _ >>= _) _ _ _
    refine wpAny_bind (wpAny_tryCatch (wpAny_holding (T2.key W K hy ry fun t2 H3 s3 sm ht2 T3 => ?_)))
    have ht3 := same_seqT sm ht
    obtain ⟨is1, r1, p1, _⟩ := T3.inv.tuple ht2
    obtain ⟨is2, r2, p2, _⟩ := T3.inv.tuple ht3
    show wpAny _ _ (tryCatch (holding [v, .ref t2] (richCompare .Lt (.ref t2) (.ref t) >>= _)) _ >>= _) _ _ _
    refine wpAny_bind (wpAny_tryCatch (wpAny_holding (wpAny_bind (HT.lt_tupInts p1 p2 (intsAre_of r1) (intsAre_of r2) hu (wpAny_bind (wpAny_holding (wpAny_truthy_bool (wpAny_bind (wpAny_letGo (wpAny_pure ?_))))))))))
    obtain ⟨c3, hc3⟩ := T3.held
    cases lt : HT.lexLt (ks (j + 1)) (ks (bestTo ks j)) with
    | true =>
      rw [lt, if_pos rfl] at step
      refine wpAny_bind (wpAny_updateSeq hc3 rfl (wpAny_bind (wpAny_letGo ?_)))
      rw [loop_name]
      exact wpAny_pure ⟨plainId_quiet PySem.F.plain_min_loop _, ih (j + 1) H3 _ y v t2 (by omega) (T3.put W #[v, .ref t2]) (by rw [step]; exact hy) ry (by rw [step]; exact ht2)⟩
    | false =>
      rw [lt, if_neg Bool.false_ne_true] at step
      simp only [Bool.false_eq_true, if_false]
      refine wpAny_bind (wpAny_letGo ?_)
      rw [loop_name]
      exact wpAny_pure ⟨plainId_quiet PySem.F.plain_min_loop _, ih (j + 1) H3 s3 x u t (by omega) T3 (by rw [step]; exact hx) rx (by rw [step]; exact ht3)⟩

/-- min(l, key=f) -/
theorem min_key {s : Shared} {Q : Value → Shared → Prop} (hu : X.A.in1.units < cLine) (hh : X.A.handled = none) (I : Inv X pins σ H s) (hl : SqL X.K H l xs) (some_ : 0 < xs.length) (gf : s.heap.get? f = some fo) (nf : H f = none) (Of : f ≠ X.env.locals ∧ f ∉ X.fs ∧ ∀ v, fo.data ≠ .cell v) (K : KeyOn X σ H f fo xs ks)
    (due : ∀ (x : V) (u : Value) (H' : Hp) (s' : Shared), xs[bestTo ks (xs.length - 1)]? = some x → RelV x u → Same H H' → Inv X pins σ H' s' → Q u s') :
    wpAny (model X.prog X.w) X.A (call (.builtin "min") [.ref l] [(Str.ofString "key", .ref f)]) Q E s := by
  obtain ⟨_, _, pl, _⟩ := I.list hl
  obtain ⟨ol, gl, _⟩ := id pl.isList
  have l_lt := Heap.lt_size gl
  have f_lt := Heap.lt_size gf
  refine kmk_tree PySem.F.kind_min PySem.F.plain_min PySem.F.entry_min (kmk_min_key ..) ?_
  show wpAny _ _ (Builtin.Builtins.bindParams "min" ["key", "default"] 0 ⟨[], [(Str.ofString "key", .ref f)]⟩ >>= _) _ _ s
  have params : Builtin.Builtins.bindParams "min" ["key", "default"] 0 ⟨[], [(Str.ofString "key", .ref f)]⟩ = pure [some (.ref f), none] := rfl
  refine wpAny_bind (wpAny_of_eq params (wpAny_bind (wpAny_pure (wpAny_bind (wpAny_pyIter_list pl.isList (wpAny_bind (wpAny_newList ?_ (Nat.zero_le _))))))))
  rw [loop_name]
  -- the iterator, the list of the best
  generalize hio : ({ cls := .type "list_iterator", data := .fields #[.ref l, .int 0 0] } : Obj) = io
  have size1 : (s.heap.push io).objs.size = s.heap.objs.size + 1 := size_push' ..
  have kept : ∀ b o, s.heap.get? b = some o → ((s.heap.push io).push (seqObj "list" #[] 0)).get? b = some o := fun b o e => Heap.get?_push_of_some _ (Heap.get?_push_of_some _ e)
  have gI : ((s.heap.push io).push (seqObj "list" #[] 0)).get? s.heap.objs.size = some io := Heap.get?_push_of_some _ (Heap.get?_push_size s.heap (by rw [← hio]; rfl))
  have W : Who X pins f l (s.heap.push io).objs.size s.heap.objs.size fo := ⟨own_of I (by rw [size1]; exact Nat.le_succ _), own_of I (Nat.le_refl _), Nat.ne_of_lt l_lt, by rw [size1]; exact Nat.succ_ne_self _, by rw [size1]; exact Nat.ne_of_lt (Nat.lt_succ_of_lt f_lt), Nat.ne_of_lt f_lt, Of⟩
  have T : Stand X pins σ H f l (s.heap.push io).objs.size s.heap.objs.size fo 0 #[] H { s with heap := (s.heap.push io).push (seqObj "list" #[] 0) } :=
    ⟨Same.refl H, I.kept (t' := s.toks) kept, ⟨0, Heap.get?_push_size _ rfl⟩, ⟨io, gI, by rw [← hio], by rw [← hio]; rfl⟩, kept f _ gf, I.hok.fresh (by rw [size1]; exact Nat.le_succ _), I.hok.fresh (Nat.le_refl _), nf⟩
  obtain ⟨c, hc⟩ := T.held
  refine wpAny_pure ⟨plainId_quiet PySem.F.plain_min_loop _, loop_in T ?_⟩
  show wpAny _ _ (seqItems? (.ref _) >>= _) _ _ _
  refine wpAny_bind (wpAny_seqItems hc rfl (wpAny_bind (wpAny_tryCatch (T.next W hh hl some_ fun y v s2 hy ry T2 => ?_))))
  show wpAny _ _ (tryCatch (holding [v] (call (.ref f) [v])) _ >>= _) _ _ _
  refine wpAny_bind (wpAny_tryCatch (wpAny_holding (T2.key W K hy ry fun t H3 s3 sm ht T3 => ?_)))
  obtain ⟨c3, hc3⟩ := T3.held
  show wpAny _ _ (updateSeq _ (fun _ => #[v, .ref t]) >>= _) _ _ _
  refine wpAny_bind (wpAny_updateSeq hc3 rfl ?_)
  rw [loop_name]
  exact wpAny_pure ⟨plainId_quiet PySem.F.plain_min_loop _, min_loop W hu hh hl K due (xs.length - 1) 0 H3 _ y v t (by omega) (T3.put W #[v, .ref t]) hy ry ht⟩
end
end MinK
end
section
set_option Elab.async false
set_option maxRecDepth 100000
set_option maxHeartbeats 4000000
/-! A lambda with parameters and captured names; min(xs, key=lambda ..). -/
namespace MinK
open PySem PySem.Spec PyProof.Rows L2 LamX NdefX

/-- len's reading, of a written part that is named -/
abbrev rLenK (K : PySem.W.Frag) : List V → Hp → VK → Prop := fun xs H Q => ∃ p ys, xs = [V.ref p] ∧ (SqL K H p ys ∨ SqT K H p ys) ∧ Q (V.int ys.length) H
/-- a def whose code object is known -/
structure FunC (K : PySem.W.Frag) (x qual : Str) (st : Stmt) (f : Addr) (fd : FuncData) (c : Addr) : Prop where
  ex : ∃ (oc : Value) (od : Option Addr) (kV doc pm : Value) (an : Option Addr) (ct : Value) (osl : Array (Option Value)),
    fd = PySem.W.fnOf x qual (defArgs st) (defBody st) (defScope st) .none kV doc pm an (.ref c) ct ∧ K.lookup f = some ⟨oc, od, .func fd, osl⟩ ∧ PySem.W.codeIn K (.ref c) qual = true
  kp : PySem.W.keepIn K (Value.ref f) = true
section
variable {K : PySem.W.Frag} {P : Program} {w : World} {base : Heap} {mg : Str → Option Value}
theorem FunC.fn {x qual : Str} {st : Stmt} {f c : Addr} {fd : FuncData} (F : FunC K x qual st f fd c) : Fun K x qual st f fd := by
  obtain ⟨oc, od, kV, doc, pm, an, ct, osl, h1, h2, h3⟩ := F.ex
  exact ⟨⟨oc, od, kV, doc, pm, an, _, ct, osl, h1, h2, h3⟩, F.kp⟩
theorem FunC.ok {x qual : Str} {st : Stmt} {f c : Addr} {fd : FuncData} {N ps : List Str} {k : Nat} {sp : Sp} (F : FunC K x qual st f fd c) (S : FnScope N ps (defScope st)) (len : ∀ vs H Q E, sp vs H Q E → vs.length = ps.length)
    (hbody : ∀ (A : Around) (outer : List Env) (s : Shared) (H : Hp) (vs : List V) (Q : VK) (E : XK), Room k (A.deeper (envOfC qual (defScope st) s.heap.objs.size f (.ref c))) → sp vs H Q E →
      ∃ t, PSs (cxOf CX0 P w K mg base N qual (defScope st) f (.ref c) A outer s H E).nox (defBody st) t ∧ t { nx := fun _ H' => Q .non H', rt := Q } (start N vs) H) : FnOk P w K mg base CX0 (k + 1) f fd ps sp := by
  obtain ⟨oc, od, kV, doc, pm, an, ct, osl, rfl, lk, hcd⟩ := F.ex
  refine fn_of lk hcd S len fun B up sh Hp0 us Qv Ev room hsp => ?_
  obtain ⟨t, h, q⟩ := hbody B up sh Hp0 us Qv Ev room hsp
  exact ⟨t, h.nox, q⟩
end

/-- the lambda as a def's record (its body stands beside) -/
abbrev lamF (qual : Str) (params : Arguments) (scope : Scope) (cl : List (Str × Addr)) (c' : Addr) : NF := ⟨"<lambda>", qual, params, [], scope, cl, c'⟩
section
variable {CX : CXT} {P : Program} {w : World} {K : PySem.W.Frag} {mg : Str → Option Value} {base : Heap} {N ps fr : List Str} {f c' : Addr} {k : Nat} {qual : Str} {params : Arguments} {body : Expr} {scope : Scope} {cl : List (Str × Addr)} {pm ctv : Value}
/-- a lambda is called -/
theorem lam_run (S : NScope N ps fr scope) (hb : ∀ us : List Value, us.length = ps.length → bindArgs (PySem.W.kla_fn "<lambda>" qual params body scope cl pm (.ref c') ctv) ⟨us, []⟩ = pure (ps.zip us))
    {A : Around} {outer : List Env} {s : Shared} {H : Hp} {us : List Value} {vs : List V} {ws : List (Option V)} {Q : VK} {E : XK} (hr : Room (k + 1) A) (e0 : Env0 P w K mg base A outer s H)
    (gf : s.heap.get? f = some (PySem.W.kla_obj "<lambda>" qual params body scope cl pm c' ctv)) (hc : H c' = some (CodeO c' qual)) (C : CellsAt cl fr ws s.heap H) (r : Vals vs us) (hl : vs.length = ps.length)
    {t : TE} (ht : Room k (A.deeper (envF (lamF qual params scope cl c') f s.heap.objs.size)) → PE (ncx CX P w K mg base N (lamF qual params scope cl c') f A outer s H E) body t) (hq : t (startF N vs ws) H Q) :
    codeAny (model P w) A (.call (.ref f) ⟨us, []⟩) (CR CX outer P w H s Q E) s := by
  refine PySem.W.kla_callFunE hr.depth gf rfl S.co S.gen rfl (codeO_at e0.hok hc) ?_
  rw [hb us (r.length.symm.trans hl)]
  have pars : ∀ y ∈ ps.zip us, scope.names.lookup y.1 = some .local := fun y hy => S.par y.1 (List.of_mem_zip (a := y.1) (b := y.2) hy).1
  refine wpAny_pure (wpAny_newFunctionEnv S.nocell pars (fun h1 own_ but => ?_) S.kind)
  have stays : ∀ b o, s.heap.get? b = some o → h1.get? b = some o := fun b o e => but.extBut b o (fun q => absurd (Heap.lt_size e) (by rw [q]; exact Nat.lt_irrefl _)) (Heap.get?_push_of_some _ e)
  have base_ := e0.mod.nolimit.keeps (h' := s.heap) fun b o e => (e0.bs b o e).1
  refine ⟨base_.fresh _ but, ?_⟩
  show codeAny _ _ (.expr body (envF (lamF qual params scope cl c') f s.heap.objs.size)) _ _
  have I := inv_startN (CX := CX) (P := P) (E := E) (tk := s.toks + (ps.zip us).length) (F := lamF qual params scope cl c') (f := f) S hr.hd e0 hl r C own_ stays
  refine PySem.W.kla_codeExpr (wpAny_mono ((ht (hr.deeper _)).run [] _ (startF N vs ws) H Q I hq) (fun v s' h => ?_) fun e s' h => h)
  obtain ⟨w', H', J, rv, q⟩ := h
  exact ⟨w', H', J.os, J.bare, J.base, J.hok, rv, q⟩
end

def tMinLam (K : PySem.W.Frag) (T : List (Addr × Str)) (te : TE) (N : List Str) (js : List Nat) (tb : TE) : TE := fun σ H Q => te σ H fun x H1 => Tabs T H1 ∧ ∀ H2, ExtN H1 H2 → Tabs T H2 → ∃ (l : Addr) (xs : List V) (ks : Nat → List Int), x = .ref l ∧ SqL K H2 l xs ∧ 0 < xs.length ∧
  (∀ (i : Nat) (y : V) (H3 : Hp), xs[i]? = some y → Same H2 H3 → tb (startF N [y] (js.map (slotAt σ))) H3 fun v H4 => Same H3 H4 ∧ ∃ t, v = .ref t ∧ SqT K H4 t ((ks i).map V.int)) ∧
  (∀ (y : V) (H3 : Hp), xs[bestTo ks (xs.length - 1)]? = some y → Same H2 H3 → Q y H3)
section
variable {X : Cx}
/-- min(e, key=lambda a: body) -/
theorem pe_minLam {T : List (Addr × Str)} {c P : Addr} {N fr : List Str} {js : List Nat} {a : Str} {e body : Expr} {te tb : TE} {params : Arguments} {scope : Scope} {p pos lpos kpos : Pos} {k : Nat}
    (hg : Gl X "min") (hm : X.mg "min" = none) (hc : X.calm = true) (he : PE X e te) (TB : TabB X.base X.mg c P) (hcode : X.env.code = .ref c) (hmT : (P, X.env.qual ++ "<lambda>") ∈ T) (hu : ∀ p ∈ T, p.1 = P → p.2 = X.env.qual ++ "<lambda>") (hr : Room (k + 2) X.A)
    (S : NScope N [a] fr scope) (hfree : ∀ y ∈ scope.names, y.2 = .free → X.env.scope.names.lookup y.1 = some .cell ∨ X.env.scope.names.lookup y.1 = some .free) (hfr : ∀ y ∈ fr, (y, NameKind.free) ∈ scope.names) (hjs : js.map (fun j => X.N[j]?) = fr.map some) (hdef : defaultsOf params X.env = ([], []))
    (hb : ∀ (qual : Str) (cl : List (Str × Addr)) (pm cv ctv : Value) (us : List Value), us.length = ([a] : List Str).length → bindArgs (PySem.W.kla_fn "<lambda>" qual params body scope cl pm cv ctv) ⟨us, []⟩ = pure (([a] : List Str).zip us))
    (hbody : ∀ (A : Around) (outer : List Env) (s : Shared) (H : Hp) (E : XK) (f c' : Addr), Room k (A.deeper (envF (lamF (X.env.qual ++ "<lambda>") params scope (cloFrom X.env.cells scope.names []) c') f s.heap.objs.size)) →
      PE (ncx CX0 X.prog X.w X.K X.mg X.base N (lamF (X.env.qual ++ "<lambda>") params scope (cloFrom X.env.cells scope.names []) c') f A outer s H E) body tb)
    (hs : backTo pos (starEach [e] X.env) = (false, eval e X.env) :: backTo pos (starEach [] X.env) := by rfl) (hpl : (backTo pos (starEach [e] X.env)).any (·.1) = false := by rfl)
    (hall : (backToKw pos (keywordEach [⟨some "key", .Lambda params body scope lpos, kpos⟩] X.env)).all (·.1.isSome) = true := by rfl) (hnone : (backToKw pos (keywordEach [⟨some "key", .Lambda params body scope lpos, kpos⟩] X.env)).any (·.1.isNone) = false := by rfl)
    (hks : (backToKw pos (keywordEach [⟨some "key", .Lambda params body scope lpos, kpos⟩] X.env)).filterMap (·.1) = [("key" : Str)] := by rfl) :
    PE X (.Call (.Name "min" p) [e] [⟨some "key", .Lambda params body scope lpos, kpos⟩] pos) (tMinLam X.K T te N js tb) := by
  refine ⟨fun pins s σ H Q I h => ?_⟩
  refine wpAny_Call_Name_kw (ld_blt I hg hm boot_min ?_ (by decide) (by decide))
  refine PyProof.Rows.callWith_kw ?_ hs hpl hall hnone
  rw [hs]
  refine Calls.spliced_cons (thn (he.run pins s σ H _ I h) fun v s1 ⟨x, H1, I1, r1, hT, q1⟩ => ?_)
  refine Calls.spliced_nil ?_
  show wpAny _ _ (evalAll ((do let v ← eval (.Lambda params body scope lpos) X.env; standAt pos; pure v) :: [])) _ _ s1
  have hfr2 : ∀ y ∈ scope.names, y.2 = .free → ∃ c, X.env.cells.lookup y.1 = some c := fun y hy e => (hfree y hy e).elim (fun z => I.ok.has _ (.inl z)) fun z => I.ok.has _ (.inr z)
  refine wpAny_evalAll_cons (wpAny_bind (lam_make2 I1 TB hcode hmT hu hT hdef hfr2 fun f c' pm ctv H2 s2 I2 eN T2 gf nf nfr hco => wpAny_bind (wpAny_standAt (wpAny_pure ?_))))
  refine wpAny_evalAll_nil ?_
  rw [hks]
  show wpAny _ _ (call (.builtin "min") [v] [(Str.ofString "key", .ref f)]) _ _ s2
  obtain ⟨l, xs, ks, rfl, hl, hne, hkey, hq⟩ := q1 H2 eN T2
  obtain rfl : v = Value.ref l := r1
  have hr1 : Room (k + 1) X.A.in1 := hr.in1
  have nL : f ≠ X.env.locals := fun z => by
    obtain ⟨m, ⟨o, es, ep, ho, hd, _⟩, _⟩ := I2.loc
    rw [← z, gf] at ho
    cases ho
    cases hd
  have nF : f ∉ X.fs := fun z => nfr (by
    rcases I2.ok.stk with e | ⟨e, _⟩
    · rw [e]; exact z
    · rw [e]
      obtain ⟨env, he, hf⟩ := List.mem_filterMap.mp z
      exact List.mem_filterMap.mpr ⟨env, List.mem_cons_of_mem _ he, hf⟩)
  refine min_key (fo := PySem.W.kla_obj "<lambda>" (X.env.qual ++ "<lambda>") params body scope (cloFrom X.env.cells scope.names []) pm c' ctv) (ks := ks) (Nat.lt_of_le_of_lt (Nat.le_add_right _ 64) hr1.units) (I2.ok.hd hc) I2 hl hne gf nf ⟨nL, nF, fun v z => by cases z⟩ (fun i y u pins' H3 s3 hy ry sm I3 gf3 nf3 => ?_) fun y u H3 s3 hy ry sm I3 => ⟨y, H3, I3, ry, hq y H3 hy sm⟩
  have hco3 := sm _ _ hco
  have C := cells_of I3 (Caps.made (fr := fr) (js := js) I3.ok hfree hfr hjs)
  have e3 : Env0 X.prog X.w X.K X.mg X.base X.A.in1 X.stack s3 H3 := let e := I3.env0; ⟨e.frames, e.mod, e.bs, e.bsz, e.funs, e.frf, e.hok, e.bare⟩
  refine wpAny_call (codeAny_mono (lam_run (CX := CX0) (E := fun _ _ _ => False) S (fun us h => hb _ _ _ _ _ us h) hr1 e3 gf3 hco3 C (.cons ry .nil) rfl (fun hr' => hbody _ _ s3 H3 _ f c' hr') (hkey i y H3 hy sm)) fun r s4 hq4 => ?_)
  cases r with
  | error e => exact (show False from hq4).elim
  | ok fl =>
    cases fl with
    | ret u => exact I3.after hq4
    | next => exact False.elim hq4
    | brk => exact False.elim hq4
    | cont => exact False.elim hq4
end
end MinK
end
section
set_option Elab.async false
set_option maxRecDepth 100000
/-! The fewest and the cheapest as the first of the least by a key of whole numbers. -/
namespace Db
open Kp351 Kp355 Sh Wh MinK PySem PySem.Spec PyProof.Rows

theorem lex2 {a b c e : Nat} (h : b < e) : HT.lexLt [(e' : Int), (e : Int)] [(c' : Int), (b : Int)] = true ↔ e' < c' := by
  rw [HT.lexLt_cons, HT.lexLt_cons, HT.lexLt_nil_nil]
  by_cases q : e' < c'
  · rw [if_neg (by omega)]
    exact ⟨fun _ => q, fun _ => decide_eq_true q⟩
  · refine ⟨fun g => ?_, fun g => absurd g q⟩
    split at g
    · split at g
      · cases g
      · have := of_decide_eq_true g; omega
    · exact of_decide_eq_true g
theorem lex3 {b e : Nat} {x y u v : Int} (h : b < e) : HT.lexLt [x, u, (e : Int)] [y, v, (b : Int)] = true ↔ x < y ∨ (x = y ∧ u < v) := by
  rw [HT.lexLt_cons]
  by_cases q : x = y
  · rw [if_pos q, lex2 (a := 0) (c := 0) h]
    constructor
    · exact fun g => .inr ⟨q, g⟩
    · rintro (g | g)
      · omega
      · exact g.2
  · rw [if_neg q]
    constructor
    · exact fun g => .inl (of_decide_eq_true g)
    · rintro (g | g)
      · exact decide_eq_true g
      · exact absurd g.1 q
/-- the keys of what it's enough to leave out -/
def keysF (d : Kp355.Desk) (k : Nat) (i : Nat) : List Int := [(size d ((enoughs d k).getD i 0) : Int), ((enoughs d k).getD i 0 : Int)]
def keysC (d : Kp355.Desk) (k : Nat) (i : Nat) : List Int := [(costOf d ((enoughs d k).getD i 0) : Int), (size d ((enoughs d k).getD i 0) : Int), ((enoughs d k).getD i 0 : Int)]
theorem fewest_best {d : Kp355.Desk} (W : WfD d.desk.n d.desk.views) (k : Nat) : fewest d k = (enoughs d k).getD (bestTo (keysF d k) ((enoughs d k).length - 1)) 0 := by
  refine fewest_eq W k (b := bestTo (keysF d k)) rfl fun j hj => ?_
  have lt := enoughs_lt hj (bestTo_le (keysF d k) j)
  show (if HT.lexLt (keysF d k (j + 1)) (keysF d k (bestTo (keysF d k) j)) = true then j + 1 else bestTo (keysF d k) j) = _
  congr 1
  exact propext ((lex2 (a := 0) (c := 0) lt).trans (by omega))
theorem cheapest_best {d : Kp355.Desk} (W : WfD d.desk.n d.desk.views) (tr : ∀ i, i < count d → 1 ≤ d.trust.getD i 0) (k : Nat) : cheapest d k = (enoughs d k).getD (bestTo (keysC d k) ((enoughs d k).length - 1)) 0 := by
  refine cheapest_eq W tr k (b := bestTo (keysC d k)) rfl fun j hj => ?_
  have lt := enoughs_lt hj (bestTo_le (keysC d k) j)
  show (if HT.lexLt (keysC d k (j + 1)) (keysC d k (bestTo (keysC d k) j)) = true then j + 1 else bestTo (keysC d k) j) = _
  congr 1
  exact propext ((lex3 lt).trans (by omega))
end Db
end
section
set_option Elab.async false
set_option maxRecDepth 100000
/-! The end of a row against a specification, where defs of the program make lambdas: a table of code objects stands beside each such def, is empty at the call, and may have grown behind it. -/
namespace MinK
open PySem.W (WData Codec OpenSpec Well WellAll ReadsW)
open PySem PySem.Spec L2 LamX PyProof.Rows

mutual
theorem dw_same {K : PySem.W.Frag} {H H' : Hp} (e : Same H H') : ∀ (v : V) (d : WData), Dw K H v d → Dw K H' v d
  | _, _, .non => .non
  | _, _, .bl b => .bl b
  | _, _, .int i => .int i
  | _, _, .str x => .str x
  | _, _, .byt b => .byt b
  | _, _, .lst h1 h2 => .lst (e.seq h1) (dwAll_same e _ _ h2)
  | _, _, .tup h1 h2 => .tup (same_seqT e h1) (dwAll_same e _ _ h2)
theorem dwAll_same {K : PySem.W.Frag} {H H' : Hp} (e : Same H H') : ∀ (vs : List V) (ds : List WData), DwAll K H vs ds → DwAll K H' vs ds
  | _, _, .nil => .nil
  | _, _, .cons h1 h2 => .cons (dw_same e _ _ h1) (dwAll_same e _ _ h2)
end
/-- nothing is tracked but what is known to the object, and the tables -/
def OnlyT (cs : List (Addr × Addr)) (H : Hp) : Prop := ∀ b, H b = none ∨ b ∈ cs.map (·.2) ∨ ∃ o u, H b = some (.frz o u)
/-- an empty table's object -/
abbrev emptyTab : Obj := { cls := .none, data := .fields #[] }

/-- where the call begins: the written part, the names, the tables -/
structure Site (K : PySem.W.Frag) (mg mb : Str → Option Value) (cs : List (Addr × Addr)) (t : Shared) : Prop where
  part : K.In t.heap
  names : Heap.Ns t.heap mainGlobals mg
  own : Heap.Ns t.heap builtinsNs mb
  boot : ∀ x : Str, x ≠ "__name__" → mb x = bootBuiltins x
  free : Heap.NoLimit t.heap
  still : t.gens = #[]
  empty : ∀ c ∈ cs, Heap.get? t.heap c.2 = some emptyTab
  out : ∀ c ∈ cs, List.lookup c.2 K = none
  code : ∀ c ∈ cs, PySem.W.CodeHd t.heap c.1 c.2
  module_ : ∃ (m : Addr) (mo : Obj), mg "__builtins__" = some (.ref m) ∧ m ≠ builtinsNs ∧ Heap.get? t.heap m = some mo ∧ mo.cls = .type "module" ∧ mo.dict = some builtinsNs ∧ mo.data = .plain

/-- what is tracked at the call: the tables, and of the arguments what was -/
def tracked (K : PySem.W.Frag) (h : Heap) (A : List Addr) (cs : List (Addr × Addr)) : Hp := fun b => if (cs.map (·.2)).contains b = true then some (.tbl #[]) else argH K h A b
section
variable {K : PySem.W.Frag} {mg mb : Str → Option Value} {cs : List (Addr × Addr)} {t : Shared} {A : List Addr}
theorem Site.tabAt (S : Site K mg mb cs t) {b : Addr} (h : (cs.map (·.2)).contains b = true) : ∃ c ∈ cs, c.2 = b ∧ Heap.get? t.heap b = some emptyTab := by
  rw [List.contains_iff_mem] at h
  obtain ⟨c, hc, rfl⟩ := List.mem_map.mp h
  exact ⟨c, hc, rfl, S.empty c hc⟩
theorem tracked_tab {c : Addr × Addr} (hc : c ∈ cs) : tracked K t.heap A cs c.2 = some (.tbl #[]) :=
  if_pos (List.contains_iff_mem.mpr (List.mem_map.mpr ⟨c, hc, rfl⟩))
theorem tracked_rest {b : Addr} (h : ¬ (cs.map (·.2)).contains b = true) : tracked K t.heap A cs b = argH K t.heap A b := if_neg h
/-- an argument is no table -/
theorem arg_no_tab (S : Site K mg mb cs t) (ar : ∀ a ∈ A, ArgOb t.heap A a) {b : Addr} {u : HO} (e : argH K t.heap A b = some u) : ¬ (cs.map (·.2)).contains b = true := fun h => by
  obtain ⟨_, _, _, g⟩ := S.tabAt h
  have k := (argH_is ar e).2
  obtain ⟨us, _, _, k⟩ := k
  rcases k with ⟨k, _⟩ | ⟨k, _⟩ <;> (rw [g] at k; cases k)
theorem tracked_same (S : Site K mg mb cs t) (ar : ∀ a ∈ A, ArgOb t.heap A a) : Same (argH K t.heap A) (tracked K t.heap A cs) := fun b u e => (tracked_rest (arg_no_tab S ar e)).trans e
/-- what is tracked, and its object -/
theorem tracked_is (S : Site K mg mb cs t) (ar : ∀ a ∈ A, ArgOb t.heap A a) {b : Addr} {u : HO} (e : tracked K t.heap A cs b = some u) :
    K.lookup b = none ∧ ∃ o : Obj, Heap.get? t.heap b = some o ∧ ((b ∈ cs.map (·.2) ∧ o = emptyTab ∧ u = .tbl #[]) ∨ ((∃ us n, o.data = .seq us n) ∧ argH K t.heap A b = some u ∧ ∃ x y, u = .frz x y)) := by
  by_cases h : (cs.map (·.2)).contains b = true
  · have e' : some (HO.tbl #[]) = some u := (if_pos h).symm.trans e
    obtain ⟨c, hc, rfl, g⟩ := S.tabAt h
    exact ⟨S.out c hc, _, g, .inl ⟨List.contains_iff_mem.mp h, rfl, (Option.some.inj e').symm⟩⟩
  · rw [tracked_rest h] at e
    obtain ⟨k, us, _, _, g⟩ := argH_is ar e
    rcases g with ⟨g, q⟩ | ⟨g, q⟩
    · exact ⟨k, _, g, .inr ⟨⟨_, _, rfl⟩, e, _, _, q⟩⟩
    · exact ⟨k, _, g, .inr ⟨⟨_, _, rfl⟩, e, _, _, q⟩⟩
theorem tracked_only (S : Site K mg mb cs t) (ar : ∀ a ∈ A, ArgOb t.heap A a) : OnlyT cs (tracked K t.heap A cs) := fun b => by
  cases e : tracked K t.heap A cs b with
  | none => exact .inl rfl
  | some u =>
    obtain ⟨_, o, _, ⟨h, _⟩ | ⟨_, _, x, y, rfl⟩⟩ := tracked_is S ar e
    · exact .inr (.inl h)
    · exact .inr (.inr ⟨x, y, rfl⟩)
/-- an object of another kind is not tracked -/
theorem not_tracked (S : Site K mg mb cs t) (ar : ∀ a ∈ A, ArgOb t.heap A a) {b : Addr} {o : Obj} (g : Heap.get? t.heap b = some o) (no_seq : ∀ us n, o.data ≠ .seq us n) (no_tab : o.data ≠ .fields #[]) : tracked K t.heap A cs b = none := by
  cases e : tracked K t.heap A cs b with
  | none => rfl
  | some u =>
    obtain ⟨_, o', g', k⟩ := tracked_is S ar e
    rw [g] at g'
    cases g'
    rcases k with ⟨_, rfl, _⟩ | ⟨⟨us, n, k⟩, _⟩
    · exact absurd rfl no_tab
    · exact absurd k (no_seq us n)
theorem tracked_ok {P : Program} {w : World} (S : Site K mg mb cs t) (ar : ∀ a ∈ A, ArgOb t.heap A a) : HOk P w (tracked K t.heap A cs) t.heap := fun b u e => by
  obtain ⟨_, o, g, ⟨_, rfl, rfl⟩ | ⟨_, e', _⟩⟩ := tracked_is S ar e
  · exact g
  · have s := tracked_same S ar
    exact (argH_ok (P := P) (w := w) ar b u e').stay (fun _ _ _ h => h) (fun _ h => s _ _ h) fun _ _ h => s _ _ h
/-- the base: all that is not tracked -/
abbrev baseOf (K : PySem.W.Frag) (t : Shared) (A : List Addr) (cs : List (Addr × Addr)) : Heap := hidT t.heap (tracked K t.heap A cs)
theorem base_names {a : Addr} {m : Str → Option Value} (S : Site K mg mb cs t) (ar : ∀ a ∈ A, ArgOb t.heap A a) (h : Heap.Ns t.heap a m) : Heap.Ns (baseOf K t A cs) a m := by
  obtain ⟨o, entries, top_, g, d, r⟩ := h
  refine ⟨o, entries, top_, hidT_get g (not_tracked S ar g (fun us n z => ?_) fun z => ?_), d, r⟩ <;> (rw [d] at z; cases z)
theorem base_part (S : Site K mg mb cs t) (ar : ∀ a ∈ A, ArgOb t.heap A a) : K.In (baseOf K t A cs) := fun b o k => hidT_get (S.part b o k) (by
  cases e : tracked K t.heap A cs b with
  | none => rfl
  | some u =>
    have n := (tracked_is S ar e).1
    rw [n] at k
    cases k)
theorem base_mod (S : Site K mg mb cs t) (ar : ∀ a ∈ A, ArgOb t.heap A a) : L2.Mod K mg (baseOf K t A cs) := by
  obtain ⟨m, h1, h2⟩ := S.free
  exact ⟨base_part S ar, base_names S ar S.names, ⟨mb, base_names S ar S.own, S.boot⟩, m, base_names S ar h1, h2⟩
theorem base_env {P : Program} {w : World} (S : Site K mg mb cs t) (ar : ∀ a ∈ A, ArgOb t.heap A a) : Env0 P w K mg (baseOf K t A cs) callerA [] t (tracked K t.heap A cs) where
  frames := rfl
  mod := base_mod S ar
  bs := fun _ _ g => of_hidT g
  bsz := Nat.le_of_eq (hidT_size t.heap (tracked K t.heap A cs))
  funs := trivial
  frf := fun b h => by simp [frs] at h
  hok := tracked_ok S ar
  bare := .of_eq S.still
theorem base_tabs (S : Site K mg mb cs t) (ar : ∀ a ∈ A, ArgOb t.heap A a) : ∀ c ∈ cs, TabB (baseOf K t A cs) mg c.1 c.2 := fun c hc => by
  have g := S.empty c hc
  constructor
  · obtain ⟨o, us, x1, x2, x3, x4, x5, x6, x7, h, k1, k2, k3, more⟩ := S.code c hc
    have n := not_tracked S ar h (fun vs n z => by rw [k2] at z; cases z) (fun z => by rw [k2] at z; cases z; simp at k3)
    exact ⟨o, us, x1, x2, x3, x4, x5, x6, x7, hidT_get h n, k1, k2, k3, more⟩
  · obtain ⟨m, mo, h1, h2, h3, h4, h5, h6⟩ := S.module_
    have n := not_tracked S ar h3 (fun vs n z => by rw [h6] at z; cases z) (fun z => by rw [h6] at z; cases z)
    refine ⟨m, mo, h1, h2, fun z => ?_, fun z => ?_, hidT_get h3 n, h4, h5, h6⟩
    · obtain ⟨o, entries, _, g2, d, _⟩ := S.names
      rw [← z, h3] at g2
      cases g2
      rw [h6] at d
      cases d
    · rw [z, g] at h3
      cases h3
      cases h6
  · intro z
    obtain ⟨o, entries, _, g2, d, _⟩ := S.names
    rw [z, g] at g2
    cases g2
    cases d
/-- behind the call: what stood stands, the tables may have grown -/
theorem behind {P : Program} {w : World} {H' : Hp} {s' : Shared} (S : Site K mg mb cs t) (ar : ∀ a ∈ A, ArgOb t.heap A a) (un : Un (frs []) [] (tracked K t.heap A cs) H' t.heap s'.heap) (ok : HOk P w H' s'.heap) :
    K.In s'.heap ∧ OldK t.heap s'.heap := by
  have stays : ∀ b o, b ∉ cs.map (·.2) → Heap.get? t.heap b = some o → Heap.get? s'.heap b = some o := fun b o n g => by
    cases e : tracked K t.heap A cs b with
    | none => exact un.keep b o g e (by simp [frs]) (by simp)
    | some u =>
      obtain ⟨_, _, _, ⟨h, _⟩ | ⟨_, _, x, y, rfl⟩⟩ := tracked_is S ar e
      · exact absurd h n
      · have g1 := (tracked_ok (P := P) (w := w) S ar b _ e).1
        have g2 := (ok b _ (un.frzs b x y e)).1
        rw [g] at g1
        rw [g2, ← Option.some.inj g1]
  have grows : ∀ c ∈ cs, ∃ more : Array Value, Heap.get? s'.heap c.2 = some { cls := .none, data := .fields more } := fun c hc => by
    obtain ⟨more, e⟩ := un.tbls c.2 #[] (tracked_tab hc)
    exact ⟨#[] ++ more, ok c.2 _ e⟩
  refine ⟨fun b o k => stays b o (fun h => ?_) (S.part b o k), fun b o g => ?_, fun b o g => ?_⟩
  · obtain ⟨c, hc, rfl⟩ := List.mem_map.mp h
    rw [S.out c hc] at k
    cases k
  · by_cases h : b ∈ cs.map (·.2)
    · obtain ⟨c, hc, rfl⟩ := List.mem_map.mp h
      obtain ⟨more, k⟩ := grows c hc
      have e := S.empty c hc
      rw [e] at g
      cases g
      exact .inr (.inl ⟨((S.code c hc).tab e).isCodeTable, rfl, #[], more, rfl, by rw [k, Array.empty_append]⟩)
    · exact .inl (stays b o h g)
  · by_cases h : b ∈ cs.map (·.2)
    · obtain ⟨c, hc, rfl⟩ := List.mem_map.mp h
      obtain ⟨more, k⟩ := grows c hc
      exact ⟨_, k⟩
    · exact ⟨o, stays b o h g⟩
end

/-- the goal of the row, from the promise of its def: the promise may ask for the tables of the defs that make lambdas -/
theorem walk_specT {r : OpenSpec} {q : Program} {loose : List Str} {d : DefRec} {XP : (Str → Option Value) → Heap → Prop} {YP : World → Heap → Prop} {K : Params → PySem.W.Frag} {CX : CXT} {ps : List Str} {k : Nat}
    (said : r.wellSaid = true) (plain : d.params.defaults = []) (arity : r.args.length = ps.length) (room : Room k callerA) (part : ∀ (w : World) (h : Heap), YP w h → (K w.params).In h)
    (F : ∀ (w : World) (mg : Str → Option Value) (fa : Addr) (h : Heap), YP w h → (K w.params).In h → Heap.Ns h mainGlobals mg → mg d.name = some (.ref fa) →
      (∀ (x : Str) (e : DefRec) (c P : Addr), (recsOf q).find? (fun e => e.name == x) = some e → PySem.W.tabIn (K w.params) x = some (c, P) → PySem.W.CodeHd h c P ∧ h.get? P = some emptyTab) →
      ∃ (fd : FuncData) (cs : List (Addr × Addr)) (sp : Sp), (∀ (s : Shared) (us : List Value), us.length = ps.length → BindsTo s fd ⟨us, []⟩ (ps.zip us)) ∧ (∀ p ∈ cs, PySem.W.CodeHd h p.1 p.2 ∧ h.get? p.2 = some emptyTab) ∧ (∀ p ∈ cs, (K w.params).lookup p.2 = none) ∧
        (∀ (H : Hp) (xs : List V) (a : Codec.denoteAll r.args), OnlyT cs H → (∀ p ∈ cs, H p.2 = some (.tbl #[])) → Codec.withinAll r.args a = true → Codec.app r.args r.asked a = true → DwAll (K w.params) H xs (Codec.encAll r.args a) →
          sp xs H (fun v H' => Dw (K w.params) H' v (r.ret.enc (Codec.app r.args r.f a))) fun _ _ _ => False) ∧
        ∀ base : Heap, (K w.params).In base → base.Ns mainGlobals mg → (∀ p ∈ cs, TabB base mg p.1 p.2) → FnOk r.prog w (K w.params) mg base CX k fa fd ps sp)
    (calm : ∀ (H : Hp) (s : Shared) (e : Value) (s' : Shared), CX [] H s (fun _ _ _ => False) e s' → False) :
    PySem.W.WalkOS q loose XP YP r d [] fun f vs => PySem.call f vs := by
  intro w s0 t mg mb G Y fa o pm cd doc dV kV _ _ _ _ named hg args vals as0 pre lay _ wl _
  obtain ⟨a, dec, asked_⟩ := PySem.W.os_pre_some pre
  obtain ⟨enc, within_⟩ := Codec.encAll_of_decAll r.args args a dec
  subst enc
  obtain ⟨fd, cs, sp, binds, tabs, out, sat, ok⟩ := F w mg fa _ Y (part w _ Y) G.T.g named fun x e c P h1 h2 => PySem.W.tab_of G.T (part w _ Y) h1 h2
  have S : Site (K w.params) mg mb cs t := ⟨part w _ Y, G.T.g, G.T.b, G.T.builtins, G.T.nolimit, hg, fun c hc => (tabs c hc).2, out, fun c hc => (tabs c hc).1, G.T.bmain⟩
  obtain ⟨A, okU, ar⟩ := area_all (Codec.encAll r.args a) vals wl (pl_encAll _ _) (layable_weight lay)
  have dw := dwAll_same (tracked_same S ar) _ _ (dw_all (part w _ Y) ar _ vals wl (pl_encAll _ _) okU)
  have many : vals.length = ps.length := (wellAll_len wl).trans ((encAll_len r.args a).trans arity)
  have runs := (ok _ (base_part S ar) (base_names S ar S.names) (base_tabs S ar)).run callerA [] t _ ⟨vals, []⟩ vals (vals.map toV) _ _ room (base_env S ar) (binds t vals many) (vals_toV okU) (sat _ _ a (tracked_only S ar) (fun c hc => tracked_tab hc) within_ asked_ dw)
  refine PySem.W.enter_call (codeAny_mono runs fun res s' z => ?_)
  match res, z with
  | .error e, z => exact (calm _ t e s' z).elim
  | .ok .next, z => exact False.elim z
  | .ok .brk, z => exact False.elim z
  | .ok .cont, z => exact False.elim z
  | .ok (.ret u), ⟨v, H', os, bare, un, hok, rel, due⟩ =>
    obtain ⟨kin, old⟩ := behind S ar un hok
    obtain ⟨as1, reads⟩ := Dw.reads (R := []) (cl := classAt s0.heap) hok kin _ v u due rel
    exact ⟨.inl ⟨u, _, as1, rfl, fun _ => rfl, reads, (OpenSpec.post_iff said within_ _ _).mpr rfl, fun z => by cases z⟩, old, os, bare⟩
end MinK
end
section
set_option Elab.async false
set_option maxRecDepth 100000
set_option maxHeartbeats 4000000
namespace Dv
open PySem PySem.Spec PyProof.Rows L2
open Kp351 (setOf)

/-! ### small words -/
theorem band (n m : Nat) : Builtin.bitAnd (n : Int) (m : Int) = ((n &&& m : Nat) : Int) := rfl
def nV (l : List Nat) : List V := l.map fun (i : Nat) => V.int (i : Int)
theorem nV_len (l : List Nat) : (nV l).length = l.length := List.length_map _
theorem nV_at {l : List Nat} {i : Nat} {y : V} (h : (nV l)[i]? = some y) : ∃ x, l[i]? = some x ∧ y = V.int (x : Int) := by
  unfold nV at h
  rw [List.getElem?_map] at h
  cases e : l[i]? with
  | none => rw [e] at h; cases h
  | some x => rw [e] at h; exact ⟨x, rfl, (Option.some.inj h).symm⟩
theorem take_snoc {α : Type} {l : List α} {i : Nat} {x : α} (h : l[i]? = some x) : l.take (i + 1) = l.take i ++ [x] := by
  rw [List.take_add_one, h]; rfl
theorem take_all {α : Type} (l : List α) : l.take l.length = l := List.take_length
theorem setOf_lt {k n i : Nat} (h : i ∈ setOf k n) : i < k ∧ n.testBit i = true := by
  unfold setOf at h
  obtain ⟨h1, h2⟩ := List.mem_filter.mp h
  exact ⟨List.mem_range.mp h1, h2⟩
theorem setOf_succ (k n : Nat) : setOf (k + 1) n = setOf k n ++ (if n.testBit k = true then [k] else []) := by
  unfold setOf
  rw [List.range_succ, List.filter_append]
  congr 1
  by_cases c : n.testBit k = true
  · rw [if_pos c]; simp [c]
  · rw [if_neg c]; simp [c]
theorem setOf_len (k n : Nat) : (setOf k n).length ≤ k := by
  have := List.length_filter_le (fun i => n.testBit i) (List.range k)
  rw [List.length_range] at this
  exact this
/-- further places hold nothing -/
theorem setOf_more {n k : Nat} (h : n < 2 ^ k) : ∀ d, setOf (k + d) n = setOf k n
  | 0 => rfl
  | d + 1 => by
    rw [show k + (d + 1) = k + d + 1 by omega, setOf_succ, setOf_more h d, if_neg, List.append_nil]
    rw [Nat.testBit_lt_two_pow (Nat.lt_of_lt_of_le h (Nat.pow_le_pow_right (by omega) (by omega)))]
    exact Bool.false_ne_true
/-- the members of a set that is told as a number -/
def mem (n : Nat) : List Nat := setOf 32 n
theorem mem_eq {n k : Nat} (hk : k ≤ 32) (h : n < 2 ^ k) : mem n = setOf k n := by
  have := setOf_more h (32 - k)
  rw [show k + (32 - k) = 32 by omega] at this
  exact this
theorem shr_pos (n i : Nat) : (0 < (n : Int) / 2 ^ (i : Int).toNat) ↔ 2 ^ i ≤ n := by
  rw [Int.toNat_natCast]
  have e : (n : Int) / 2 ^ i = ((n / 2 ^ i : Nat) : Int) := by
    rw [Int.natCast_ediv, Int.natCast_pow]; rfl
  rw [e]
  have p : 0 < 2 ^ i := Nat.pow_pos (by omega)
  constructor
  · intro h
    have h2 : 0 < n / 2 ^ i := by omega
    exact (Nat.div_pos_iff.mp h2).2
  · intro h
    have := Nat.div_pos h p
    omega
theorem shr_bit (n i : Nat) : (Builtin.bitAnd ((n : Int) / 2 ^ (i : Int).toNat) 1 = 1) ↔ n.testBit i = true := by
  rw [Int.toNat_natCast]
  have e : (n : Int) / 2 ^ i = ((n / 2 ^ i : Nat) : Int) := by
    rw [Int.natCast_ediv, Int.natCast_pow]; rfl
  rw [e]
  have : Builtin.bitAnd ((n / 2 ^ i : Nat) : Int) ((1 : Nat) : Int) = ((n / 2 ^ i &&& 1 : Nat) : Int) := band _ _
  have this : Builtin.bitAnd ((n / 2 ^ i : Nat) : Int) 1 = ((n / 2 ^ i &&& 1 : Nat) : Int) := this
  rw [this, Nat.and_one_is_mod, Nat.testBit_eq_decide_div_mod_eq, decide_eq_true_iff]
  omega

/-! ### promises: numbering -/
/-- a new list comes back, all else stands -/
def GivesNew (H : Hp) (Q : VK) (xs : List V) : Prop := ∀ (H' : Hp) (p : Addr), Same H H' → H p = none → H' p = some (.lst xs) → Q (.ref p) H'
def spMembers : Sp := fun vs H Q _ => ∃ n : Nat, vs = [.int n] ∧ n < 2 ^ 32 ∧ GivesNew H Q (nV (mem n))
def spParts : Sp := fun vs H Q _ => ∃ n : Nat, vs = [.int n] ∧ n < 16 ∧ GivesNew H Q (nV (Wh.parts n))
def spShown : Sp := fun vs H Q _ => ∃ x a : Nat, vs = [.int x, .int a] ∧ x < 16 ∧ a < 16 ∧ ∀ H', Same H H' → Q (.int (Kp351.rowOf x (setOf 4 a) : Nat)) H'

theorem same_new {H H' : Hp} {p : Addr} {o : HO} (s : Same H H') (hp : H' p = none) : Same H (upd H' p o) := fun b u e => by
  rw [upd_ne (ne_of_none (s b u e) hp)]; exact s b u e
theorem same_keep {H H' : Hp} {p : Addr} {o : HO} (s : Same H H') (hp : H p = none) : Same H (upd H' p o) := fun b u e => by
  rw [upd_ne (ne_of_none e hp)]; exact s b u e
theorem small {n : Nat} (h : n ≤ 100000) : n < sizeLine := Nat.lt_of_le_of_lt h (by decide)
theorem small' {n : Nat} (h : n ≤ 100000) : n ≤ sizeLine := Nat.le_of_lt (small h)

/-- a comprehension's new list at D, so far; all else stands -/
def PvN (H1 : Hp) (D : Addr) (out : Nat → List V) : Nat → Hp → Prop := fun i H => Same H1 H ∧ H D = some (.lst (out i))
theorem pvn_start {H1 : Hp} {D : Addr} {out : Nat → List V} (h : H1 D = none) (o : out 0 = []) : PvN H1 D out 0 (upd H1 D (.lst [])) :=
  ⟨same_new (Same.refl H1) h, by rw [upd_same, o]⟩
theorem pvn_next {H1 H H4 : Hp} {D : Addr} {out : Nat → List V} {i : Nat} {y : V} (h : H1 D = none) (p : PvN H1 D out i H) (s : Same H H4) (o : out (i + 1) = out i ++ [y]) (z : (out i).length < sizeLine) :
    ∃ acc, H4 D = some (.lst acc) ∧ acc.length < sizeLine ∧ PvN H1 D out (i + 1) (upd H4 D (.lst (acc ++ [y]))) :=
  ⟨out i, s _ _ p.2, z, same_keep (p.1.trans s) h, by rw [upd_same, o]⟩
theorem pvn_skip {H1 H H3 : Hp} {D : Addr} {out : Nat → List V} {i : Nat} (p : PvN H1 D out i H) (s : Same H H3) (o : out (i + 1) = out i) : PvN H1 D out (i + 1) H3 :=
  ⟨p.1.trans s, by rw [o]; exact s _ _ p.2⟩

theorem walk_nat {n : Nat} : Walk (Itr 0 n) n (fun _ => True) (fun i H x H' => H' = H ∧ x = .int (i : Int)) :=
  walk_range.mono (fun _ h => h) (fun i H x H' _ _ y => ⟨y.1, y.2.trans (by show V.int (0 + (i : Int)) = _; rw [Int.zero_add])⟩)

/-- what the top has written: Python's own names are free; the two classes; the constants -/
structure Txt (K : PySem.W.Frag) (mg : Str → Option Value) (CS CV : Addr) : Prop where
  len : mg "len" = none
  range : mg "range" = none
  sum : mg "sum" = none
  all : mg "all" = none
  any : mg "any" = none
  max : mg "max" = none
  min : mg "min" = none
  list : mg "list" = none
  enumerate : mg "enumerate" = none
  zip : mg "zip" = none
  clS : Cls K CS
  clV : Cls K CV
  sQ : NoAttr K CS "questions"
  sV : NoAttr K CS "views"
  vA : NoAttr K CV "asked"
  vT : NoAttr K CV "table"
  vR : NoAttr K CV "trust"
  g_NO_VIEW : ∃ t, mg "NO_VIEW" = some (.int (-2) t)
  g_NOT_BEGUN : ∃ t, mg "NOT_BEGUN" = some (.int (-11) t)
  g_TAKEN : ∃ t, mg "TAKEN" = some (.int (-17) t)
  g_WRONG : ∃ t, mg "WRONG" = some (.int (-22) t)
  g_FULL : ∃ t, mg "FULL" = some (.int (-28) t)
  g_MOST_VIEWS : ∃ t, mg "MOST_VIEWS" = some (.int (6) t)
  g_MOST_SEEN : ∃ t, mg "MOST_SEEN" = some (.int (100) t)
  g_MOST_TRUST : ∃ t, mg "MOST_TRUST" = some (.int (100) t)
  g_HIGHEST_KIND : ∃ t, mg "HIGHEST_KIND" = some (.int (2) t)

section
variable {P : Program} {w : World} {K : PySem.W.Frag} {mg : Str → Option Value} {base : Heap} {CS CV : Addr}
abbrev s_members : Stmt := top 1
theorem sc_members : FnScope ["number", "found", "place"] ["number"] (defScope s_members) := ⟨rfl, rfl, rfl, by decide +kernel, rfl, by decide +kernel, by decide +kernel⟩
theorem ok_members {f : Addr} {fd : FuncData} (F : Fun K "members" "members" s_members f fd) : FnOk P w K mg base CX0 1 f fd ["number"] spMembers := by
  refine F.ok sc_members (fun vs H Q E h => ?_) (fun cdv A outer s H vs Q E hr h => ?_)
  · obtain ⟨n, rfl, _⟩ := h; rfl
  obtain ⟨n, rfl, hn, k⟩ := h
  refine ⟨_, (pss_cons (ps_set (i := 1) sc_members.nd rfl (Or.inl rfl) (pe_lst pa_nil))
        (pss_cons (ps_set (i := 2) sc_members.nd rfl (Or.inl rfl) pe_int)
        (pss_cons (ps_while PassesOwn.never (pt_cmpR op_gt (pe_op op_shr (pv 0) (pv 2)) pe_int (nomark _)) (pss_cons (ps_if (pt_cmpR op_eq (pe_op op_and (pe_op op_shr (pv 0) (pv 2)) pe_int) pe_int (nomark _)) (pss_one (ps_expr (pe_bm PySem.F.plainAttrs_list PySem.F.slot_list_append PySem.F.type_list_append mt_append (pv 1) (pa_cons (pv 2) pa_nil)))) pss_nil)
          (pss_one (ps_aug (i := 2) sc_members.nd rfl (Or.inl rfl) pe_int ip_add))))
        (pss_one (ps_ret (pv 1)))))), ?_⟩
  refine ⟨Nat.zero_le _, fun p hp => ?_⟩
  refine ⟨fun m σ H' => ∃ i : Nat, m = 33 - i ∧ i ≤ 32 ∧ σ = [some (.int n), some (.ref p), some (.int i)] ∧ Same H H' ∧ H' p = some (.lst (nV (setOf i n))), ⟨33, 0, rfl, by omega, rfl, same_new (Same.refl H) hp, upd_same⟩, ?_⟩
  rintro m σ H' ⟨i, rfl, hi, rfl, s1, hl⟩
  refine ⟨_, rfl, _, rfl, _, _, rfl, rfl, by omega, _, _, rfl, rfl, _, rfl, ?_⟩
  refine ite2 (fun c => ?_) (fun c => ?_)
  · have c' : 2 ^ i ≤ n := (shr_pos n i).mp (of_decide_eq_true c)
    have i32 : i < 32 := by
      apply Classical.byContradiction
      intro q
      have : 2 ^ 32 ≤ 2 ^ i := Nat.pow_le_pow_right (by omega) (by omega)
      omega
    refine ⟨fun σ' H' => σ' = [some (.int n), some (.ref p), some (.int ((i + 1 : Nat) : Int))] ∧ Same H H' ∧ H' p = some (.lst (nV (setOf (i + 1) n))), fun σ' H'' h' => ⟨33 - (i + 1), by omega, i + 1, rfl, by omega, h'⟩, ?_⟩
    refine ⟨_, rfl, _, rfl, _, _, rfl, rfl, by omega, _, _, rfl, rfl, rfl, _, rfl, ?_⟩
    have e1 : ∀ (H1 : Hp), (V.int ((i : Int) + 1)) = V.int ((i + 1 : Nat) : Int) := fun _ => by rw [Int.natCast_add]; rfl
    refine ite2 (fun c2 => ?_) (fun c2 => ?_)
    · have b : n.testBit i = true := (shr_bit n i).mp (by have := of_decide_eq_true c2; exact V.int.inj this)
      refine ⟨_, rfl, .inl ⟨rfl, _, SqL.of hl⟩, _, rfl, p, _, _, rfl, rfl, hl, (by rw [nV_len]; exact small (Nat.le_trans (setOf_len i n) (by omega))), ?_⟩
      refine ⟨_, rfl, _, _, rfl, rfl, ?_⟩
      refine ⟨by rw [← e1 H']; rfl, same_keep s1 hp, ?_⟩
      rw [upd_same, setOf_succ, if_pos b]
      unfold nV; rw [List.map_append]; rfl
    · have b : ¬ n.testBit i = true := fun q => c2 (decide_eq_true (congrArg V.int ((shr_bit n i).mpr q)))
      refine ⟨_, rfl, _, _, rfl, rfl, ?_⟩
      refine ⟨by rw [← e1 H']; rfl, s1, ?_⟩
      rw [setOf_succ, if_neg b, List.append_nil]; exact hl
  · have c' : n < 2 ^ i := by
      have : ¬ 2 ^ i ≤ n := fun q => c (decide_eq_true ((shr_pos n i).mpr q))
      omega
    refine ⟨_, rfl, ?_⟩
    rw [mem_eq hi c'] at k
    exact k H' p s1 hp hl
/-- the sets within a set, up to i -/
def partsTo (n i : Nat) : List Nat := (List.range i).filter fun p => p &&& n == p
theorem partsTo_succ (n i : Nat) : partsTo n (i + 1) = partsTo n i ++ (if i &&& n = i then [i] else []) := by
  unfold partsTo
  rw [List.range_succ, List.filter_append]
  congr 1
  by_cases c : i &&& n = i
  · rw [if_pos c]; simp [c]
  · rw [if_neg c]; simp [c]
theorem partsTo_len (n i : Nat) : (partsTo n i).length ≤ i := by
  have := List.length_filter_le (fun p => p &&& n == p) (List.range i)
  rw [List.length_range] at this
  exact this
abbrev s_parts : Stmt := top 2
theorem sc_parts : FnScope ["number", "part"] ["number"] (defScope s_parts) := ⟨rfl, rfl, rfl, by decide +kernel, rfl, by decide +kernel, by decide +kernel⟩
theorem ok_parts {f : Addr} {fd : FuncData} (F : Fun K "parts" "parts" s_parts f fd) (T : Txt K mg CS CV) : FnOk P w K mg base CX0 1 f fd ["number"] spParts := by
  refine F.ok sc_parts (fun vs H Q E h => ?_) (fun cdv A outer s H vs Q E hr h => ?_)
  · obtain ⟨n, rfl, _⟩ := h; rfl
  obtain ⟨n, rfl, hn, k⟩ := h
  refine ⟨_, (pss_one (ps_ret (pe_lc (own := [("part", 1)]) (g := gName 1) rfl sc_parts.nd (pi_range1 rfl T.range (pa_cons (pe_op op_add (pv 0) pe_int) pa_nil)) (blkOk_by (N := ["number", "part"]) (sc := defScope s_parts) (by decide +kernel)) (fun _ _ _ _ _ => by exact pg_name (i := 1) sc_parts.nd rfl (Or.inl rfl)) (fun _ _ _ _ _ => by exact pts_one (pt_cmpR op_eq (pe_op op_and (pv 1) (pv 0)) (pv 1) (nomark _))) (fun _ _ _ _ _ => by exact (pv 1))))), ?_⟩
  refine ⟨_, rfl, _, _, rfl, rfl, _, rfl, by omega, by omega, fun D hD => ?_⟩
  have e0 : ((n : Int) + 1).toNat = n + 1 := by omega
  rw [e0]
  refine lc_it walk_nat (PvN H D fun i => nV (partsTo n i)) (pvn_start hD rfl) (fun _ _ _ _ => trivial) ?_ ?_
  · rintro i x H1 H2 hi p ⟨rfl, rfl⟩
    refine ⟨rfl, ?_⟩
    refine ⟨_, rfl, _, rfl, _, _, rfl, rfl, _, rfl, rfl, _, rfl, ?_⟩
    refine ite2 (fun c => ?_) (fun c => ?_)
    · have c' : i &&& n = i := by
        have := V.int.inj (of_decide_eq_true c)
        rw [band] at this; omega
      refine ⟨_, rfl, pvn_next hD p (Same.refl _) ?_ (by rw [nV_len]; exact small (Nat.le_trans (partsTo_len n i) (by omega)))⟩
      rw [partsTo_succ, if_pos c']
      unfold nV; rw [List.map_append]; rfl
    · have c' : ¬ i &&& n = i := fun q => c (decide_eq_true (congrArg V.int (by rw [band, q])))
      refine pvn_skip p (Same.refl _) ?_
      rw [partsTo_succ, if_neg c', List.append_nil]
  · rintro H1 p
    exact k H1 D p.1 hD p.2
theorem index_some {l : List Nat} {x : Nat} (h : x ∈ l) : ∃ z, (nV l)[l.idxOf x]? = some z ∧ eqV z (.int (x : Int)) = true ∧ ∀ (m : Nat) (z' : V), m < l.idxOf x → (nV l)[m]? = some z' → eqV z' (.int (x : Int)) = false := by
  have hl := List.idxOf_lt_length_of_mem h
  refine ⟨.int (x : Int), ?_, by show ((x : Int) == (x : Int)) = true; exact beq_self_eq_true _, fun m z' hm e => ?_⟩
  · unfold nV
    rw [List.getElem?_map, List.getElem?_eq_getElem hl, List.getElem_idxOf hl]; rfl
  · obtain ⟨y, hy, rfl⟩ := nV_at e
    show ((y : Int) == (x : Int)) = false
    have ne : y ≠ x := fun q => by
      have h2 := List.not_of_lt_findIdx (p := fun z => z == x) (xs := l) (i := m) hm
      obtain ⟨h3, h4⟩ := List.getElem?_eq_some_iff.mp hy
      rw [h4, q] at h2
      simp at h2
    simp; omega
theorem nV_flat (l : List Nat) : (nV l).all flatV = true := by
  unfold nV; rw [List.all_map]; exact List.all_eq_true.mpr (fun _ _ => rfl)
theorem parts_mem4 : ∀ a, a < 16 → ∀ x, x < 16 → x &&& a ∈ Wh.parts a := by decide +kernel
abbrev s_shown_row : Stmt := top 3
theorem sc_shown_row : FnScope ["world", "asked"] ["world", "asked"] (defScope s_shown_row) := ⟨rfl, rfl, rfl, by decide +kernel, rfl, by decide +kernel, by decide +kernel⟩
theorem ok_shown_row {f fp : Addr} {fd fdp : FuncData} (F : Fun K "shown_row" "shown_row" s_shown_row f fd) (c_parts : Cal P w K mg base "parts" 1 ["number"] spParts fp fdp) : FnOk P w K mg base CX0 2 f fd ["world", "asked"] spShown := by
  refine F.ok sc_shown_row (fun vs H Q E h => ?_) (fun cdv A outer s H vs Q E hr h => ?_)
  · obtain ⟨x, a, rfl, _⟩ := h; rfl
  obtain ⟨x, a, rfl, hx, ha, k⟩ := h
  refine ⟨_, (pss_one (ps_ret (pe_bm PySem.F.plainAttrs_list PySem.F.slot_list_index PySem.F.type_list_index mt_index (pe_call c_parts.ok (hr.mono (by decide)) rfl c_parts.mg c_parts.kp c_parts.b .nil pass0 (pa_cons (pv 1) pa_nil)) (pa_cons (pe_op op_and (pv 0) (pv 1)) pa_nil)))), ?_⟩
  refine ⟨_, rfl, a, rfl, ha, fun H1 p s1 hp hl => ?_⟩
  obtain ⟨z, h1, h2, h3⟩ := index_some (parts_mem4 a ha x hx)
  refine ⟨.inl ⟨rfl, _, SqL.of hl⟩, _, rfl, _, rfl, _, _, rfl, rfl, p, _, _, _, z, rfl, rfl, SqL.of hl, rfl, nV_flat _, h1, h2, h3, ?_⟩
  rw [(Wh.shown4 a ha x hx).1]
  exact k H1 s1
end
end Dv
end
section
set_option Elab.async false
set_option maxRecDepth 100000
set_option maxHeartbeats 4000000
namespace Dv
open PySem PySem.Spec PyProof.Rows L2
open Kp351 (setOf View numOf total)

/-! ### the heap: the views, the state -/
def vF (a : Nat) (t : Addr) (z : Nat) : List (Str × V) := [("asked", .int (a : Int)), ("table", .ref t), ("trust", .int (z : Int))]
def sF (n : Nat) (l : Addr) : List (Str × V) := [("questions", .int (n : Int)), ("views", .ref l)]
/-- the view v, trusted z, stands at p, its table at t -/
def VwAt (CV : Addr) (H : Hp) (p t : Addr) (v : View) (z : Nat) : Prop := (∃ dx, H p = some (.ins CV dx (vF (numOf v.qs) t z))) ∧ H t = some (.lst (nV v.table))
structure VsAt (CV : Addr) (H : Hp) (ps ts : List Addr) (vs : List View) (zs : List Nat) : Prop where
  pl : ps.length = vs.length
  tl : ts.length = vs.length
  zl : zs.length = vs.length
  pn : ps.Nodup
  tn : ts.Nodup
  at_ : ∀ (i : Nat) (v : View), vs[i]? = some v → ∃ p t z, ps[i]? = some p ∧ ts[i]? = some t ∧ zs[i]? = some z ∧ VwAt CV H p t v z
structure StF (CS CV : Addr) (H : Hp) (a : Addr) (n : Nat) (vs : List View) (zs : List Nat) (dx l : Addr) (ps ts : List Addr) : Prop where
  sa : H a = some (.ins CS dx (sF n l))
  sl : H l = some (.lst (ps.map V.ref))
  lt : l ∉ ts
  V : VsAt CV H ps ts vs zs
def foot (a l : Addr) (ps ts : List Addr) : List Addr := a :: l :: (ps ++ ts)
/-- the state at a, in the words of its footprint -/
def StA (CS CV : Addr) (H : Hp) (a : Addr) (n : Nat) (vs : List View) (zs : List Nat) (ft : List Addr) : Prop := ∃ dx l ps ts, StF CS CV H a n vs zs dx l ps ts ∧ ft = foot a l ps ts
/-- what lies outside of the footprint stands; the new one is of the old one and of new things -/
def Frame (ft ft' : List Addr) (H H' : Hp) : Prop := (∀ b o, H b = some o → b ∉ ft → H' b = some o) ∧ ∀ b ∈ ft', b ∈ ft ∨ H b = none

theorem VwAt.same {CV : Addr} {H H' : Hp} {p t : Addr} {v : View} {z : Nat} (h : VwAt CV H p t v z) (s : Same H H') : VwAt CV H' p t v z :=
  ⟨h.1.elim fun dx e => ⟨dx, s _ _ e⟩, s _ _ h.2⟩
theorem VsAt.same {CV : Addr} {H H' : Hp} {ps ts : List Addr} {vs : List View} {zs : List Nat} (h : VsAt CV H ps ts vs zs) (s : Same H H') : VsAt CV H' ps ts vs zs :=
  ⟨h.pl, h.tl, h.zl, h.pn, h.tn, fun i v e => by
    obtain ⟨p, t, z, h1, h2, h3, h4⟩ := h.at_ i v e
    exact ⟨p, t, z, h1, h2, h3, h4.same s⟩⟩
theorem StF.same {CS CV : Addr} {H H' : Hp} {a : Addr} {n : Nat} {vs : List View} {zs : List Nat} {dx l : Addr} {ps ts : List Addr} (h : StF CS CV H a n vs zs dx l ps ts) (s : Same H H') : StF CS CV H' a n vs zs dx l ps ts :=
  ⟨s _ _ h.sa, s _ _ h.sl, h.lt, h.V.same s⟩
theorem VsAt.byP {CV : Addr} {H : Hp} {ps ts : List Addr} {vs : List View} {zs : List Nat} (h : VsAt CV H ps ts vs zs) {i : Nat} {p : Addr} (e : ps[i]? = some p) : ∃ v t z, vs[i]? = some v ∧ ts[i]? = some t ∧ zs[i]? = some z ∧ VwAt CV H p t v z := by
  have hi : i < vs.length := by rw [← h.pl]; exact (List.getElem?_eq_some_iff.mp e).1
  obtain ⟨p', t, z, h1, h2, h3, h4⟩ := h.at_ i vs[i] (List.getElem?_eq_getElem hi)
  rw [e] at h1
  cases h1
  exact ⟨vs[i], t, z, List.getElem?_eq_getElem hi, h2, h3, h4⟩
theorem VsAt.tracked {CV : Addr} {H : Hp} {ps ts : List Addr} {vs : List View} {zs : List Nat} (h : VsAt CV H ps ts vs zs) {b : Addr} (hb : b ∈ ps ++ ts) : ∃ o, H b = some o := by
  rcases List.mem_append.mp hb with q | q
  · obtain ⟨i, hi, e⟩ := List.getElem_of_mem q
    obtain ⟨v, t, z, _, _, _, ⟨dx, h4⟩, _⟩ := h.byP (i := i) (p := b) (by rw [List.getElem?_eq_getElem hi, e])
    exact ⟨_, h4⟩
  · obtain ⟨i, hi, e⟩ := List.getElem_of_mem q
    have hi' : i < vs.length := by rw [← h.tl]; exact hi
    obtain ⟨p', t, z, h1, h2, h3, h4⟩ := h.at_ i vs[i] (List.getElem?_eq_getElem hi')
    rw [List.getElem?_eq_getElem hi, e] at h2
    cases h2
    exact ⟨_, h4.2⟩
theorem StF.tracked {CS CV : Addr} {H : Hp} {a : Addr} {n : Nat} {vs : List View} {zs : List Nat} {dx l : Addr} {ps ts : List Addr} (h : StF CS CV H a n vs zs dx l ps ts) {b : Addr} (hb : b ∈ foot a l ps ts) : ∃ o, H b = some o := by
  rcases List.mem_cons.mp hb with q | q
  · exact ⟨_, q ▸ h.sa⟩
  · rcases List.mem_cons.mp q with q | q
    · exact ⟨_, q ▸ h.sl⟩
    · exact h.V.tracked q
theorem StA.tracked {CS CV : Addr} {H : Hp} {a : Addr} {n : Nat} {vs : List View} {zs : List Nat} {ft : List Addr} (h : StA CS CV H a n vs zs ft) {b : Addr} (hb : b ∈ ft) : ∃ o, H b = some o := by
  obtain ⟨dx, l, ps, ts, h1, rfl⟩ := h
  exact h1.tracked hb
theorem StA.same {CS CV : Addr} {H H' : Hp} {a : Addr} {n : Nat} {vs : List View} {zs : List Nat} {ft : List Addr} (h : StA CS CV H a n vs zs ft) (s : Same H H') : StA CS CV H' a n vs zs ft := by
  obtain ⟨dx, l, ps, ts, h1, e⟩ := h
  exact ⟨dx, l, ps, ts, h1.same s, e⟩
theorem Frame.same {ft : List Addr} {H H' : Hp} (s : Same H H') : Frame ft ft H H' := ⟨fun b o e _ => s b o e, fun _ h => Or.inl h⟩
theorem Frame.after {ft ft' : List Addr} {H H1 H' : Hp} (f : Frame ft ft' H H1) (s : Same H1 H') : Frame ft ft' H H' := ⟨fun b o e n => s b o (f.1 b o e n), f.2⟩

/-- what the state's footprint needs of a heap -/
theorem StF.move {CS CV : Addr} {H H' : Hp} {a : Addr} {n : Nat} {vs : List View} {zs : List Nat} {dx l : Addr} {ps ts : List Addr} (h : StF CS CV H a n vs zs dx l ps ts) (s : ∀ b o, H b = some o → b ∈ foot a l ps ts → H' b = some o) : StF CS CV H' a n vs zs dx l ps ts :=
  ⟨s _ _ h.sa List.mem_cons_self, s _ _ h.sl (List.mem_cons_of_mem _ List.mem_cons_self), h.lt, h.V.pl, h.V.tl, h.V.zl, h.V.pn, h.V.tn, fun i v e => by
    obtain ⟨p, t, z, h1, h2, h3, ⟨dv, h4⟩, h5⟩ := h.V.at_ i v e
    exact ⟨p, t, z, h1, h2, h3, ⟨dv, s _ _ h4 (List.mem_cons_of_mem _ (List.mem_cons_of_mem _ (List.mem_append_left _ (List.mem_of_getElem? h1))))⟩, s _ _ h5 (List.mem_cons_of_mem _ (List.mem_cons_of_mem _ (List.mem_append_right _ (List.mem_of_getElem? h2))))⟩⟩
/-- a view more behind the others -/
theorem VsAt.snoc {CV : Addr} {H : Hp} {ps ts : List Addr} {vs : List View} {zs : List Nat} (h : VsAt CV H ps ts vs zs) {p t : Addr} {v : View} {z : Nat} (hp : p ∉ ps) (ht : t ∉ ts) (e : VwAt CV H p t v z) : VsAt CV H (ps ++ [p]) (ts ++ [t]) (vs ++ [v]) (zs ++ [z]) := by
  refine ⟨by simp [h.pl], by simp [h.tl], by simp [h.zl], List.nodup_append.mpr ⟨h.pn, by simp, fun a ha b hb => ?_⟩, List.nodup_append.mpr ⟨h.tn, by simp, fun a ha b hb => ?_⟩, fun i u hu => ?_⟩
  · rw [List.mem_singleton.mp hb]; exact fun q => hp (q ▸ ha)
  · rw [List.mem_singleton.mp hb]; exact fun q => ht (q ▸ ha)
  · by_cases c : i < vs.length
    · rw [List.getElem?_append_left c] at hu
      obtain ⟨p', t', z', h1, h2, h3, h4⟩ := h.at_ i u hu
      refine ⟨p', t', z', ?_, ?_, ?_, h4⟩
      · rw [List.getElem?_append_left (by rw [h.pl]; exact c)]; exact h1
      · rw [List.getElem?_append_left (by rw [h.tl]; exact c)]; exact h2
      · rw [List.getElem?_append_left (by rw [h.zl]; exact c)]; exact h3
    · have hi : i < (vs ++ [v]).length := (List.getElem?_eq_some_iff.mp hu).1
      have ei : i = vs.length := by rw [List.length_append] at hi; simp at hi; omega
      subst ei
      rw [List.getElem?_append_right (Nat.le_refl _)] at hu
      simp at hu
      subst hu
      refine ⟨p, t, z, ?_, ?_, ?_, e⟩
      · rw [← h.pl, List.getElem?_append_right (Nat.le_refl _)]; simp
      · rw [← h.tl, List.getElem?_append_right (Nat.le_refl _)]; simp
      · rw [← h.zl, List.getElem?_append_right (Nat.le_refl _)]; simp

/-! ### what a call makes of the state, and what it answers -/
structure R where
  n : Nat
  vs : List View
  zs : List Nat
  ans : List Int
def aV (l : List Int) : List V := l.map V.int
/-- the state is changed so, a new list answers -/
def Makes (CS CV : Addr) (H : Hp) (a : Addr) (ft : List Addr) (r : R) (Q : VK) : Prop := ∀ (H' : Hp) (p : Addr) (ft' : List Addr), StA CS CV H' a r.n r.vs r.zs ft' → Frame ft ft' H H' → H p = none → p ∉ ft' → H' p = some (.lst (aV r.ans)) → Q (.ref p) H'
theorem Makes.asked {CS CV : Addr} {H : Hp} {a : Addr} {ft : List Addr} {n : Nat} {vs : List View} {zs : List Nat} {ans : List Int} {Q : VK} (h : StA CS CV H a n vs zs ft) (m : Makes CS CV H a ft ⟨n, vs, zs, ans⟩ Q) {H1 : Hp} (s : Same H H1) {p : Addr} (hp : H1 p = none) {xs : List V} (e : xs = aV ans) : Q (.ref p) (upd H1 p (.lst xs)) := by
  subst e
  refine m _ p ft (h.same (same_new s hp)) (Frame.same (same_new s hp)) (s.free hp) (fun q => ?_) upd_same
  obtain ⟨o, ho⟩ := h.tracked q
  rw [s.free hp] at ho
  cases ho

/-! ### classes -/
def spViewInit (CV : Addr) : Sp := fun vs H Q _ => ∃ (p dx : Addr) (a : Nat), vs = [.ref p, .int a] ∧ a < 16 ∧ H p = some (.ins CV dx []) ∧
  ∀ (H' : Hp) (t : Addr), H t = none → H' p = some (.ins CV dx (vF a t 1)) → H' t = some (.lst (nV (List.replicate (Wh.parts a).length 1))) → (∀ b o, H b = some o → b ≠ p → H' b = some o) → Q .non H'
def spStateInit (CS : Addr) : Sp := fun vs H Q _ => ∃ (p dx : Addr), vs = [.ref p] ∧ H p = some (.ins CS dx []) ∧
  ∀ (H' : Hp) (l : Addr), H l = none → H' p = some (.ins CS dx (sF 0 l)) → H' l = some (.lst []) → (∀ b o, H b = some o → b ≠ p → H' b = some o) → Q .non H'

section
variable {P : Program} {w : World} {K : PySem.W.Frag} {mg : Str → Option Value} {base : Heap} {CS CV : Addr}
abbrev s_View_init : Stmt := inClass (top 10) 0
theorem sc_View_init : FnScope ["self", "asked", "part"] ["self", "asked"] (defScope s_View_init) := ⟨rfl, rfl, rfl, by decide +kernel, rfl, by decide +kernel, by decide +kernel⟩
theorem ok_View_init {f fp : Addr} {fd fdp : FuncData} (F : Fun K "__init__" "View.__init__" s_View_init f fd) (T : Txt K mg CS CV) (c_parts : Cal P w K mg base "parts" 1 ["number"] spParts fp fdp) : FnOk P w K mg base CX0 2 f fd ["self", "asked"] (spViewInit CV) := by
  refine F.ok sc_View_init (fun vs H Q E h => ?_) (fun cdv A outer s H vs Q E hr h => ?_)
  · obtain ⟨p, dx, a, rfl, _⟩ := h; rfl
  obtain ⟨p, dx, a, rfl, ha, hp, k⟩ := h
  refine ⟨_, (pss_cons (ps_fld (pv 0) (pv 1) rfl)
        (pss_cons (ps_fld (pv 0) (pe_lc (own := [("part", 2)]) (g := gName 2) (tt := tYes) rfl sc_View_init.nd (pi_list (pe_call c_parts.ok (hr.mono (by decide)) rfl c_parts.mg c_parts.kp c_parts.b .nil pass0 (pa_cons (pv 1) pa_nil))) (blkOk_by (N := ["self", "asked", "part"]) (sc := defScope s_View_init) (by decide +kernel)) (fun _ _ _ _ _ => by exact pg_name (i := 2) sc_View_init.nd rfl (Or.inl rfl)) (fun _ _ _ _ _ => pts_nil) (fun _ _ _ _ _ => by exact pe_int)) rfl)
        (pss_one (ps_fld (pv 0) pe_int rfl)))), ?_⟩
  refine ⟨_, rfl, _, rfl, p, CV, dx, [], rfl, hp, T.clV, T.vA, (by show 0 < 1000; decide), ?_⟩
  refine ⟨_, rfl, a, rfl, ha, fun H1 q s1 hq hl => ?_⟩
  refine ⟨q, rfl, ⟨_, SqL.of hl⟩, fun D hD => ?_⟩
  refine lc_it walk_list (PvN H1 D fun i => nV (List.replicate i 1)) (pvn_start hD rfl) (fun i H2 _ pv => SqL.of (pv.1 _ _ hl)) ?_ ?_
  · rintro i x H2 H3 hi pv ⟨rfl, hx⟩
    refine ⟨rfl, ?_⟩
    rw [nV_len] at hi
    have l16 : (Wh.parts a).length ≤ 17 := by
      have := partsTo_len a (a + 1)
      unfold partsTo at this
      unfold Wh.parts; omega
    refine pvn_next hD pv (Same.refl _) ?_ (by rw [nV_len, List.length_replicate]; exact small (by omega))
    rw [List.replicate_succ']
    unfold nV; rw [List.map_append]; rfl
  · rintro H2 pv
    rw [nV_len] at pv
    have hp1 : H2 p = some (.ins CV dx [("asked", .int a)]) := pv.1 _ _ (s1 _ _ upd_same)
    have npD : D ≠ p := fun e => by
      rw [e, s1 _ _ upd_same] at hD
      cases hD
    refine ⟨_, rfl, p, CV, dx, _, rfl, hp1, T.clV, T.vT, (by show 1 < 1000; decide), ?_⟩
    refine ⟨_, rfl, p, CV, dx, _, rfl, upd_same, T.clV, T.vR, (by show 2 < 1000; decide), ?_⟩
    have hDn : H D = none := by
      cases e : H D with
      | none => rfl
      | some o =>
        have := s1 _ _ ((upd_ne npD).trans e)
        rw [hD] at this
        cases this
    refine k _ D hDn upd_same ?_ (fun b o e hb => ?_)
    · rw [upd_ne npD, upd_ne npD]; exact pv.2
    · rw [upd_ne hb, upd_ne hb]
      exact pv.1 _ _ (s1 _ _ ((upd_ne hb).trans e))
abbrev s_State_init : Stmt := inClass (top 11) 0
theorem sc_State_init : FnScope ["self"] ["self"] (defScope s_State_init) := ⟨rfl, rfl, rfl, by decide +kernel, rfl, by decide +kernel, by decide +kernel⟩
theorem ok_State_init {f : Addr} {fd : FuncData} (F : Fun K "__init__" "State.__init__" s_State_init f fd) (T : Txt K mg CS CV) : FnOk P w K mg base CX0 1 f fd ["self"] (spStateInit CS) := by
  refine F.ok sc_State_init (fun vs H Q E h => ?_) (fun cdv A outer s H vs Q E hr h => ?_)
  · obtain ⟨p, dx, rfl, _⟩ := h; rfl
  obtain ⟨p, dx, rfl, hp, k⟩ := h
  refine ⟨_, (pss_cons (ps_fld (pv 0) pe_int rfl)
        (pss_one (ps_fld (pv 0) (pe_lst pa_nil) rfl))), ?_⟩
  refine ⟨_, rfl, p, CS, dx, [], rfl, hp, T.clS, T.sQ, (by show 0 < 1000; decide), ?_⟩
  refine ⟨Nat.zero_le _, fun l hl => ?_⟩
  have nl : l ≠ p := fun e => by rw [e, upd_same] at hl; cases hl
  refine ⟨_, rfl, p, CS, dx, _, rfl, (upd_ne nl.symm).trans upd_same, T.clS, T.sV, (by show 1 < 1000; decide), ?_⟩
  have hl' : H l = none := by rw [upd_ne nl] at hl; exact hl
  refine k _ l hl' upd_same ((upd_ne nl).trans upd_same) (fun b o e hb => ?_)
  have nb : b ≠ l := fun q => by rw [q, hl'] at e; cases e
  rw [upd_ne hb, upd_ne nb, upd_ne hb]; exact e
end
end Dv
end
section
set_option Elab.async false
set_option maxRecDepth 100000
set_option maxHeartbeats 4000000
namespace Dv
open PySem PySem.Spec PyProof.Rows L2
open Kp351 (setOf View numOf total)

/-- views that are read: no word of who's who -/
structure RdV (CV : Addr) (H : Hp) (qs : List Addr) (vs : List (View × Nat)) : Prop where
  len : qs.length = vs.length
  at_ : ∀ (i : Nat) (v : View × Nat), vs[i]? = some v → ∃ q t, qs[i]? = some q ∧ VwAt CV H q t v.1 v.2
theorem RdV.same {CV : Addr} {H H' : Hp} {qs : List Addr} {vs : List (View × Nat)} (h : RdV CV H qs vs) (s : Same H H') : RdV CV H' qs vs :=
  ⟨h.len, fun i v e => by
    obtain ⟨q, t, h1, h2⟩ := h.at_ i v e
    exact ⟨q, t, h1, h2.same s⟩⟩
theorem RdV.byQ {CV : Addr} {H : Hp} {qs : List Addr} {vs : List (View × Nat)} (h : RdV CV H qs vs) {i : Nat} {q : Addr} (e : qs[i]? = some q) : ∃ v t, vs[i]? = some v ∧ VwAt CV H q t v.1 v.2 := by
  have hi : i < vs.length := by rw [← h.len]; exact (List.getElem?_eq_some_iff.mp e).1
  obtain ⟨q', t, h1, h2⟩ := h.at_ i vs[i] (List.getElem?_eq_getElem hi)
  rw [e] at h1
  cases h1
  exact ⟨vs[i], t, List.getElem?_eq_getElem hi, h2⟩
/-- the views of a set, with their trust -/
def chosenOf (vs : List View) (zs : List Nat) (s : Nat) : List (View × Nat) := (mem s).map fun i => (vs.getD i ⟨[], []⟩, zs.getD i 0)
def spChosen (CS CV : Addr) : Sp := fun us H Q _ => ∃ (a : Addr) (n : Nat) (vs : List View) (zs : List Nat) (ft : List Addr) (s : Nat), us = [.ref a, .int s] ∧ StA CS CV H a n vs zs ft ∧ s < 2 ^ 32 ∧ (∀ i ∈ mem s, i < vs.length) ∧
  ∀ (H' : Hp) (p : Addr) (qs : List Addr), Same H H' → H p = none → H' p = some (.lst (qs.map V.ref)) → RdV CV H' qs (chosenOf vs zs s) → Q (.ref p) H'
theorem refs_at {l : List Addr} {i : Nat} {y : V} (h : (l.map V.ref)[i]? = some y) : ∃ x, l[i]? = some x ∧ y = V.ref x := by
  rw [List.getElem?_map] at h
  cases e : l[i]? with
  | none => rw [e] at h; cases h
  | some x => rw [e] at h; exact ⟨x, rfl, (Option.some.inj h).symm⟩
theorem at_ref {l : List Addr} {i : Nat} {x : Addr} (h : l[i]? = some x) : atI (l.map V.ref) (i : Int) = some (V.ref x) := atI_nat (by rw [List.getElem?_map, h]; rfl)
theorem mem_len (s : Nat) : (mem s).length ≤ 32 := setOf_len 32 s

/-! ### what the changes do -/
def fBegin (n : Nat) (vs : List View) (zs : List Nat) (q : Nat) : R := if q < 2 ∨ 4 < q then ⟨n, vs, zs, [-22]⟩ else ⟨q, [], [], [0]⟩
def newView (s : Nat) : View := ⟨setOf 4 s, List.replicate (2 ^ (setOf 4 s).length) 1⟩
def fAdd (n : Nat) (vs : List View) (zs : List Nat) (s : Nat) : R :=
  if 2 ^ n ≤ s ∨ (mem s).length < 1 ∨ 3 < (mem s).length then ⟨n, vs, zs, [-22]⟩ else
  if (vs.any fun v => numOf v.qs == s) = true then ⟨n, vs, zs, [-17]⟩ else
  if vs.length = 6 then ⟨n, vs, zs, [-28]⟩ else ⟨n, vs ++ [newView s], zs ++ [1], [(vs.length : Int)]⟩
def fDrop (n : Nat) (vs : List View) (zs : List Nat) (i : Nat) : R := if vs.length ≤ i then ⟨n, vs, zs, [-2]⟩ else ⟨n, vs.eraseIdx i, zs.eraseIdx i, [(vs.length : Int) - 1]⟩
def okTable (v : View) (row : List Nat) : Bool := decide (row.length = v.table.length) && (row.all fun x => decide (x ≤ 100)) && decide (0 < total row)
def fTable (n : Nat) (vs : List View) (zs : List Nat) (i : Nat) (row : List Nat) : R := if vs.length ≤ i then ⟨n, vs, zs, [-2]⟩ else
  if okTable (vs.getD i ⟨[], []⟩) row = true then ⟨n, vs.set i { vs.getD i ⟨[], []⟩ with table := row }, zs, [0]⟩ else ⟨n, vs, zs, [-22]⟩
def fTell (n : Nat) (vs : List View) (zs : List Nat) (i : Nat) : R := if vs.length ≤ i then ⟨n, vs, zs, [-2]⟩ else ⟨n, vs, zs, (numOf (vs.getD i ⟨[], []⟩).qs : Int) :: (vs.getD i ⟨[], []⟩).table.map fun (x : Nat) => (x : Int)⟩
def seen1 (x : Nat) (v : View) : View := { v with table := v.table.set (Kp351.rowOf x v.qs) (min (v.table.getD (Kp351.rowOf x v.qs) 0 + 1) 100) }
def fSee (n : Nat) (vs : List View) (zs : List Nat) (x : Nat) : R := if 2 ^ n ≤ x then ⟨n, vs, zs, [-22]⟩ else ⟨n, vs.map (seen1 x), zs, [(vs.length : Int)]⟩
def fTrust (n : Nat) (vs : List View) (zs : List Nat) (i t : Nat) : R := if vs.length ≤ i then ⟨n, vs, zs, [-2]⟩ else
  if t < 1 ∨ 100 < t then ⟨n, vs, zs, [-22]⟩ else ⟨n, vs, zs.set i t, [(zs.getD i 0 : Int)]⟩
/-- what is known of the views -/
structure Wf (n : Nat) (vs : List View) (zs : List Nat) : Prop where
  n4 : n < 5
  six : vs.length ≤ 6
  zl : zs.length = vs.length
  v : ∀ v ∈ vs, Wh.Vw n v
  z : ∀ z ∈ zs, z ≤ 100
  le : ∀ v ∈ vs, ∀ x ∈ v.table, x ≤ 100
theorem Wf.a16 {n : Nat} {vs : List View} {zs : List Nat} (h : Wf n vs zs) {v : View} (hv : v ∈ vs) : numOf v.qs < 16 := (h.v v hv).a16

/-- a call that changes the state by f of its numbers -/
def spC1 (CS CV : Addr) (f : Nat → List View → List Nat → Nat → R) : Sp := fun us H Q _ => ∃ (a : Addr) (n : Nat) (vs : List View) (zs : List Nat) (ft : List Addr) (i : Nat), us = [.ref a, .int i] ∧ StA CS CV H a n vs zs ft ∧ Wf n vs zs ∧ i < 2 ^ 32 ∧ Makes CS CV H a ft (f n vs zs i) Q
def spC2 (CS CV : Addr) (f : Nat → List View → List Nat → Nat → Nat → R) : Sp := fun us H Q _ => ∃ (a : Addr) (n : Nat) (vs : List View) (zs : List Nat) (ft : List Addr) (i j : Nat), us = [.ref a, .int i, .int j] ∧ StA CS CV H a n vs zs ft ∧ Wf n vs zs ∧ i < 2 ^ 32 ∧ j < 2 ^ 32 ∧ Makes CS CV H a ft (f n vs zs i j) Q
def spCT (CS CV : Addr) : Sp := fun us H Q _ => ∃ (a q : Addr) (n : Nat) (vs : List View) (zs : List Nat) (ft : List Addr) (i : Nat) (row : List Nat), us = [.ref a, .int i, .ref q] ∧ H q = some (.lst (nV row)) ∧ StA CS CV H a n vs zs ft ∧ q ∉ ft ∧ Wf n vs zs ∧ i < 2 ^ 32 ∧ row.length ≤ 1000 ∧ Makes CS CV H a ft (fTable n vs zs i row) Q
def spIsTable (CV : Addr) : Sp := fun us H Q _ => ∃ (p t q : Addr) (v : View) (z : Nat) (row : List Nat), us = [.ref p, .ref q] ∧ VwAt CV H p t v z ∧ H q = some (.lst (nV row)) ∧ 0 < v.table.length ∧ Q (.bl (okTable v row)) H

section
variable {P : Program} {w : World} {K : PySem.W.Frag} {mg : Str → Option Value} {base : Heap} {CS CV : Addr}
abbrev s_chosen : Stmt := top 13
theorem sc_chosen : FnScope ["state", "number", "place"] ["state", "number"] (defScope s_chosen) := ⟨rfl, rfl, rfl, by decide +kernel, rfl, by decide +kernel, by decide +kernel⟩
theorem ok_chosen {f fm : Addr} {fd fdm : FuncData} (F : Fun K "chosen" "chosen" s_chosen f fd) (T : Txt K mg CS CV) (c_members : Cal P w K mg base "members" 1 ["number"] spMembers fm fdm) : FnOk P w K mg base CX0 2 f fd ["state", "number"] (spChosen CS CV) := by
  refine F.ok sc_chosen (fun vs H Q E h => ?_) (fun cdv A outer s H vs Q E hr h => ?_)
  · obtain ⟨a, n, vs, zs, ft, s, rfl, _⟩ := h; rfl
  obtain ⟨a, n, vs, zs, ft, s, rfl, ⟨dx, l, ps, ts, S, rfl⟩, hs, hi, k⟩ := h
  refine ⟨_, (pss_one (ps_ret (pe_lc (te := (tOp (rIxL K) (tFld K (tVar 0) "views") (tVar 2))) (own := [("place", 2)]) (g := gName 2) (tt := tYes) rfl sc_chosen.nd (pi_list (pe_call c_members.ok (hr.mono (by decide)) rfl c_members.mg c_members.kp c_members.b .nil pass0 (pa_cons (pv 1) pa_nil))) (blkOk_by (N := ["state", "number", "place"]) (sc := defScope s_chosen) (by decide +kernel)) (fun _ _ _ _ _ => by exact pg_name (i := 2) sc_chosen.nd rfl (Or.inl rfl)) (fun _ _ _ _ _ => pts_nil) (fun _ _ _ _ _ => by exact (pe_ix (r := rIxL K) ix_list (pe_fld (pv 0) rfl) (pv 2) (fun _ _ => rfl)))))), ?_⟩
  refine ⟨_, rfl, s, rfl, hs, fun H1 m s1 hm hl => ?_⟩
  refine ⟨m, rfl, ⟨_, SqL.of hl⟩, fun D hD => ?_⟩
  have S1 := S.same s1
  have key : ∀ i x, (mem s)[i]? = some x → ∃ p t, ps[x]? = some p ∧ VwAt CV H1 p t (vs.getD x ⟨[], []⟩) (zs.getD x 0) := fun i x e => by
    have hx : x < vs.length := hi x (List.mem_of_getElem? e)
    obtain ⟨p, t, z, h1, h2, h3, h4⟩ := S1.V.at_ x vs[x] (List.getElem?_eq_getElem hx)
    refine ⟨p, t, h1, ?_⟩
    rw [List.getD_eq_getElem?_getD, List.getElem?_eq_getElem hx, List.getD_eq_getElem?_getD, h3]
    exact h4
  refine lc_it walk_list (PvN H1 D fun i => (((mem s).take i).map fun x => V.ref (ps.getD x 0))) (pvn_start hD rfl) (fun i H2 _ pv => SqL.of (pv.1 _ _ hl)) ?_ ?_
  · rintro i x H2 H3 hi' pv ⟨rfl, hx⟩
    obtain ⟨y, hy, rfl⟩ := nV_at hx
    obtain ⟨p, t, h1, h2⟩ := key i y hy
    refine ⟨rfl, ?_⟩
    have S2 := S1.same pv.1
    refine ⟨_, rfl, a, CS, dx, _, _, rfl, S2.sa, T.clS, T.sV, rfl, _, rfl, l, _, _, _, rfl, rfl, SqL.of S2.sl, at_ref h1, ?_⟩
    refine pvn_next hD pv (Same.refl _) ?_ (by rw [List.length_map, List.length_take]; exact small (by have := mem_len s; omega))
    rw [take_snoc hy, List.map_append]
    congr 1
    show [V.ref (ps.getD y 0)] = [V.ref p]
    rw [List.getD_eq_getElem?_getD, h1]; rfl
  · rintro H2 pv
    rw [nV_len] at pv
    refine k H2 D (((mem s).map fun x => ps.getD x 0)) (s1.trans pv.1) (s1.free hD) ?_ ⟨?_, fun i v e => ?_⟩
    · have e : H2 D = some (.lst (((mem s).take (mem s).length).map fun x => V.ref (ps.getD x 0))) := pv.2
      rw [take_all] at e
      rw [e, List.map_map]; rfl
    · unfold chosenOf; rw [List.length_map, List.length_map]
    · unfold chosenOf at e
      rw [List.getElem?_map] at e
      cases c : (mem s)[i]? with
      | none => rw [c] at e; cases e
      | some x =>
        rw [c] at e
        cases e
        obtain ⟨p, t, h1, h2⟩ := key i x c
        refine ⟨p, t, ?_, h2.same pv.1⟩
        rw [List.getElem?_map, c]
        show some (ps.getD x 0) = some p
        rw [List.getD_eq_getElem?_getD, h1]; rfl
abbrev s_begin : Stmt := top 18
theorem sc_begin : FnScope ["state", "questions"] ["state", "questions"] (defScope s_begin) := ⟨rfl, rfl, rfl, by decide +kernel, rfl, by decide +kernel, by decide +kernel⟩
theorem ok_begin {f : Addr} {fd : FuncData} (F : Fun K "begin" "begin" s_begin f fd) (T : Txt K mg CS CV) : FnOk P w K mg base CX0 1 f fd ["state", "questions"] (spC1 CS CV fBegin) := by
  refine F.ok sc_begin (fun vs H Q E h => ?_) (fun cdv A outer s H vs Q E hr h => ?_)
  · obtain ⟨a, n, vs, zs, ft, i, rfl, _⟩ := h; rfl
  obtain ⟨a, n, vs, zs, ft, q, rfl, SA, W, hq, k⟩ := h
  refine ⟨_, (pss_cons (ps_if (PW.pt (pw_or (pt_cmpR op_lt (pv 1) pe_int (nomark _)) (pw_or1 (pt_cmpR op_gt (pv 1) pe_int (nomark _))))) (pss_one (ps_ret (pe_lst (pa_cons (pe_glob (v := .int (-22)) rfl T.g_WRONG.choose_spec ⟨_, rfl⟩) pa_nil)))) pss_nil)
        (pss_cons (ps_fld (pv 0) (pv 1) rfl)
        (pss_cons (ps_fld (pv 0) (pe_lst pa_nil) rfl)
        (pss_one (ps_ret (pe_lst (pa_cons pe_int pa_nil))))))), ?_⟩
  have no : (q < 2 ∨ 4 < q) → ∀ p, H p = none → Q (.ref p) (upd H p (.lst [V.int (-22)])) := fun c p hp => by
    unfold fBegin at k
    rw [if_pos c] at k
    exact Makes.asked SA k (Same.refl H) hp rfl
  refine ⟨_, rfl, _, _, rfl, rfl, _, rfl, ?_⟩
  refine ite2 (fun c => ?_) (fun c => ?_)
  · exact iteT ⟨by show 1 ≤ sizeLine; decide, no (Or.inl (by have := of_decide_eq_true c; omega))⟩
  refine ⟨_, rfl, _, _, rfl, rfl, _, rfl, ?_⟩
  refine ite2 (fun c2 => ?_) (fun c2 => ?_)
  · exact ⟨by show 1 ≤ sizeLine; decide, no (Or.inr (by have := of_decide_eq_true c2; omega))⟩
  have c' : ¬ (q < 2 ∨ 4 < q) := fun g => by
    rcases g with g | g
    · exact c (decide_eq_true (by omega))
    · exact c2 (decide_eq_true (by omega))
  unfold fBegin at k
  rw [if_neg c'] at k
  obtain ⟨dx, l, ps, ts, S, rfl⟩ := SA
  refine ⟨_, rfl, _, rfl, a, CS, dx, _, rfl, S.sa, T.clS, T.sQ, (by show 2 < 1000; decide), ?_⟩
  refine ⟨Nat.zero_le _, fun l2 hl2 => ?_⟩
  have nl : l2 ≠ a := fun e => by rw [e, upd_same] at hl2; cases hl2
  refine ⟨_, rfl, a, CS, dx, _, rfl, (upd_ne nl.symm).trans upd_same, T.clS, T.sV, (by show 2 < 1000; decide), ?_⟩
  refine ⟨by show 1 ≤ sizeLine; decide, fun p hp => ?_⟩
  have npa : p ≠ a := fun e => by rw [e, upd_same] at hp; cases hp
  have npl : p ≠ l2 := fun e => by rw [e, upd_ne nl, upd_same] at hp; cases hp
  have hp0 : H p = none := by rw [upd_ne npa, upd_ne npl, upd_ne npa] at hp; exact hp
  have hl0 : H l2 = none := by rw [upd_ne nl] at hl2; exact hl2
  refine k _ p (foot a l2 [] []) ⟨dx, l2, [], [], ⟨?_, ?_, by simp, ⟨rfl, rfl, rfl, List.nodup_nil, List.nodup_nil, fun i v e => by simp at e⟩⟩, rfl⟩ ⟨fun b o e hb => ?_, fun b hb => ?_⟩ hp0 (fun hb => ?_) upd_same
  · rw [upd_ne npa.symm]; exact upd_same
  · rw [upd_ne npl.symm, upd_ne nl]; exact upd_same
  · have nb1 : b ≠ a := fun q => hb (by rw [q]; exact List.mem_cons_self)
    have nb2 : b ≠ l2 := fun q => by rw [q, hl0] at e; cases e
    have nb3 : b ≠ p := fun q => by rw [q, hp0] at e; cases e
    rw [upd_ne nb3, upd_ne nb1, upd_ne nb2, upd_ne nb1]; exact e
  · rcases List.mem_cons.mp hb with q | q
    · exact Or.inl (by rw [q]; exact List.mem_cons_self)
    · rcases List.mem_cons.mp q with q | q
      · exact Or.inr (by rw [q]; exact hl0)
      · simp at q
  · rcases List.mem_cons.mp hb with q | q
    · exact npa q
    · rcases List.mem_cons.mp q with q | q
      · exact npl q
      · simp at q
end
end Dv
end
section
set_option Elab.async false
set_option maxRecDepth 100000
set_option maxHeartbeats 4000000
namespace Dv
open PySem PySem.Spec PyProof.Rows L2
open Kp351 (setOf View numOf total)

theorem getD_at {α : Type} {l : List α} {i : Nat} {x d : α} (h : l[i]? = some x) : l.getD i d = x := by rw [List.getD_eq_getElem?_getD, h]; rfl
theorem lt_of_at {α : Type} {l : List α} {i : Nat} {x : α} (h : l[i]? = some x) : i < l.length := (List.getElem?_eq_some_iff.mp h).1
theorem shl_pow (n : Nat) : (1 : Int) * 2 ^ (n : Int).toNat = ((2 ^ n : Nat) : Int) := by
  rw [Int.toNat_natCast, Int.one_mul, Int.natCast_pow]; rfl
theorem inV_nV (x : Nat) (l : List Nat) : inV (.int (x : Int)) (nV l) = l.any fun y => y == x := by
  unfold inV nV
  rw [List.any_map]
  congr 1
  funext y
  show ((y : Int) == (x : Int)) = (y == x)
  by_cases c : y = x
  · subst c; rw [beq_self_eq_true, beq_self_eq_true]
  · have h1 : ((y : Int) == (x : Int)) = false := beq_eq_false_iff_ne.mpr (by omega)
    have h2 : (y == x) = false := beq_eq_false_iff_ne.mpr c
    rw [h1, h2]
theorem nV_snoc (l : List Nat) (x : Nat) : nV (l ++ [x]) = nV l ++ [V.int (x : Int)] := by unfold nV; rw [List.map_append]; rfl
/-- a place in a list with no two alike -/
theorem nodup_at {l : List Addr} (h : l.Nodup) {i j : Nat} {x : Addr} (a : l[i]? = some x) (b : l[j]? = some x) : i = j := nd_ix h a b
theorem cls_ne {CV CS : Addr} {H : Hp} {p : Addr} {o u : HO} (h : H p = some o) (h' : H p = some u) : o = u := by rw [h] at h'; exact Option.some.inj h'

section
variable {P : Program} {w : World} {K : PySem.W.Frag} {mg : Str → Option Value} {base : Heap} {CS CV : Addr}
abbrev s_add_view : Stmt := top 19
theorem sc_add_view : FnScope ["state", "asked", "view"] ["state", "asked"] (defScope s_add_view) := ⟨rfl, rfl, rfl, by decide +kernel, rfl, by decide +kernel, by decide +kernel⟩
theorem ok_add_view {f fm fi : Addr} {fd fdm fdi : FuncData} (F : Fun K "add_view" "add_view" s_add_view f fd) (T : Txt K mg CS CV) (c_members : Cal P w K mg base "members" 1 ["number"] spMembers fm fdm)
    (M_View : Mak P w K mg base "View" 2 ["self", "asked"] (spViewInit CV) CV fi fdi) : FnOk P w K mg base CX0 4 f fd ["state", "asked"] (spC1 CS CV fAdd) := by
  refine F.ok sc_add_view (fun vs H Q E h => ?_) (fun cdv A outer s H vs Q E hr h => ?_)
  · obtain ⟨a, n, vs, zs, ft, i, rfl, _⟩ := h; rfl
  obtain ⟨a, n, vs, zs, ft, q, rfl, SA, W, hq, k⟩ := h
  refine ⟨_, (pss_cons (ps_if (PW.pt (pw_or (pt_cmpR op_ge (pv 1) (pe_op op_shl pe_int (pe_fld (pv 0) rfl)) (nomark _)) (pw_or (pt_cmpR op_lt (pe_callB call_len_seq (by rfl) T.len (by decide +kernel) (pa_cons (pe_call c_members.ok (hr.mono (by decide)) rfl c_members.mg c_members.kp c_members.b .nil pass0 (pa_cons (pv 1) pa_nil)) pa_nil)) pe_int (nomark _)) (pw_or1 (pt_cmpR op_gt (pe_callB call_len_seq (by rfl) T.len (by decide +kernel) (pa_cons (pe_call c_members.ok (hr.mono (by decide)) rfl c_members.mg c_members.kp c_members.b .nil pass0 (pa_cons (pv 1) pa_nil)) pa_nil)) pe_int (nomark _)))))) (pss_one (ps_ret (pe_lst (pa_cons (pe_glob (v := .int (-22)) rfl T.g_WRONG.choose_spec ⟨_, rfl⟩) pa_nil)))) pss_nil)
        (pss_cons (ps_if (pt_cmpR op_in_seq (pv 1) (pe_lc (te := (tFld K (tVar 2) "asked")) (own := [("view", 2)]) (g := gName 2) (tt := tYes) rfl sc_add_view.nd (pi_list (pe_fld (pv 0) rfl)) (blkOk_by (N := ["state", "asked", "view"]) (sc := defScope s_add_view) (by decide +kernel)) (fun _ _ _ _ _ => by exact pg_name (i := 2) sc_add_view.nd rfl (Or.inl rfl)) (fun _ _ _ _ _ => pts_nil) (fun _ _ _ _ _ => by exact (pe_fld (pv 2) rfl))) (by rfl)) (pss_one (ps_ret (pe_lst (pa_cons (pe_glob (v := .int (-17)) rfl T.g_TAKEN.choose_spec ⟨_, rfl⟩) pa_nil)))) pss_nil)
        (pss_cons (ps_if (pt_cmpR op_eq (pe_callB call_len_seq (by rfl) T.len (by decide +kernel) (pa_cons (pe_fld (pv 0) rfl) pa_nil)) (pe_glob (v := .int (6)) rfl T.g_MOST_VIEWS.choose_spec ⟨_, rfl⟩) (nomark _)) (pss_one (ps_ret (pe_lst (pa_cons (pe_glob (v := .int (-28)) rfl T.g_FULL.choose_spec ⟨_, rfl⟩) pa_nil)))) pss_nil)
        (pss_cons (ps_expr (pe_bm PySem.F.plainAttrs_list PySem.F.slot_list_append PySem.F.type_list_append mt_append (pe_fld (pv 0) rfl) (pa_cons (pe_make M_View.made M_View.ok (hr.mono (by decide)) rfl M_View.mg M_View.b .nil pass0 (pa_cons (pv 1) pa_nil)) pa_nil)))
        (pss_one (ps_ret (pe_lst (pa_cons (pe_op op_sub (pe_callB call_len_seq (by rfl) T.len (by decide +kernel) (pa_cons (pe_fld (pv 0) rfl) pa_nil)) pe_int) pa_nil)))))))), ?_⟩
  have no : (2 ^ n ≤ q ∨ (mem q).length < 1 ∨ 3 < (mem q).length) → ∀ H1, Same H H1 → ∀ p, H1 p = none → Q (.ref p) (upd H1 p (.lst [V.int (-22)])) := fun c H1 s p hp => by
    unfold fAdd at k
    rw [if_pos c] at k
    exact Makes.asked SA k s hp rfl
  obtain ⟨dx, l, ps, ts, S, eft⟩ := id SA
  have n4 := W.n4
  refine ⟨_, rfl, _, rfl, a, CS, dx, _, _, rfl, S.sa, T.clS, T.sQ, rfl, _, _, rfl, rfl, ⟨by omega, by omega⟩, _, _, rfl, rfl, _, rfl, ?_⟩
  rw [shl_pow]
  refine ite2 (fun c => ?_) (fun c => ?_)
  · exact iteT ⟨by show 1 ≤ sizeLine; decide, no (Or.inl (by have := of_decide_eq_true c; omega)) H (Same.refl H)⟩
  have c1 : q < 2 ^ n := by
    have : ¬ (((2 ^ n : Nat) : Int) ≤ (q : Int)) := fun g => c (decide_eq_true g)
    omega
  have h16 : 2 ^ n ≤ 2 ^ 4 := Nat.pow_le_pow_right (by omega) (by omega)
  refine ⟨_, rfl, q, rfl, hq, fun H1 m1 s1 hm1 hl1 => ?_⟩
  refine ⟨m1, _, rfl, .inl (SqL.of hl1), _, _, rfl, rfl, _, rfl, ?_⟩
  rw [nV_len]
  refine ite2 (fun c2 => ?_) (fun c2 => ?_)
  · exact iteT ⟨by show 1 ≤ sizeLine; decide, no (Or.inr (Or.inl (by have := of_decide_eq_true c2; omega))) H1 s1⟩
  refine ⟨_, rfl, q, rfl, hq, fun H2 m2 s2 hm2 hl2 => ?_⟩
  refine ⟨m2, _, rfl, .inl (SqL.of hl2), _, _, rfl, rfl, _, rfl, ?_⟩
  rw [nV_len]
  have s02 := s1.trans s2
  refine ite2 (fun c3 => ?_) (fun c3 => ?_)
  · exact ⟨by show 1 ≤ sizeLine; decide, no (Or.inr (Or.inr (by have := of_decide_eq_true c3; omega))) H2 s02⟩
  have c2' : ¬ (mem q).length < 1 := fun g => c2 (decide_eq_true (by omega))
  have c3' : ¬ 3 < (mem q).length := fun g => c3 (decide_eq_true (by omega))
  have e0 : ¬ (2 ^ n ≤ q ∨ (mem q).length < 1 ∨ 3 < (mem q).length) := fun g => by
    rcases g with g | g | g
    · omega
    · exact c2' g
    · exact c3' g
  unfold fAdd at k
  rw [if_neg e0] at k
  have S2 := S.same s02
  -- asked in [view.asked for view in state.views]
  refine ⟨_, rfl, _, rfl, a, CS, dx, _, _, rfl, S2.sa, T.clS, T.sV, rfl, l, rfl, ⟨_, SqL.of S2.sl⟩, fun D hD => ?_⟩
  refine lc_it walk_list (PvN H2 D fun i => nV ((vs.take i).map fun v => numOf v.qs)) (pvn_start hD rfl) (fun i H3 _ pv => SqL.of (pv.1 _ _ S2.sl)) ?_ ?_
  · rintro i x H3 H4 hi pv ⟨rfl, hx⟩
    obtain ⟨p, hp, rfl⟩ := refs_at hx
    obtain ⟨v, t, z, h1, h2, h3, h4⟩ := S2.V.byP hp
    obtain ⟨dv, h5⟩ := (h4.same pv.1).1
    refine ⟨rfl, ?_⟩
    refine ⟨_, rfl, p, CV, dv, _, _, rfl, h5, T.clV, T.vA, rfl, ?_⟩
    refine pvn_next hD pv (Same.refl _) ?_ (by rw [nV_len, List.length_map, List.length_take]; exact small (by have := W.six; omega))
    rw [take_snoc h1, List.map_append]
    exact nV_snoc _ _
  rintro H3 pv
  rw [List.length_map, S2.V.pl] at pv
  have s03 := s02.trans pv.1
  have S3 := S2.same pv.1
  have eD : H3 D = some (.lst (nV ((vs.take vs.length).map fun v => numOf v.qs))) := pv.2
  rw [take_all] at eD
  refine ⟨D, _, rfl, .inl (SqL.of eD), rfl, nV_flat _, _, rfl, ?_⟩
  have ein : (if false = true then !inV (V.int (q : Int)) (nV (vs.map fun v => numOf v.qs)) else inV (V.int (q : Int)) (nV (vs.map fun v => numOf v.qs))) = vs.any fun v => numOf v.qs == q := by
    rw [if_neg Bool.false_ne_true, inV_nV, List.any_map]; rfl
  rw [ein]
  refine ite2 (fun c4 => ?_) (fun c4 => ?_)
  · rw [if_pos c4] at k
    exact ⟨by show 1 ≤ sizeLine; decide, fun p hp => Makes.asked SA k s03 hp rfl⟩
  rw [if_neg c4] at k
  -- len(state.views) == MOST_VIEWS
  refine ⟨_, rfl, a, CS, dx, _, _, rfl, S3.sa, T.clS, T.sV, rfl, l, _, rfl, .inl (SqL.of S3.sl), rfl, _, rfl, ?_⟩
  rw [List.length_map, S3.V.pl]
  refine ite2 (fun c5 => ?_) (fun c5 => ?_)
  · have c5' : vs.length = 6 := by have := V.int.inj (of_decide_eq_true c5); omega
    rw [if_pos c5'] at k
    exact ⟨by show 1 ≤ sizeLine; decide, fun p hp => Makes.asked SA k s03 hp rfl⟩
  have c5' : ¬ vs.length = 6 := fun g => c5 (decide_eq_true (by rw [g]; rfl))
  rw [if_neg c5'] at k
  -- state.views.append(View(asked))
  refine ⟨_, rfl, a, CS, dx, _, _, rfl, S3.sa, T.clS, T.sV, rfl, .inl ⟨rfl, _, SqL.of S3.sl⟩, _, rfl, fun x dv nx nd ne => ?_⟩
  refine ⟨x, dv, q, rfl, by omega, upd_same, fun H4 t ht hx htb kp => ⟨rfl, ?_⟩⟩
  have s4 : Same H3 H4 := Same.made nx nd kp
  have S4 := S3.same s4
  refine ⟨l, _, _, rfl, rfl, S4.sl, (by rw [List.length_map, S4.V.pl]; exact small (by have := W.six; omega)), ?_⟩
  have nla : l ≠ a := ne_of S4.sl S4.sa (by intro g; cases g)
  refine ⟨_, rfl, a, CS, dx, _, _, rfl, (upd_ne nla.symm).trans S4.sa, T.clS, T.sV, rfl, l, _, rfl, .inl (SqL.of upd_same), _, _, rfl, rfl, (by show 1 ≤ sizeLine; decide), fun p hp => ?_⟩
  have npl : p ≠ l := fun e => by rw [e, upd_same] at hp; cases hp
  have hp4 : H4 p = none := by rw [upd_ne npl] at hp; exact hp
  have s04 := s03.trans s4
  have x0 : H x = none := s03.free nx
  have t0 : H t = none := s03.free (by
    cases e : H3 t with
    | none => rfl
    | some o =>
      have nt1 : t ≠ x := fun g => by rw [g, upd_same] at ht; cases ht
      rw [upd_ne nt1] at ht
      by_cases g : t = dv
      · rw [g, upd_same] at ht; cases ht
      · rw [upd_ne g, e] at ht; cases ht)
  have St := S.V
  have xps : x ∉ ps := fun g => by
    obtain ⟨o, ho⟩ := S.V.tracked (List.mem_append_left ts g)
    rw [x0] at ho; cases ho
  have tts : t ∉ ts := fun g => by
    obtain ⟨o, ho⟩ := S.V.tracked (List.mem_append_right ps g)
    rw [t0] at ho; cases ho
  have lx : l ≠ x := ne_of S4.sl hx (by intro g; cases g)
  have lt' : l ≠ t := fun g => by
    have := S.sl
    rw [g, t0] at this; cases this
  have px : p ≠ x := fun g => by rw [g, hx] at hp4; cases hp4
  have pt : p ≠ t := fun g => by rw [g, htb] at hp4; cases hp4
  have pa : p ≠ a := fun g => by rw [g, S4.sa] at hp4; cases hp4
  have mv : ∀ b o, H4 b = some o → b ≠ l → upd (upd H4 l (HO.lst (ps.map V.ref ++ [V.ref x]))) p (HO.lst [V.int (((ps.map V.ref ++ [V.ref x]).length : Int) - 1)]) b = some o := fun b o e nb => by
    rw [upd_ne (ne_of_none e hp4), upd_ne nb]; exact e
  refine k _ p (foot a l (ps ++ [x]) (ts ++ [t])) ⟨dx, l, ps ++ [x], ts ++ [t], ⟨mv _ _ S4.sa nla.symm, ?_, ?_, ?_⟩, rfl⟩ ⟨fun b o e hb => ?_, fun b hb => ?_⟩ (s04.free hp4) (fun hb => ?_) ?_
  · rw [upd_ne npl.symm, upd_same, List.map_append]; rfl
  · rw [List.mem_append]
    rintro (g | g)
    · exact S.lt g
    · exact lt' (List.mem_singleton.mp g)
  · refine VsAt.snoc ⟨S4.V.pl, S4.V.tl, S4.V.zl, S4.V.pn, S4.V.tn, fun i v e => ?_⟩ xps tts ⟨⟨dv, ?_⟩, ?_⟩
    · obtain ⟨p', t', z', h1, h2, h3, ⟨dv', h4⟩, h5⟩ := S4.V.at_ i v e
      exact ⟨p', t', z', h1, h2, h3, ⟨dv', mv _ _ h4 (ne_of h4 S4.sl (by intro g; cases g))⟩, mv _ _ h5 (fun g => S.lt (g ▸ List.mem_of_getElem? h2))⟩
    · rw [show numOf (newView q).qs = q from Wh.numOf4 q (by omega)]
      exact mv _ _ hx lx.symm
    · rw [mv _ _ htb lt'.symm]
      show some (HO.lst (nV (List.replicate (Wh.parts q).length 1))) = some (HO.lst (nV (List.replicate (2 ^ (setOf 4 q).length) 1)))
      rw [Wh.parts_len4 q (by omega)]
  · subst eft
    have nb : b ≠ l := fun g => hb (by rw [g]; exact List.mem_cons_of_mem _ List.mem_cons_self)
    exact mv _ _ (s04 _ _ e) nb
  · subst eft
    unfold foot at hb ⊢
    rcases List.mem_cons.mp hb with g | g
    · exact Or.inl (by rw [g]; exact List.mem_cons_self)
    rcases List.mem_cons.mp g with g | g
    · exact Or.inl (by rw [g]; exact List.mem_cons_of_mem _ List.mem_cons_self)
    rcases List.mem_append.mp g with g | g
    · rcases List.mem_append.mp g with g | g
      · exact Or.inl (List.mem_cons_of_mem _ (List.mem_cons_of_mem _ (List.mem_append_left _ g)))
      · exact Or.inr (by rw [List.mem_singleton.mp g]; exact x0)
    · rcases List.mem_append.mp g with g | g
      · exact Or.inl (List.mem_cons_of_mem _ (List.mem_cons_of_mem _ (List.mem_append_right _ g)))
      · exact Or.inr (by rw [List.mem_singleton.mp g]; exact t0)
  · unfold foot at hb
    rcases List.mem_cons.mp hb with g | g
    · exact pa g
    rcases List.mem_cons.mp g with g | g
    · exact npl g
    have tr : ∀ b, b ∈ ps ++ ts → p ≠ b := fun b hb e => by
      obtain ⟨o, ho⟩ := S4.V.tracked hb
      rw [← e, hp4] at ho; cases ho
    rcases List.mem_append.mp g with g | g
    · rcases List.mem_append.mp g with g | g
      · exact tr p (List.mem_append_left _ g) rfl
      · exact px (List.mem_singleton.mp g)
    · rcases List.mem_append.mp g with g | g
      · exact tr p (List.mem_append_right _ g) rfl
      · exact pt (List.mem_singleton.mp g)
  · rw [upd_same]
    show some (HO.lst [V.int (((ps.map V.ref ++ [V.ref x]).length : Int) - 1)]) = some (HO.lst [V.int (vs.length : Int)])
    rw [List.length_append, List.length_map, S.V.pl]
    congr 3
    show V.int (((vs.length + 1 : Nat) : Int) - 1) = _
    congr 1; omega
end
end Dv
end
section
set_option Elab.async false
set_option maxRecDepth 100000
set_option maxHeartbeats 4000000
namespace Dv
open PySem PySem.Spec PyProof.Rows L2
open Kp351 (setOf View numOf total)

/-- an item taken out of a list: where the others stand -/
theorem erase_at {α : Type} {l : List α} {i j : Nat} {x : α} (h : (l.eraseIdx i)[j]? = some x) : l[if j < i then j else j + 1]? = some x := by
  rw [List.getElem?_eraseIdx] at h
  by_cases c : j < i
  · rw [if_pos c] at h ⊢; exact h
  · rw [if_neg c] at h ⊢; exact h
theorem erase_get {α : Type} {l : List α} {i j : Nat} {x : α} (h : l[if j < i then j else j + 1]? = some x) : (l.eraseIdx i)[j]? = some x := by
  rw [List.getElem?_eraseIdx]
  by_cases c : j < i
  · rw [if_pos c] at h ⊢; exact h
  · rw [if_neg c] at h ⊢; exact h
theorem VsAt.erase {CV : Addr} {H : Hp} {ps ts : List Addr} {vs : List View} {zs : List Nat} (h : VsAt CV H ps ts vs zs) {i : Nat} (hi : i < vs.length) : VsAt CV H (ps.eraseIdx i) (ts.eraseIdx i) (vs.eraseIdx i) (zs.eraseIdx i) := by
  refine ⟨?_, ?_, ?_, h.pn.sublist (List.eraseIdx_sublist _ _), h.tn.sublist (List.eraseIdx_sublist _ _), fun j v e => ?_⟩
  · rw [List.length_eraseIdx, List.length_eraseIdx, h.pl]
  · rw [List.length_eraseIdx, List.length_eraseIdx, h.tl]
  · rw [List.length_eraseIdx, List.length_eraseIdx, h.zl]
  · obtain ⟨p, t, z, h1, h2, h3, h4⟩ := h.at_ _ v (erase_at e)
    exact ⟨p, t, z, erase_get h1, erase_get h2, erase_get h3, h4⟩
theorem map_erase : ∀ (l : List Addr) (i : Nat), (l.map V.ref).eraseIdx i = (l.eraseIdx i).map V.ref
  | [], _ => rfl
  | _ :: _, 0 => rfl
  | x :: l, i + 1 => by
    show V.ref x :: (l.map V.ref).eraseIdx i = V.ref x :: (l.eraseIdx i).map V.ref
    rw [map_erase l i]

section
variable {P : Program} {w : World} {K : PySem.W.Frag} {mg : Str → Option Value} {base : Heap} {CS CV : Addr}
/-- the frame of a state whose footprint is of the old one, the new list apart -/
theorem frame_in {H H' : Hp} {ft ft' : List Addr} (h : ∀ b o, H b = some o → b ∉ ft → H' b = some o) (s : ∀ b ∈ ft', b ∈ ft) : Frame ft ft' H H' := ⟨h, fun b hb => Or.inl (s b hb)⟩
abbrev s_drop_view : Stmt := top 20
theorem sc_drop_view : FnScope ["state", "place"] ["state", "place"] (defScope s_drop_view) := ⟨rfl, rfl, rfl, by decide +kernel, rfl, by decide +kernel, by decide +kernel⟩
theorem ok_drop_view {f : Addr} {fd : FuncData} (F : Fun K "drop_view" "drop_view" s_drop_view f fd) (T : Txt K mg CS CV) : FnOk P w K mg base CX0 1 f fd ["state", "place"] (spC1 CS CV fDrop) := by
  refine F.ok sc_drop_view (fun vs H Q E h => ?_) (fun cdv A outer s H vs Q E hr h => ?_)
  · obtain ⟨a, n, vs, zs, ft, i, rfl, _⟩ := h; rfl
  obtain ⟨a, n, vs, zs, ft, q, rfl, SA, W, hq, k⟩ := h
  refine ⟨_, (pss_cons (ps_if (pt_cmpR op_ge (pv 1) (pe_callB call_len_seq (by rfl) T.len (by decide +kernel) (pa_cons (pe_fld (pv 0) rfl) pa_nil)) (nomark _)) (pss_one (ps_ret (pe_lst (pa_cons (pe_glob (v := .int (-2)) rfl T.g_NO_VIEW.choose_spec ⟨_, rfl⟩) pa_nil)))) pss_nil)
        (pss_cons (ps_expr (pe_bm PySem.F.plainAttrs_list PySem.F.slot_list_pop PySem.F.type_list_pop mt_popAt (pe_fld (pv 0) rfl) (pa_cons (pv 1) pa_nil)))
        (pss_one (ps_ret (pe_lst (pa_cons (pe_callB call_len_seq (by rfl) T.len (by decide +kernel) (pa_cons (pe_fld (pv 0) rfl) pa_nil)) pa_nil)))))), ?_⟩
  obtain ⟨dx, l, ps, ts, S, eft⟩ := id SA
  refine ⟨_, rfl, _, rfl, a, CS, dx, _, _, rfl, S.sa, T.clS, T.sV, rfl, l, _, rfl, .inl (SqL.of S.sl), _, _, rfl, rfl, _, rfl, ?_⟩
  rw [List.length_map, S.V.pl]
  refine ite2 (fun c => ?_) (fun c => ?_)
  · have c' : vs.length ≤ q := by have := of_decide_eq_true c; omega
    unfold fDrop at k
    rw [if_pos c'] at k
    exact ⟨by show 1 ≤ sizeLine; decide, fun p hp => Makes.asked SA k (Same.refl H) hp rfl⟩
  have c' : ¬ vs.length ≤ q := fun g => c (decide_eq_true (by omega))
  unfold fDrop at k
  rw [if_neg c'] at k
  have hq' : q < ps.length := by rw [S.V.pl]; omega
  have six := W.six
  refine ⟨_, rfl, a, CS, dx, _, _, rfl, S.sa, T.clS, T.sV, rfl, .inl ⟨rfl, _, SqL.of S.sl⟩, _, rfl, l, _, (q : Int), q, V.ref ps[q], rfl, rfl, S.sl, by omega, by omega, ?_, ?_, ?_⟩
  · unfold seqIndex?
    rw [List.length_map]
    simp
    omega
  · rw [List.getElem?_map, List.getElem?_eq_getElem hq']; rfl
  have nla : l ≠ a := ne_of S.sl S.sa (by intro g; cases g)
  rw [map_erase]
  refine ⟨_, rfl, a, CS, dx, _, _, rfl, (upd_ne nla.symm).trans S.sa, T.clS, T.sV, rfl, l, _, rfl, .inl (SqL.of upd_same), (by show 1 ≤ sizeLine; decide), fun p hp => ?_⟩
  have npl : p ≠ l := fun e => by rw [e, upd_same] at hp; cases hp
  have hp0 : H p = none := by rw [upd_ne npl] at hp; exact hp
  have mv : ∀ o' b o, H b = some o → b ≠ l → upd (upd H l (HO.lst ((ps.eraseIdx q).map V.ref))) p o' b = some o := fun o' b o e nb => by
    rw [upd_ne (ne_of_none e hp0), upd_ne nb]; exact e
  have sub : ∀ b ∈ foot a l (ps.eraseIdx q) (ts.eraseIdx q), b ∈ foot a l ps ts := fun b hb => by
    unfold foot at hb ⊢
    rcases List.mem_cons.mp hb with g | g
    · rw [g]; exact List.mem_cons_self
    rcases List.mem_cons.mp g with g | g
    · rw [g]; exact List.mem_cons_of_mem _ List.mem_cons_self
    refine List.mem_cons_of_mem _ (List.mem_cons_of_mem _ ?_)
    rcases List.mem_append.mp g with g | g
    · exact List.mem_append_left _ (List.mem_of_mem_eraseIdx g)
    · exact List.mem_append_right _ (List.mem_of_mem_eraseIdx g)
  have V2 := S.V.erase (i := q) (by omega)
  refine k _ p (foot a l (ps.eraseIdx q) (ts.eraseIdx q)) ⟨dx, l, ps.eraseIdx q, ts.eraseIdx q, ⟨mv _ _ _ S.sa nla.symm, (upd_ne npl.symm).trans upd_same, fun g => S.lt (List.mem_of_mem_eraseIdx g), ⟨V2.pl, V2.tl, V2.zl, V2.pn, V2.tn, fun i v e => ?_⟩⟩, rfl⟩ (frame_in (fun b o e hb => ?_) (by rw [eft]; exact sub)) hp0 (fun hb => ?_) ?_
  · obtain ⟨p', t', z', h1, h2, h3, ⟨dv', h4⟩, h5⟩ := V2.at_ i v e
    exact ⟨p', t', z', h1, h2, h3, ⟨dv', mv _ _ _ h4 (ne_of h4 S.sl (by intro g; cases g))⟩, mv _ _ _ h5 (fun g => S.lt (g ▸ List.mem_of_mem_eraseIdx (List.mem_of_getElem? h2)))⟩
  · subst eft
    exact mv _ _ _ e (fun g => hb (by rw [g]; exact List.mem_cons_of_mem _ List.mem_cons_self))
  · obtain ⟨o, ho⟩ := S.tracked (sub p hb)
    rw [hp0] at ho; cases ho
  · rw [upd_same]
    show some (HO.lst [V.int ((((ps.eraseIdx q).map V.ref).length : Nat) : Int)]) = some (HO.lst [V.int ((vs.length : Int) - 1)])
    rw [List.length_map, List.length_eraseIdx, if_pos hq', S.V.pl]
    congr 3
    show V.int ((vs.length - 1 : Nat) : Int) = _
    congr 1; omega
abbrev s_is_table : Stmt := top 22
theorem sc_is_table : FnScope ["view", "row"] ["view", "row"] (defScope s_is_table) := ⟨rfl, rfl, rfl, by decide +kernel, rfl, by decide +kernel, by decide +kernel⟩
theorem total_sum : ∀ l : List Nat, (l.map fun (x : Nat) => (x : Int)).sum = (total l : Int)
  | [] => rfl
  | x :: l => by rw [List.map_cons, List.sum_cons, total_sum l, Sh.total_cons]; omega
theorem nV_ints (l : List Nat) : nV l = (l.map fun (x : Nat) => (x : Int)).map V.int := by unfold nV; rw [List.map_map]; rfl
theorem max_of : ∀ {l : List Nat}, l ≠ [] → ∃ m, m ∈ l ∧ ∀ y ∈ l, y ≤ m
  | [], h => absurd rfl h
  | [x], _ => ⟨x, by simp, by simp⟩
  | x :: y :: l, _ => by
    obtain ⟨m, h1, h2⟩ := max_of (l := y :: l) (by simp)
    by_cases c : x ≤ m
    · exact ⟨m, List.mem_cons_of_mem _ h1, fun z hz => by
        rcases List.mem_cons.mp hz with g | g
        · rw [g]; exact c
        · exact h2 z g⟩
    · exact ⟨x, List.mem_cons_self, fun z hz => by
        rcases List.mem_cons.mp hz with g | g
        · omega
        · have := h2 z g; omega⟩
theorem ok_is_table {f : Addr} {fd : FuncData} (F : Fun K "is_table" "is_table" s_is_table f fd) (T : Txt K mg CS CV) : FnOk P w K mg base CX0 1 f fd ["view", "row"] (spIsTable CV) := by
  refine F.ok sc_is_table (fun vs H Q E h => ?_) (fun cdv A outer s H vs Q E hr h => ?_)
  · obtain ⟨p, t, q, v, z, row, rfl, _⟩ := h; rfl
  obtain ⟨p, t, q, v, z, row, rfl, ⟨⟨dv, hp⟩, ht⟩, hq, pos, k⟩ := h
  refine ⟨_, (pss_one (ps_ret (pe_and (pe_cmpR op_eq (pe_callB call_len_seq (by rfl) T.len (by decide +kernel) (pa_cons (pv 1) pa_nil)) (pe_callB call_len_seq (by rfl) T.len (by decide +kernel) (pa_cons (pe_fld (pv 0) rfl) pa_nil)) (nomark _)) (pe_and (pe_cmpR op_le (pe_callB (cr_max rfl) (by rfl) T.max (by decide +kernel) (pa_cons (pv 1) pa_nil)) (pe_glob (v := .int (100)) rfl T.g_MOST_SEEN.choose_spec ⟨_, rfl⟩) (nomark _)) (pe_one (pe_cmpR op_gt (pe_callB (cr_sum rfl) (by rfl) T.sum (by decide +kernel) (pa_cons (pv 1) pa_nil)) pe_int (nomark _))))))), ?_⟩
  refine ⟨_, rfl, q, _, rfl, .inl (SqL.of hq), _, rfl, p, CV, dv, _, _, rfl, hp, T.clV, T.vT, rfl, t, _, rfl, .inl (SqL.of ht), rfl, _, rfl, ?_⟩
  rw [nV_len, nV_len]
  refine ite2 (fun c => ?_) (fun c => ?_)
  · have c' : row.length = v.table.length := by have := V.int.inj (of_decide_eq_true c); omega
    obtain ⟨m, hm, hm2⟩ := max_of (l := row) (fun g => by rw [g] at c'; simp at c'; omega)
    refine ⟨_, rfl, q, row.map fun (x : Nat) => (x : Int), rfl, by rw [← nV_ints]; exact SqL.of hq, by rw [List.length_map]; omega, fun m' h1 h2 => ?_⟩
    obtain ⟨m1, hm1, e⟩ := List.mem_map.mp h1
    have em : m' = (m : Int) := by
      have g1 := h2 (m : Int) (List.mem_map.mpr ⟨m, hm, rfl⟩)
      have g2 := hm2 m1 hm1
      omega
    subst em
    refine ⟨_, _, rfl, rfl, _, rfl, ?_⟩
    have al : (row.all fun x => decide (x ≤ 100)) = decide (m ≤ 100) := by
      rw [Bool.eq_iff_iff, List.all_eq_true, decide_eq_true_iff]
      constructor
      · intro g; exact of_decide_eq_true (g m hm)
      · intro g x hx; exact decide_eq_true (Nat.le_trans (hm2 x hx) g)
    refine ite2 (fun c2 => ?_) (fun c2 => ?_)
    · have c2' : m ≤ 100 := by have := of_decide_eq_true c2; omega
      refine ⟨_, rfl, q, row.map fun (x : Nat) => (x : Int), rfl, by rw [← nV_ints]; exact SqL.of hq, ?_⟩
      refine ⟨_, _, rfl, rfl, ?_⟩
      rw [total_sum]
      have e2 : okTable v row = decide ((0 : Int) < (total row : Int)) := by
        unfold okTable
        rw [al, decide_eq_true c', decide_eq_true c2', Bool.true_and, Bool.true_and]
        congr 1
        simp
      show Q (V.bl (decide ((0 : Int) < (total row : Int)))) H
      rw [← e2]; exact k
    · have c2' : ¬ m ≤ 100 := fun g => c2 (decide_eq_true (by omega))
      have e2 : okTable v row = false := by
        unfold okTable
        rw [al, decide_eq_false c2', Bool.and_false, Bool.false_and]
      rw [e2] at k; exact k
  · have c' : ¬ row.length = v.table.length := fun g => c (decide_eq_true (by rw [g]))
    have e2 : okTable v row = false := by
      unfold okTable
      rw [decide_eq_false c', Bool.false_and, Bool.false_and]
    rw [e2] at k; exact k
end
end Dv
end
section
set_option Elab.async false
set_option maxRecDepth 100000
set_option maxHeartbeats 4000000
namespace Dv
open PySem PySem.Spec PyProof.Rows L2
open Kp351 (setOf View numOf total)

theorem set_at {α : Type} {l : List α} {i j : Nat} {x y : α} (hi : i < l.length) (h : (l.set i y)[j]? = some x) : (j = i ∧ x = y) ∨ (j ≠ i ∧ l[j]? = some x) := by
  rw [List.getElem?_set] at h
  by_cases c : i = j
  · rw [if_pos c, if_pos (c ▸ hi)] at h
    exact Or.inl ⟨c.symm, (Option.some.inj h).symm⟩
  · rw [if_neg c] at h
    exact Or.inr ⟨fun g => c g.symm, h⟩
theorem set_same {α : Type} {l : List α} {i : Nat} {y : α} (hi : i < l.length) : (l.set i y)[i]? = some y := by
  rw [List.getElem?_set, if_pos rfl, if_pos hi]
theorem set_ne {α : Type} {l : List α} {i j : Nat} {y : α} (ne : j ≠ i) : (l.set i y)[j]? = l[j]? := by
  rw [List.getElem?_set, if_neg (fun g => ne g.symm)]
theorem nodup_set {l : List Addr} (h : l.Nodup) {i : Nat} {x y : Addr} (hx : l[i]? = some x) (hy : y = x ∨ y ∉ l) : (l.set i y).Nodup := by
  have hi := lt_of_at hx
  rw [List.nodup_iff_pairwise_ne, List.pairwise_iff_getElem]
  intro a b ha hb hab e
  have h1 : (l.set i y)[a]? = some ((l.set i y)[a]) := List.getElem?_eq_getElem ha
  have h2 : (l.set i y)[b]? = some ((l.set i y)[b]) := List.getElem?_eq_getElem hb
  rw [← e] at h2
  rcases set_at hi h1 with ⟨e1, e2⟩ | ⟨e1, e2⟩ <;> rcases set_at hi h2 with ⟨e3, e4⟩ | ⟨e3, e4⟩
  · omega
  · rw [e2] at e4
    rcases hy with g | g
    · rw [g] at e4
      exact e3 (nodup_at h e4 hx)
    · exact g (List.mem_of_getElem? e4)
  · rw [e4] at e2
    rcases hy with g | g
    · rw [g] at e2
      exact e1 (nodup_at h e2 hx)
    · exact g (List.mem_of_getElem? e2)
  · have := nodup_at h e2 e4
    omega
/-- one view is changed -/
theorem VsAt.put {CV : Addr} {H H' : Hp} {ps ts : List Addr} {vs : List View} {zs : List Nat} (h : VsAt CV H ps ts vs zs) {i : Nat} {p t t' : Addr} {v' : View} {z' : Nat} (hi : i < vs.length) (hp : ps[i]? = some p) (ht : ts[i]? = some t)
    (e : VwAt CV H' p t' v' z') (tn : t' = t ∨ t' ∉ ts) (mv : ∀ b o, H b = some o → b ≠ p → b ≠ t → H' b = some o) : VsAt CV H' ps (ts.set i t') (vs.set i v') (zs.set i z') := by
  refine ⟨by rw [List.length_set]; exact h.pl, by rw [List.length_set, List.length_set]; exact h.tl, by rw [List.length_set, List.length_set]; exact h.zl, h.pn, nodup_set h.tn ht tn, fun j u hu => ?_⟩
  rcases set_at hi hu with ⟨e1, e2⟩ | ⟨e1, e2⟩
  · subst e1
    subst e2
    exact ⟨p, t', z', hp, set_same (by rw [h.tl]; exact hi), set_same (by rw [h.zl]; exact hi), e⟩
  · obtain ⟨p2, t2, z2, h1, h2, h3, ⟨dv, h4⟩, h5⟩ := h.at_ j u e2
    refine ⟨p2, t2, z2, h1, by rw [set_ne e1]; exact h2, by rw [set_ne e1]; exact h3, ⟨dv, mv _ _ h4 (fun g => e1 (nodup_at h.pn h1 (g ▸ hp))) ?_⟩, mv _ _ h5 ?_ (fun g => e1 (nodup_at h.tn h2 (g ▸ ht)))⟩
    · intro g
      obtain ⟨v3, t3, z3, _, h6, _, _, h7⟩ := h.byP hp
      rw [ht] at h6
      cases h6
      rw [g, h7] at h4
      cases h4
    · intro g
      obtain ⟨v3, t3, z3, _, _, _, ⟨dv3, h7⟩, _⟩ := h.byP hp
      rw [g, h7] at h5
      cases h5

/-- whether a view can be trusted so much -/
def okTrust (t : Nat) : Bool := decide (1 ≤ t ∧ t ≤ 100)
theorem okTrust_no {t : Nat} : okTrust t = false ↔ t < 1 ∨ 100 < t := by
  unfold okTrust
  rw [decide_eq_false_iff_not]; omega
def spIsTrust : Sp := fun us H Q _ => ∃ t : Nat, us = [.int t] ∧ Q (.bl (okTrust t)) H
section
variable {P : Program} {w : World} {K : PySem.W.Frag} {mg : Str → Option Value} {base : Heap} {CS CV : Addr}
abbrev s_put_table : Stmt := top 21
theorem sc_put_table : FnScope ["state", "place", "row", "view"] ["state", "place", "row"] (defScope s_put_table) := ⟨rfl, rfl, rfl, by decide +kernel, rfl, by decide +kernel, by decide +kernel⟩
theorem ok_put_table {f fi : Addr} {fd fdi : FuncData} (F : Fun K "put_table" "put_table" s_put_table f fd) (T : Txt K mg CS CV) (c_is_table : Cal P w K mg base "is_table" 1 ["view", "row"] (spIsTable CV) fi fdi) : FnOk P w K mg base CX0 2 f fd ["state", "place", "row"] (spCT CS CV) := by
  refine F.ok sc_put_table (fun vs H Q E h => ?_) (fun cdv A outer s H vs Q E hr h => ?_)
  · obtain ⟨a, q, n, vs, zs, ft, i, row, rfl, _⟩ := h; rfl
  obtain ⟨a, q, n, vs, zs, ft, i, row, rfl, hq, SA, qf, W, hi, hrow, k⟩ := h
  refine ⟨_, (pss_cons (ps_if (pt_cmpR op_ge (pv 1) (pe_callB call_len_seq (by rfl) T.len (by decide +kernel) (pa_cons (pe_fld (pv 0) rfl) pa_nil)) (nomark _)) (pss_one (ps_ret (pe_lst (pa_cons (pe_glob (v := .int (-2)) rfl T.g_NO_VIEW.choose_spec ⟨_, rfl⟩) pa_nil)))) pss_nil)
        (pss_cons (ps_set (i := 3) sc_put_table.nd rfl (Or.inl rfl) (pe_ix (r := rIxL K) ix_list (pe_fld (pv 0) rfl) (pv 1) (fun _ _ => rfl)))
        (pss_cons (ps_if (pt_not (pt_val (pe_call c_is_table.ok (hr.mono (by decide)) rfl c_is_table.mg c_is_table.kp c_is_table.b .nil pass0 (pa_cons (pv 3) (pa_cons (pv 2) pa_nil))))) (pss_one (ps_ret (pe_lst (pa_cons (pe_glob (v := .int (-22)) rfl T.g_WRONG.choose_spec ⟨_, rfl⟩) pa_nil)))) pss_nil)
        (pss_cons (ps_fld (pv 3) (pe_callTy call_list_of (by rfl) T.list (by decide +kernel) (pa_cons (pv 2) pa_nil)) rfl)
        (pss_one (ps_ret (pe_lst (pa_cons pe_int pa_nil)))))))), ?_⟩
  obtain ⟨dx, l, ps, ts, S, eft⟩ := id SA
  refine ⟨_, rfl, _, rfl, a, CS, dx, _, _, rfl, S.sa, T.clS, T.sV, rfl, l, _, rfl, .inl (SqL.of S.sl), _, _, rfl, rfl, _, rfl, ?_⟩
  rw [List.length_map, S.V.pl]
  refine ite2 (fun c => ?_) (fun c => ?_)
  · have c' : vs.length ≤ i := by have := of_decide_eq_true c; omega
    unfold fTable at k
    rw [if_pos c'] at k
    exact ⟨by show 1 ≤ sizeLine; decide, fun p hp => Makes.asked SA k (Same.refl H) hp rfl⟩
  have c' : ¬ vs.length ≤ i := fun g => c (decide_eq_true (by omega))
  unfold fTable at k
  rw [if_neg c'] at k
  have hi' : i < vs.length := by omega
  have hv : vs[i]? = some vs[i] := List.getElem?_eq_getElem hi'
  obtain ⟨p, t, z, h1, h2, h3, ⟨dv, h4⟩, h5⟩ := S.V.at_ i vs[i] hv
  rw [getD_at hv] at k
  have ov := (W.v vs[i] (List.getElem_mem hi')).ok
  have tpos : 0 < (vs[i]).table.length := by rw [ov.1]; exact Nat.pow_pos (by omega)
  refine ⟨_, rfl, a, CS, dx, _, _, rfl, S.sa, T.clS, T.sV, rfl, _, rfl, l, _, _, _, rfl, rfl, SqL.of S.sl, at_ref h1, ?_⟩
  refine ⟨_, rfl, _, rfl, p, t, q, vs[i], z, row, rfl, ⟨⟨dv, h4⟩, h5⟩, hq, tpos, _, rfl, ?_⟩
  cases ct : okTable vs[i] row with
  | false =>
    rw [ct, if_neg Bool.false_ne_true] at k
    exact ⟨by show 1 ≤ sizeLine; decide, fun p hp => Makes.asked SA k (Same.refl H) hp rfl⟩
  | true =>
    rw [ct, if_pos rfl] at k
    refine ⟨_, rfl, q, _, rfl, .inl (SqL.of hq), fun t' ht' => ?_⟩
    have ntp : t' ≠ p := fun g => by rw [g, h4] at ht'; cases ht'
    refine ⟨_, rfl, p, CV, dv, _, rfl, (upd_ne ntp.symm).trans h4, T.clV, T.vT, (by show 3 < 1000; decide), ?_⟩
    refine ⟨by show 1 ≤ sizeLine; decide, fun r hr0 => ?_⟩
    have nrp : r ≠ p := fun g => by rw [g, upd_same] at hr0; cases hr0
    have nrt : r ≠ t' := fun g => by rw [g, upd_ne ntp, upd_same] at hr0; cases hr0
    have hr1 : H r = none := by rw [upd_ne nrp, upd_ne nrt] at hr0; exact hr0
    have mv : ∀ o1 o2 o3 b o, H b = some o → b ≠ p → upd (upd (upd H t' o1) p o2) r o3 b = some o := fun o1 o2 o3 b o e nb => by
      rw [upd_ne (ne_of_none e hr1), upd_ne nb, upd_ne (ne_of_none e ht')]; exact e
    have tts : t' ∉ ts := fun g => by
      obtain ⟨o, ho⟩ := S.V.tracked (List.mem_append_right ps g)
      rw [ht'] at ho; cases ho
    have npa : a ≠ p := fun g => by
      have := S.sa
      rw [g, h4] at this
      have e := HO.ins.inj (Option.some.inj this)
      have e2 := congrArg List.length e.2.2
      exact absurd e2 (by show (3 : Nat) ≠ 2; decide)
    have npl : l ≠ p := ne_of S.sl h4 (by intro g; cases g)
    have V2 := S.V.put (H' := upd (upd (upd H t' (HO.lst (nV row))) p (HO.ins CV dv (vF (numOf (vs[i]).qs) t' z))) r (HO.lst [V.int 0])) (t' := t') (v' := { vs[i] with table := row }) (z' := z) hi' h1 h2 ⟨⟨dv, by rw [upd_ne nrp.symm]; exact upd_same⟩, by rw [upd_ne nrt.symm, upd_ne ntp]; exact upd_same⟩ (Or.inr tts) (fun b o e n1 _ => mv _ _ _ b o e n1)
    have ez : zs.set i z = zs := by
      apply List.ext_getElem?
      intro j
      rw [List.getElem?_set]
      by_cases g : i = j
      · rw [if_pos g]; subst g; rw [if_pos (lt_of_at h3)]; exact h3.symm
      · rw [if_neg g]
    rw [ez] at V2
    have efl : ∀ b ∈ foot a l ps (ts.set i t'), b ∈ ft ∨ H b = none := fun b hb => by
      subst eft
      unfold foot at hb ⊢
      rcases List.mem_cons.mp hb with g | g
      · exact Or.inl (by rw [g]; exact List.mem_cons_self)
      rcases List.mem_cons.mp g with g | g
      · exact Or.inl (by rw [g]; exact List.mem_cons_of_mem _ List.mem_cons_self)
      rcases List.mem_append.mp g with g | g
      · exact Or.inl (List.mem_cons_of_mem _ (List.mem_cons_of_mem _ (List.mem_append_left _ g)))
      · rcases List.mem_or_eq_of_mem_set g with g | g
        · exact Or.inl (List.mem_cons_of_mem _ (List.mem_cons_of_mem _ (List.mem_append_right _ g)))
        · exact Or.inr (g ▸ ht')
    refine k _ r (foot a l ps (ts.set i t')) ⟨dx, l, ps, ts.set i t', ⟨mv _ _ _ _ _ S.sa npa, mv _ _ _ _ _ S.sl npl, fun g => ?_, V2⟩, rfl⟩ ⟨fun b o e hb => ?_, efl⟩ hr1 (fun hb => ?_) upd_same
    · rcases List.mem_or_eq_of_mem_set g with g | g
      · exact S.lt g
      · have := S.sl
        rw [g, ht'] at this; cases this
    · subst eft
      exact mv _ _ _ _ _ e (fun g => hb (by
        rw [g]
        exact List.mem_cons_of_mem _ (List.mem_cons_of_mem _ (List.mem_append_left _ (List.mem_of_getElem? h1)))))
    · unfold foot at hb
      rcases List.mem_cons.mp hb with g | g
      · rw [g, S.sa] at hr1; cases hr1
      rcases List.mem_cons.mp g with g | g
      · rw [g, S.sl] at hr1; cases hr1
      rcases List.mem_append.mp g with g | g
      · obtain ⟨o, ho⟩ := S.V.tracked (List.mem_append_left ts g)
        rw [hr1] at ho; cases ho
      · rcases List.mem_or_eq_of_mem_set g with g | g
        · obtain ⟨o, ho⟩ := S.V.tracked (List.mem_append_right ps g)
          rw [hr1] at ho; cases ho
        · exact nrt g
abbrev s_tell_view : Stmt := top 23
theorem sc_tell_view : FnScope ["state", "place", "view"] ["state", "place"] (defScope s_tell_view) := ⟨rfl, rfl, rfl, by decide +kernel, rfl, by decide +kernel, by decide +kernel⟩
theorem ok_tell_view {f : Addr} {fd : FuncData} (F : Fun K "tell_view" "tell_view" s_tell_view f fd) (T : Txt K mg CS CV) : FnOk P w K mg base CX0 1 f fd ["state", "place"] (spC1 CS CV fTell) := by
  refine F.ok sc_tell_view (fun vs H Q E h => ?_) (fun cdv A outer s H vs Q E hr h => ?_)
  · obtain ⟨a, n, vs, zs, ft, i, rfl, _⟩ := h; rfl
  obtain ⟨a, n, vs, zs, ft, i, rfl, SA, W, hq, k⟩ := h
  refine ⟨_, (pss_cons (ps_if (pt_cmpR op_ge (pv 1) (pe_callB call_len_seq (by rfl) T.len (by decide +kernel) (pa_cons (pe_fld (pv 0) rfl) pa_nil)) (nomark _)) (pss_one (ps_ret (pe_lst (pa_cons (pe_glob (v := .int (-2)) rfl T.g_NO_VIEW.choose_spec ⟨_, rfl⟩) pa_nil)))) pss_nil)
        (pss_cons (ps_set (i := 2) sc_tell_view.nd rfl (Or.inl rfl) (pe_ix (r := rIxL K) ix_list (pe_fld (pv 0) rfl) (pv 1) (fun _ _ => rfl)))
        (pss_one (ps_ret (pe_op op_cat (pe_lst (pa_cons (pe_fld (pv 2) rfl) pa_nil)) (pe_fld (pv 2) rfl)))))), ?_⟩
  obtain ⟨dx, l, ps, ts, S, eft⟩ := id SA
  refine ⟨_, rfl, _, rfl, a, CS, dx, _, _, rfl, S.sa, T.clS, T.sV, rfl, l, _, rfl, .inl (SqL.of S.sl), _, _, rfl, rfl, _, rfl, ?_⟩
  rw [List.length_map, S.V.pl]
  refine ite2 (fun c => ?_) (fun c => ?_)
  · have c' : vs.length ≤ i := by have := of_decide_eq_true c; omega
    unfold fTell at k
    rw [if_pos c'] at k
    exact ⟨by show 1 ≤ sizeLine; decide, fun p hp => Makes.asked SA k (Same.refl H) hp rfl⟩
  have c' : ¬ vs.length ≤ i := fun g => c (decide_eq_true (by omega))
  unfold fTell at k
  rw [if_neg c'] at k
  have hi' : i < vs.length := by omega
  have hv : vs[i]? = some vs[i] := List.getElem?_eq_getElem hi'
  obtain ⟨p, t, z, h1, h2, h3, ⟨dv, h4⟩, h5⟩ := S.V.at_ i vs[i] hv
  rw [getD_at hv] at k
  have wv := W.v vs[i] (List.getElem_mem hi')
  have l8 : (vs[i]).table.length ≤ 8 := by rw [wv.ok.1]; exact wv.len8
  refine ⟨_, rfl, a, CS, dx, _, _, rfl, S.sa, T.clS, T.sV, rfl, _, rfl, l, _, _, _, rfl, rfl, SqL.of S.sl, at_ref h1, ?_⟩
  refine ⟨_, rfl, p, CV, dv, _, _, rfl, h4, T.clV, T.vA, rfl, (by show 1 ≤ sizeLine; decide), fun q hq => ?_⟩
  have nqp : q ≠ p := fun g => by rw [g, h4] at hq; cases hq
  have nqt : q ≠ t := fun g => by rw [g, h5] at hq; cases hq
  refine ⟨_, rfl, p, CV, dv, _, _, rfl, (upd_ne nqp.symm).trans h4, T.clV, T.vT, rfl, q, t, _, _, rfl, rfl, upd_same, (upd_ne nqt.symm).trans h5, ?_, fun r hr0 => ?_⟩
  · rw [nV_len]
    show 1 + (vs[i]).table.length ≤ sizeLine
    exact small' (by omega)
  refine Makes.asked SA k (same_new (Same.refl H) hq) hr0 ?_
  show [V.int (numOf (vs[i]).qs : Int)] ++ nV (vs[i]).table = V.int (numOf (vs[i]).qs : Int) :: aV ((vs[i]).table.map fun (x : Nat) => (x : Int))
  rw [nV_ints]; rfl
abbrev s_is_trust : Stmt := top 26
theorem sc_is_trust : FnScope ["trust"] ["trust"] (defScope s_is_trust) := ⟨rfl, rfl, rfl, by decide +kernel, rfl, by decide +kernel, by decide +kernel⟩
theorem ok_is_trust {f : Addr} {fd : FuncData} (F : Fun K "is_trust" "is_trust" s_is_trust f fd) (T : Txt K mg CS CV) : FnOk P w K mg base CX0 1 f fd ["trust"] spIsTrust := by
  refine F.ok sc_is_trust (fun vs H Q E h => ?_) (fun cdv A outer s H vs Q E hr h => ?_)
  · obtain ⟨t, rfl, _⟩ := h; rfl
  obtain ⟨t, rfl, k⟩ := h
  refine ⟨_, (pss_one (ps_ret (pe_and (pe_cmpR op_le pe_int (pv 0) (nomark _)) (pe_one (pe_cmpR op_le (pv 0) (pe_glob (v := .int (100)) rfl T.g_MOST_TRUST.choose_spec ⟨_, rfl⟩) (nomark _)))))), ?_⟩
  refine ⟨_, rfl, _, _, rfl, rfl, _, rfl, ?_⟩
  refine ite2 (fun c => ?_) (fun c => ?_)
  · have c' : 1 ≤ t := by have := of_decide_eq_true c; omega
    refine ⟨_, rfl, _, _, rfl, rfl, ?_⟩
    have e : okTrust t = decide ((t : Int) ≤ 100) := by
      unfold okTrust
      rw [Bool.eq_iff_iff, decide_eq_true_iff, decide_eq_true_iff]; omega
    rw [e] at k; exact k
  · have e : okTrust t = false := decide_eq_false fun g => c (decide_eq_true (by omega))
    rw [e] at k; exact k
abbrev s_put_trust : Stmt := top 25
theorem sc_put_trust : FnScope ["state", "place", "trust", "view", "before"] ["state", "place", "trust"] (defScope s_put_trust) := ⟨rfl, rfl, rfl, by decide +kernel, rfl, by decide +kernel, by decide +kernel⟩
theorem ok_put_trust {f fi : Addr} {fd fdi : FuncData} (F : Fun K "put_trust" "put_trust" s_put_trust f fd) (T : Txt K mg CS CV) (c_is_trust : Cal P w K mg base "is_trust" 1 ["trust"] spIsTrust fi fdi) : FnOk P w K mg base CX0 2 f fd ["state", "place", "trust"] (spC2 CS CV fTrust) := by
  refine F.ok sc_put_trust (fun vs H Q E h => ?_) (fun cdv A outer s H vs Q E hr h => ?_)
  · obtain ⟨a, n, vs, zs, ft, i, j, rfl, _⟩ := h; rfl
  obtain ⟨a, n, vs, zs, ft, i, j, rfl, SA, W, hi, hj, k⟩ := h
  refine ⟨_, (pss_cons (ps_if (pt_cmpR op_ge (pv 1) (pe_callB call_len_seq (by rfl) T.len (by decide +kernel) (pa_cons (pe_fld (pv 0) rfl) pa_nil)) (nomark _)) (pss_one (ps_ret (pe_lst (pa_cons (pe_glob (v := .int (-2)) rfl T.g_NO_VIEW.choose_spec ⟨_, rfl⟩) pa_nil)))) pss_nil)
        (pss_cons (ps_if (pt_not (pt_val (pe_call c_is_trust.ok (hr.mono (by decide)) rfl c_is_trust.mg c_is_trust.kp c_is_trust.b .nil pass0 (pa_cons (pv 2) pa_nil)))) (pss_one (ps_ret (pe_lst (pa_cons (pe_glob (v := .int (-22)) rfl T.g_WRONG.choose_spec ⟨_, rfl⟩) pa_nil)))) pss_nil)
        (pss_cons (ps_set (i := 3) sc_put_trust.nd rfl (Or.inl rfl) (pe_ix (r := rIxL K) ix_list (pe_fld (pv 0) rfl) (pv 1) (fun _ _ => rfl)))
        (pss_cons (ps_set (i := 4) sc_put_trust.nd rfl (Or.inl rfl) (pe_fld (pv 3) rfl))
        (pss_cons (ps_fld (pv 3) (pv 2) rfl)
        (pss_one (ps_ret (pe_lst (pa_cons (pv 4) pa_nil))))))))), ?_⟩
  obtain ⟨dx, l, ps, ts, S, eft⟩ := id SA
  refine ⟨_, rfl, _, rfl, a, CS, dx, _, _, rfl, S.sa, T.clS, T.sV, rfl, l, _, rfl, .inl (SqL.of S.sl), _, _, rfl, rfl, _, rfl, ?_⟩
  rw [List.length_map, S.V.pl]
  refine ite2 (fun c => ?_) (fun c => ?_)
  · have c' : vs.length ≤ i := by have := of_decide_eq_true c; omega
    unfold fTrust at k
    rw [if_pos c'] at k
    exact ⟨by show 1 ≤ sizeLine; decide, fun p hp => Makes.asked SA k (Same.refl H) hp rfl⟩
  have c' : ¬ vs.length ≤ i := fun g => c (decide_eq_true (by omega))
  unfold fTrust at k
  rw [if_neg c'] at k
  refine ⟨_, rfl, j, rfl, _, rfl, ?_⟩
  cases ct : okTrust j with
  | false =>
    rw [if_pos (okTrust_no.mp ct)] at k
    exact ⟨by show 1 ≤ sizeLine; decide, fun p hp => Makes.asked SA k (Same.refl H) hp rfl⟩
  | true =>
  rw [if_neg (fun g => by rw [okTrust_no.mpr g] at ct; cases ct)] at k
  have hi' : i < vs.length := by omega
  have hv : vs[i]? = some vs[i] := List.getElem?_eq_getElem hi'
  obtain ⟨p, t, z, h1, h2, h3, ⟨dv, h4⟩, h5⟩ := S.V.at_ i vs[i] hv
  rw [getD_at h3] at k
  refine ⟨_, rfl, a, CS, dx, _, _, rfl, S.sa, T.clS, T.sV, rfl, _, rfl, l, _, _, _, rfl, rfl, SqL.of S.sl, at_ref h1, ?_⟩
  refine ⟨_, rfl, p, CV, dv, _, _, rfl, h4, T.clV, T.vR, rfl, ?_⟩
  refine ⟨_, rfl, _, rfl, p, CV, dv, _, rfl, h4, T.clV, T.vR, (by show 3 < 1000; decide), ?_⟩
  refine ⟨_, rfl, (by show 1 ≤ sizeLine; decide), fun r hr0 => ?_⟩
  have nrp : r ≠ p := fun g => by rw [g, upd_same] at hr0; cases hr0
  have hr1 : H r = none := by rw [upd_ne nrp] at hr0; exact hr0
  have mv : ∀ o2 o3 b o, H b = some o → b ≠ p → upd (upd H p o2) r o3 b = some o := fun o2 o3 b o e nb => by
    rw [upd_ne (ne_of_none e hr1), upd_ne nb]; exact e
  have npa : a ≠ p := fun g => by
    have := S.sa
    rw [g, h4] at this
    have e := HO.ins.inj (Option.some.inj this)
    have e2 := congrArg List.length e.2.2
    exact absurd e2 (by show (3 : Nat) ≠ 2; decide)
  have npl : l ≠ p := ne_of S.sl h4 (by intro g; cases g)
  have ntp : t ≠ p := ne_of h5 h4 (by intro g; cases g)
  have V2 := S.V.put (H' := upd (upd H p (HO.ins CV dv (vF (numOf (vs[i]).qs) t j))) r (HO.lst [V.int (z : Int)])) (t' := t) (v' := vs[i]) (z' := j) hi' h1 h2 ⟨⟨dv, by rw [upd_ne nrp.symm]; exact upd_same⟩, mv _ _ _ _ h5 ntp⟩ (Or.inl rfl) (fun b o e n1 _ => mv _ _ b o e n1)
  have set_self : ∀ {α : Type} (m : List α) (x : α), m[i]? = some x → m.set i x = m := fun m x hx => by
    apply List.ext_getElem?
    intro j
    rw [List.getElem?_set]
    by_cases g : i = j
    · rw [if_pos g]; subst g; rw [if_pos (lt_of_at hx)]; exact hx.symm
    · rw [if_neg g]
  rw [set_self ts t h2, set_self vs vs[i] hv] at V2
  refine k _ r (foot a l ps ts) ⟨dx, l, ps, ts, ⟨mv _ _ _ _ S.sa npa, mv _ _ _ _ S.sl npl, S.lt, V2⟩, rfl⟩ (frame_in (fun b o e hb => ?_) (fun b hb => eft ▸ hb)) hr1 (fun hb => ?_) upd_same
  · subst eft
    exact mv _ _ _ _ e (fun g => hb (by
      rw [g]
      exact List.mem_cons_of_mem _ (List.mem_cons_of_mem _ (List.mem_append_left _ (List.mem_of_getElem? h1)))))
  · obtain ⟨o, ho⟩ := S.tracked hb
    rw [hr1] at ho; cases ho
end
end Dv
end
section
set_option Elab.async false
set_option maxRecDepth 100000
set_option maxHeartbeats 4000000
namespace Dv
open PySem PySem.Spec PyProof.Rows L2
open Kp351 (setOf View numOf total)

/-- another view stands in one's place -/
theorem VsAt.swap {CV : Addr} {H H' : Hp} {ps ts : List Addr} {vs : List View} {zs : List Nat} (h : VsAt CV H ps ts vs zs) {i : Nat} {p t : Addr} {v : View} {z : Nat} (hi : i < vs.length) (np : p ∉ ps) (nt : t ∉ ts) (e : VwAt CV H' p t v z) (s : Same H H') :
    VsAt CV H' (ps.set i p) (ts.set i t) (vs.set i v) (zs.set i z) := by
  have ip : i < ps.length := by rw [h.pl]; exact hi
  have it : i < ts.length := by rw [h.tl]; exact hi
  have iz : i < zs.length := by rw [h.zl]; exact hi
  refine ⟨by rw [List.length_set, List.length_set]; exact h.pl, by rw [List.length_set, List.length_set]; exact h.tl, by rw [List.length_set, List.length_set]; exact h.zl, nodup_set h.pn (List.getElem?_eq_getElem ip) (.inr np), nodup_set h.tn (List.getElem?_eq_getElem it) (.inr nt), fun j u hu => ?_⟩
  rcases set_at hi hu with ⟨e1, e2⟩ | ⟨e1, e2⟩
  · subst e1
    subst e2
    exact ⟨p, t, z, set_same ip, set_same it, set_same iz, e⟩
  · obtain ⟨p2, t2, z2, h1, h2, h3, h4⟩ := h.at_ j u e2
    exact ⟨p2, t2, z2, by rw [set_ne e1]; exact h1, by rw [set_ne e1]; exact h2, by rw [set_ne e1]; exact h3, h4.same s⟩
def spOther (CS CV : Addr) : Sp := fun us H Q _ => ∃ (a q : Addr) (n : Nat) (vs : List View) (zs : List Nat) (ft : List Addr) (i z : Nat) (row : List Nat), us = [.ref a, .int i, .ref q, .int z] ∧ H q = some (.lst (nV row)) ∧ StA CS CV H a n vs zs ft ∧ Wf n vs zs ∧ i < vs.length ∧
  ∀ (H' : Hp) (b : Addr) (fb : List Addr), Same H H' → StA CS CV H' b n (vs.set i { vs.getD i ⟨[], []⟩ with table := row }) (zs.set i z) fb → Q (.ref b) H'
section
variable {P : Program} {w : World} {K : PySem.W.Frag} {mg : Str → Option Value} {base : Heap} {CS CV : Addr}
abbrev s_with_other : Stmt := top 12
theorem sc_with_other : FnScope ["state", "place", "table", "trust", "view", "other"] ["state", "place", "table", "trust"] (defScope s_with_other) := ⟨rfl, rfl, rfl, by decide +kernel, rfl, by decide +kernel, by decide +kernel⟩
theorem ok_with_other {f f1 f2 : Addr} {fd fd1 fd2 : FuncData} (F : Fun K "with_other" "with_other" s_with_other f fd) (T : Txt K mg CS CV) (M_View : Mak P w K mg base "View" 2 ["self", "asked"] (spViewInit CV) CV f1 fd1)
    (M_State : Mak P w K mg base "State" 1 ["self"] (spStateInit CS) CS f2 fd2) : FnOk P w K mg base CX0 4 f fd ["state", "place", "table", "trust"] (spOther CS CV) := by
  refine F.ok sc_with_other (fun vs H Q E h => ?_) (fun cdv A outer s H vs Q E hr h => ?_)
  · obtain ⟨a, q, n, vs, zs, ft, i, z, row, rfl, _⟩ := h; rfl
  obtain ⟨a, q, n, vs, zs, ft, i, z, row, rfl, hq, SA, W, hi, k⟩ := h
  refine ⟨_, (pss_cons (ps_set (i := 4) sc_with_other.nd rfl (Or.inl rfl) (pe_make M_View.made M_View.ok (hr.mono (by decide)) rfl M_View.mg M_View.b .nil pass0 (pa_cons (pe_fld (pe_ix (r := rIxL K) ix_list (pe_fld (pv 0) rfl) (pv 1) (fun _ _ => rfl)) rfl) pa_nil)))
        (pss_cons (ps_fld (pv 4) (pe_callTy call_list_of (by rfl) T.list (by decide +kernel) (pa_cons (pv 2) pa_nil)) rfl)
        (pss_cons (ps_fld (pv 4) (pv 3) rfl)
        (pss_cons (ps_set (i := 5) sc_with_other.nd rfl (Or.inl rfl) (pe_make0 M_State.made M_State.ok (hr.mono (by decide)) rfl M_State.mg M_State.b .nil pass0))
        (pss_cons (ps_fld (pv 5) (pe_fld (pv 0) rfl) rfl)
        (pss_cons (ps_fld (pv 5) (pe_callTy call_list_of (by rfl) T.list (by decide +kernel) (pa_cons (pe_fld (pv 0) rfl) pa_nil)) rfl)
        (pss_cons (ps_asg (pv 4) (pg_sub (pe_fld (pv 5) rfl) (pv 1) set_list))
        (pss_one (ps_ret (pv 5)))))))))), ?_⟩
  obtain ⟨dx, l, ps, ts, S, eft⟩ := id SA
  have hv : vs[i]? = some vs[i] := List.getElem?_eq_getElem hi
  obtain ⟨p, t, z0, h1, h2, h3, ⟨dv, h4⟩, h5⟩ := S.V.at_ i vs[i] hv
  rw [getD_at hv] at k
  have a16 := W.a16 (List.getElem_mem hi)
  -- view = View(state.views[place].asked)
  refine ⟨_, rfl, a, CS, dx, _, _, rfl, S.sa, T.clS, T.sV, rfl, _, rfl, l, _, _, _, rfl, rfl, SqL.of S.sl, at_ref h1, p, CV, dv, _, _, rfl, h4, T.clV, T.vA, rfl, fun x xd nx nd ne => ?_⟩
  refine ⟨x, xd, numOf (vs[i]).qs, rfl, a16, upd_same, fun H1 t0 nt0 hx ht0 kp => ⟨rfl, ?_⟩⟩
  have s1 : Same H H1 := Same.made nx nd kp
  -- view.table = list(table)
  refine ⟨_, rfl, q, _, rfl, .inl (SqL.of (s1 _ _ hq)), fun t' ht' => ?_⟩
  have nt'x : t' ≠ x := fun g => by rw [g, hx] at ht'; cases ht'
  have t'0 : H t' = none := s1.free ht'
  refine ⟨_, rfl, x, CV, xd, _, rfl, (upd_ne nt'x.symm).trans hx, T.clV, T.vT, (by show 3 < 1000; decide), ?_⟩
  -- view.trust = trust
  refine ⟨_, rfl, _, rfl, x, CV, xd, _, rfl, upd_same, T.clV, T.vR, (by show 3 < 1000; decide), ?_⟩
  -- other = State()
  intro b bd nb nbd nbe
  refine ⟨b, bd, rfl, upd_same, fun H5 l5 nl5 hb hl5 kp5 => ⟨rfl, ?_⟩⟩
  have s4 : Same H (upd (upd (upd H1 t' (.lst (nV row))) x (.ins CV xd (vF (numOf (vs[i]).qs) t' 1))) x (.ins CV xd (vF (numOf (vs[i]).qs) t' z))) := same_keep (same_keep (same_keep s1 t'0) nx) nx
  have s45 : Same (upd (upd (upd H1 t' (.lst (nV row))) x (.ins CV xd (vF (numOf (vs[i]).qs) t' 1))) x (.ins CV xd (vF (numOf (vs[i]).qs) t' z))) H5 := Same.made nb nbd kp5
  have s5 : Same H H5 := s4.trans s45
  have b0 : H b = none := s4.free nb
  have S5 := S.same s5
  have nab : a ≠ b := fun g => by
    have := S.sa
    rw [g, b0] at this; cases this
  have nlb : l ≠ b := fun g => by
    have := S.sl
    rw [g, b0] at this; cases this
  -- other.questions = state.questions
  refine ⟨_, rfl, a, CS, dx, _, _, rfl, S5.sa, T.clS, T.sQ, rfl, _, rfl, b, CS, bd, _, rfl, hb, T.clS, T.sQ, (by show 2 < 1000; decide), ?_⟩
  -- other.views = list(state.views)
  refine ⟨_, rfl, a, CS, dx, _, _, rfl, (upd_ne nab).trans S5.sa, T.clS, T.sV, rfl, l, _, rfl, .inl (SqL.of ((upd_ne nlb).trans S5.sl)), fun l' hl' => ?_⟩
  have nl'b : l' ≠ b := fun g => by rw [g, upd_same] at hl'; cases hl'
  have l'5 : H5 l' = none := by rw [upd_ne nl'b] at hl'; exact hl'
  have l'0 : H l' = none := s5.free l'5
  refine ⟨_, rfl, b, CS, bd, _, rfl, (upd_ne nl'b.symm).trans upd_same, T.clS, T.sV, (by show 2 < 1000; decide), ?_⟩
  -- other.views[place] = view
  refine ⟨_, rfl, _, rfl, b, CS, bd, _, _, rfl, upd_same, T.clS, T.sV, rfl, _, rfl, l', _, _, i, rfl, rfl, (upd_ne nl'b).trans upd_same, ?_, ?_⟩
  · rw [List.length_map, S.V.pl]
    have six := W.six
    unfold ixN
    rw [if_pos (by omega), if_pos (by omega)]; rfl
  refine ⟨_, rfl, ?_⟩
  have x0 : H x = none := nx
  have eset : (ps.map V.ref).set i (V.ref x) = (ps.set i x).map V.ref := by rw [List.map_set]
  rw [eset]
  have hx4 : (upd (upd (upd H1 t' (.lst (nV row))) x (.ins CV xd (vF (numOf (vs[i]).qs) t' 1))) x (.ins CV xd (vF (numOf (vs[i]).qs) t' z))) x = some (.ins CV xd (vF (numOf (vs[i]).qs) t' z)) := upd_same
  have ht4 : (upd (upd (upd H1 t' (.lst (nV row))) x (.ins CV xd (vF (numOf (vs[i]).qs) t' 1))) x (.ins CV xd (vF (numOf (vs[i]).qs) t' z))) t' = some (.lst (nV row)) := by
    rw [upd_ne nt'x, upd_ne nt'x, upd_same]
  have hx5 := s45 _ _ hx4
  have ht5 := s45 _ _ ht4
  have xb : x ≠ b := ne_of_none hx4 nb
  have tb : t' ≠ b := ne_of_none ht4 nb
  have xl' : x ≠ l' := ne_of_none hx5 l'5
  have tl' : t' ≠ l' := ne_of_none ht5 l'5
  have sE : ∀ o1 o2 o3 o4, Same H (upd (upd (upd (upd H5 b o1) l' o2) b o3) l' o4) := fun o1 o2 o3 o4 => same_keep (same_keep (same_keep (same_keep s5 b0) l'0) b0) l'0
  have tts : t' ∉ ts := fun g => by
    obtain ⟨o, ho⟩ := S.V.tracked (List.mem_append_right ps g)
    rw [t'0] at ho; cases ho
  have xps : x ∉ ps := fun g => by
    obtain ⟨o, ho⟩ := S.V.tracked (List.mem_append_left ts g)
    rw [x0] at ho; cases ho
  refine k _ b (foot b l' (ps.set i x) (ts.set i t')) (sE _ _ _ _) ⟨bd, l', ps.set i x, ts.set i t', ⟨?_, upd_same, fun g => ?_, S.V.swap hi xps tts ⟨⟨xd, ?_⟩, ?_⟩ (sE _ _ _ _)⟩, rfl⟩
  · exact (upd_ne nl'b.symm).trans upd_same
  · rcases List.mem_or_eq_of_mem_set g with g | g
    · obtain ⟨o, ho⟩ := S.V.tracked (List.mem_append_right ps g)
      rw [l'0] at ho; cases ho
    · exact tl' g.symm
  · rw [upd_ne xl', upd_ne xb, upd_ne xl', upd_ne xb]; exact hx5
  · rw [upd_ne tl', upd_ne tb, upd_ne tl', upd_ne tb]; exact ht5
end
end Dv
end
section
set_option Elab.async false
set_option maxRecDepth 100000
set_option maxHeartbeats 4000000
namespace Dv
open PySem PySem.Spec PyProof.Rows L2
open Kp351 (setOf View numOf total rowOf)

theorem map_take_snoc {α : Type} {f : α → α} {l : List α} {i : Nat} {x : α} (h : l[i]? = some x) : ((l.take i).map f ++ l.drop i).set i (f x) = (l.take (i + 1)).map f ++ l.drop (i + 1) := by
  have hi := lt_of_at h
  have e1 : l.drop i = x :: l.drop (i + 1) := by
    rw [List.drop_eq_getElem_cons hi]
    congr 1
    exact (List.getElem?_eq_some_iff.mp h).2
  rw [take_snoc h, e1, List.map_append, List.append_assoc]
  rw [List.set_append_right _ _ (by rw [List.length_map, List.length_take]; omega)]
  rw [List.length_map, List.length_take, show i - min i l.length = 0 by omega]
  rfl
theorem map_take_at {α : Type} {f : α → α} {l : List α} {i : Nat} {x : α} (h : l[i]? = some x) : ((l.take i).map f ++ l.drop i)[i]? = some x := by
  have hi := lt_of_at h
  rw [List.getElem?_append_right (by rw [List.length_map, List.length_take]; omega), List.length_map, List.length_take, List.getElem?_drop, show i + (i - min i l.length) = i by omega]
  exact h
theorem map_take_len {α : Type} {f : α → α} {l : List α} {i : Nat} (hi : i ≤ l.length) : ((l.take i).map f ++ l.drop i).length = l.length := by
  rw [List.length_append, List.length_map, List.length_take, List.length_drop]; omega
theorem nV_set (l : List Nat) (j x : Nat) : (nV l).set j (V.int (x : Int)) = nV (l.set j x) := by unfold nV; rw [List.map_set]

section
variable {P : Program} {w : World} {K : PySem.W.Frag} {mg : Str → Option Value} {base : Heap} {CS CV : Addr}
abbrev s_see_world : Stmt := top 24
theorem sc_see_world : FnScope ["state", "world", "view", "row"] ["state", "world"] (defScope s_see_world) := ⟨rfl, rfl, rfl, by decide +kernel, rfl, by decide +kernel, by decide +kernel⟩
theorem ok_see_world {f fs : Addr} {fd fds : FuncData} (F : Fun K "see_world" "see_world" s_see_world f fd) (T : Txt K mg CS CV) (c_shown_row : Cal P w K mg base "shown_row" 2 ["world", "asked"] spShown fs fds) : FnOk P w K mg base CX0 3 f fd ["state", "world"] (spC1 CS CV fSee) := by
  refine F.ok sc_see_world (fun vs H Q E h => ?_) (fun cdv A outer s H vs Q E hr h => ?_)
  · obtain ⟨a, n, vs, zs, ft, i, rfl, _⟩ := h; rfl
  obtain ⟨a, n, vs, zs, ft, x, rfl, SA, W, hq, k⟩ := h
  refine ⟨_, (pss_cons (ps_if (pt_cmpR op_ge (pv 1) (pe_op op_shl pe_int (pe_fld (pv 0) rfl)) (nomark _)) (pss_one (ps_ret (pe_lst (pa_cons (pe_glob (v := .int (-22)) rfl T.g_WRONG.choose_spec ⟨_, rfl⟩) pa_nil)))) pss_nil)
        (pss_cons (ps_for PassesOwn.never rfl (pi_list (pe_fld (pv 0) rfl)) (pg_name (i := 2) sc_see_world.nd rfl (Or.inl rfl)) (pss_cons (ps_set (i := 3) sc_see_world.nd rfl (Or.inl rfl) (pe_call c_shown_row.ok (hr.mono (by decide)) rfl c_shown_row.mg c_shown_row.kp c_shown_row.b .nil pass0 (pa_cons (pv 1) (pa_cons (pe_fld (pv 2) rfl) pa_nil))))
          (pss_one (ps_asg (pe_callB (call_min2 rfl) (by rfl) T.min (by decide +kernel) (pa_cons (pe_op op_add (pe_ix (r := rIxL K) ix_list (pe_fld (pv 2) rfl) (pv 3) (fun _ _ => rfl)) pe_int) (pa_cons (pe_glob (v := .int (100)) rfl T.g_MOST_SEEN.choose_spec ⟨_, rfl⟩) pa_nil))) (pg_sub (pe_fld (pv 2) rfl) (pv 3) set_list)))))
        (pss_one (ps_ret (pe_lst (pa_cons (pe_callB call_len_seq (by rfl) T.len (by decide +kernel) (pa_cons (pe_fld (pv 0) rfl) pa_nil)) pa_nil)))))), ?_⟩
  obtain ⟨dx, l, ps, ts, S, eft⟩ := id SA
  have n4 := W.n4
  refine ⟨_, rfl, _, rfl, a, CS, dx, _, _, rfl, S.sa, T.clS, T.sQ, rfl, _, _, rfl, rfl, ⟨by omega, by omega, by decide⟩, _, _, rfl, rfl, _, rfl, ?_⟩
  rw [shl_pow]
  unfold fSee at k
  refine ite2 (fun c => ?_) (fun c => ?_)
  · have c' : 2 ^ n ≤ x := by have := of_decide_eq_true c; omega
    rw [if_pos c'] at k
    exact ⟨by show 1 ≤ sizeLine; decide, fun p hp => Makes.asked SA k (Same.refl H) hp rfl⟩
  have c' : ¬ 2 ^ n ≤ x := fun g => c (decide_eq_true (by omega))
  rw [if_neg c'] at k
  have h16 : 2 ^ n ≤ 2 ^ 4 := Nat.pow_le_pow_right (by omega) (by omega)
  refine ⟨_, rfl, a, CS, dx, _, _, rfl, S.sa, T.clS, T.sV, rfl, l, rfl, ⟨_, SqL.of S.sl⟩, ?_⟩
  refine for_list (K := K) (a := l) (xs := ps.map V.ref) (fun i σ H' => ∃ u v : Option V, σ = [some (.ref a), some (.int x), u, v] ∧ StF CS CV H' a n ((vs.take i).map (seen1 x) ++ vs.drop i) zs dx l ps ts ∧ (∀ b o, H b = some o → b ∉ ft → H' b = some o))
    ⟨none, none, rfl, S, fun b o e _ => e⟩ (fun i σ H' _ ⟨_, _, _, S', _⟩ => SqL.of S'.sl) ?_ ?_
  · rintro i y σ H' hi ⟨u, v0, rfl, S', fr⟩
    obtain ⟨p, hp, rfl⟩ := refs_at hi
    obtain ⟨v, t, z, h1, h2, h3, ⟨dv, h4⟩, h5⟩ := S'.V.byP hp
    have hil : i < vs.length := by rw [← S.V.pl]; exact lt_of_at hp
    have hv : vs[i]? = some vs[i] := List.getElem?_eq_getElem hil
    have ev : v = vs[i] := Option.some.inj (h1.symm.trans (map_take_at (f := seen1 x) hv))
    have wv := W.v vs[i] (List.getElem_mem hil)
    refine ⟨_, rfl, _, rfl, p, CV, dv, _, _, rfl, h4, T.clV, T.vA, rfl, ?_⟩
    refine ⟨x, _, rfl, by omega, by rw [ev]; exact wv.a16, fun H1 s1 => ?_⟩
    subst ev
    rw [← wv.q]
    have hrow : rowOf x (vs[i]).qs < (vs[i]).table.length := by rw [wv.ok.1]; exact Sh.rowOf_lt _ _
    have hat : (nV (vs[i]).table)[rowOf x (vs[i]).qs]? = some (V.int ((vs[i]).table.getD (rowOf x (vs[i]).qs) 0 : Int)) := by
      unfold nV
      rw [List.getElem?_map, List.getElem?_eq_getElem hrow, List.getD_eq_getElem?_getD, List.getElem?_eq_getElem hrow]; rfl
    refine ⟨_, rfl, p, CV, dv, _, _, rfl, s1 _ _ h4, T.clV, T.vT, rfl, _, rfl, t, _, _, _, rfl, rfl, SqL.of (s1 _ _ h5), atI_nat hat, _, _, rfl, rfl, _, _, rfl, ?_⟩
    refine ⟨_, rfl, p, CV, dv, _, _, rfl, s1 _ _ h4, T.clV, T.vT, rfl, _, rfl, t, _, _, rowOf x (vs[i]).qs, rfl, rfl, s1 _ _ h5, ?_, ?_⟩
    · rw [nV_len]
      unfold ixN
      rw [if_pos (by omega), if_pos (by omega)]; rfl
    have emin : (if (100 : Int) < ((vs[i]).table.getD (rowOf x (vs[i]).qs) 0 : Int) + 1 then (100 : Int) else ((vs[i]).table.getD (rowOf x (vs[i]).qs) 0 : Int) + 1) = ((min ((vs[i]).table.getD (rowOf x (vs[i]).qs) 0 + 1) 100 : Nat) : Int) := by
      split <;> omega
    rw [emin, nV_set]
    have S1 := S'.same s1
    have nlt : l ≠ t := fun g => S1.lt (g ▸ List.mem_of_getElem? h2)
    have nat : a ≠ t := ne_of S1.sa (s1 _ _ h5) (by intro g; cases g)
    have npt : p ≠ t := ne_of (s1 _ _ h4) (s1 _ _ h5) (by intro g; cases g)
    have V2 := S1.V.put (H' := upd H1 t (HO.lst (nV ((vs[i]).table.set (rowOf x (vs[i]).qs) (min ((vs[i]).table.getD (rowOf x (vs[i]).qs) 0 + 1) 100))))) (t' := t) (v' := seen1 x vs[i]) (z' := z) (by rw [map_take_len (by omega)]; exact hil) hp h2 ⟨⟨dv, (upd_ne npt).trans (s1 _ _ h4)⟩, upd_same⟩ (Or.inl rfl) (fun b o e _ n2 => by rw [upd_ne n2]; exact e)
    have set_self : ∀ {α : Type} (m : List α) (x : α), m[i]? = some x → m.set i x = m := fun m x hx => by
      apply List.ext_getElem?
      intro j
      rw [List.getElem?_set]
      by_cases g : i = j
      · rw [if_pos g]; subst g; rw [if_pos (lt_of_at hx)]; exact hx.symm
      · rw [if_neg g]
    rw [set_self ts t h2, set_self zs z h3, map_take_snoc hv] at V2
    refine ⟨_, _, rfl, ⟨(upd_ne nat).trans S1.sa, (upd_ne nlt).trans S1.sl, S1.lt, V2⟩, fun b o e hb => ?_⟩
    have nb : b ≠ t := fun g => hb (by
      rw [eft, g]
      exact List.mem_cons_of_mem _ (List.mem_cons_of_mem _ (List.mem_append_right _ (List.mem_of_getElem? h2))))
    rw [upd_ne nb]; exact s1 _ _ (fr _ _ e hb)
  · rintro σ H' ⟨u, v, rfl, S', fr⟩
    rw [List.length_map, S.V.pl, take_all, List.drop_length, List.append_nil] at S'
    refine ⟨_, rfl, a, CS, dx, _, _, rfl, S'.sa, T.clS, T.sV, rfl, l, _, rfl, .inl (SqL.of S'.sl), (by show 1 ≤ sizeLine; decide), fun p hp => ?_⟩
    have hp0 : H p = none := by
      cases e : H p with
      | none => rfl
      | some o =>
        by_cases g : p ∈ ft
        · subst eft
          obtain ⟨o2, h2⟩ := S'.tracked g
          rw [hp] at h2; cases h2
        · rw [fr _ _ e g] at hp; cases hp
    refine k _ p ft ⟨dx, l, ps, ts, S'.same (same_new (Same.refl H') hp), eft⟩ (frame_in (fun b o e hb => ?_) (fun b hb => hb)) hp0 (fun hb => ?_) ?_
    · rw [upd_ne (ne_of_none e hp0)]; exact fr _ _ e hb
    · obtain ⟨o, ho⟩ := SA.tracked hb
      rw [hp0] at ho; cases ho
    · rw [upd_same]
      show some (HO.lst [V.int ((ps.map V.ref).length : Int)]) = some (HO.lst [V.int (vs.length : Int)])
      rw [List.length_map, S.V.pl]
end
end Dv
end
section
set_option Elab.async false
set_option maxRecDepth 100000
set_option maxHeartbeats 4000000
set_option exponentiation.threshold 2000
namespace Dv
open PySem PySem.Spec PyProof.Rows L2
open Sv (Rows lastOf)

theorem aV_len (l : List Int) : (aV l).length = l.length := List.length_map _
theorem aV_at {l : List Int} {i : Nat} {y : V} (h : (aV l)[i]? = some y) : ∃ x, l[i]? = some x ∧ y = V.int x := by
  unfold aV at h
  rw [List.getElem?_map] at h
  cases e : l[i]? with
  | none => rw [e] at h; cases h
  | some x => rw [e] at h; exact ⟨x, rfl, (Option.some.inj h).symm⟩
theorem at_aV {l : List Int} {i : Nat} (h : i < l.length) : atI (aV l) (i : Int) = some (V.int (l.getD i 0)) := by
  refine atI_nat ?_
  unfold aV
  rw [List.getElem?_map, List.getElem?_eq_getElem h, List.getD_eq_getElem?_getD, List.getElem?_eq_getElem h]; rfl
theorem at_neg {α : Type} {xs : List α} {v : α} (h : xs[xs.length - 1]? = some v) : atI xs (-1) = some v := by
  have hl : 0 < xs.length := Nat.lt_of_le_of_lt (Nat.zero_le _) (lt_of_at h)
  unfold atI ixN
  rw [if_neg (by omega), if_pos (by omega)]
  show xs[(-1 + (xs.length : Int)).toNat]? = some v
  rw [show (-1 + (xs.length : Int)).toNat = xs.length - 1 by omega]
  exact h
theorem at_last {l : List Int} (h : 0 < l.length) : atI (aV l) (-1) = some (V.int (lastOf l)) := by
  refine at_neg ?_
  unfold aV lastOf
  rw [List.length_map, List.getElem?_map, List.getElem?_eq_getElem (by omega), List.getD_eq_getElem?_getD, List.getElem?_eq_getElem (by omega)]; rfl

/-- rows of numbers, in a list at l -/
structure RowsAt (H : Hp) (l : Addr) (rs : List Addr) (rows : Rows) : Prop where
  lst : H l = some (.lst (rs.map V.ref))
  len : rs.length = rows.length
  at_ : ∀ (i : Nat) (row : List Int), rows[i]? = some row → ∃ r, rs[i]? = some r ∧ H r = some (.lst (aV row))
theorem RowsAt.same {H H' : Hp} {l : Addr} {rs : List Addr} {rows : Rows} (h : RowsAt H l rs rows) (s : Same H H') : RowsAt H' l rs rows :=
  ⟨s _ _ h.lst, h.len, fun i row e => by
    obtain ⟨r, h1, h2⟩ := h.at_ i row e
    exact ⟨r, h1, s _ _ h2⟩⟩
theorem RowsAt.row {H : Hp} {l : Addr} {rs : List Addr} {rows : Rows} (h : RowsAt H l rs rows) {i : Nat} (hi : i < rows.length) : ∃ r, rs[i]? = some r ∧ H r = some (.lst (aV (rows.getD i []))) := by
  obtain ⟨r, h1, h2⟩ := h.at_ i rows[i] (List.getElem?_eq_getElem hi)
  refine ⟨r, h1, ?_⟩
  rw [List.getD_eq_getElem?_getD, List.getElem?_eq_getElem hi]; exact h2
theorem RowsAt.last {H : Hp} {l : Addr} {rs : List Addr} {rows : Rows} (h : RowsAt H l rs rows) (hi : 0 < rows.length) : ∃ r, atI (rs.map V.ref) (-1) = some (V.ref r) ∧ H r = some (.lst (aV (rows.getD (rows.length - 1) []))) := by
  obtain ⟨r, h1, h2⟩ := h.row (i := rows.length - 1) (by omega)
  refine ⟨r, at_neg ?_, h2⟩
  rw [List.length_map, h.len, List.getElem?_map, h1]; rfl

def Small (z : Int) : Prop := z.natAbs < 2 ^ 1140
/-- m + 1 rows of n + 1 numbers each, none great -/
structure Shape (rows : Rows) (m n : Nat) : Prop where
  rl : rows.length = m + 1
  cl : ∀ p, p ≤ m → (rows.getD p []).length = n + 1
  sm : ∀ p, p ≤ m → ∀ x, x ≤ n → Small (Sv.T rows p x)
theorem Shape.last {rows : Rows} {m n : Nat} (S : Shape rows m n) {p : Nat} (hp : p ≤ m) : lastOf (rows.getD p []) = Sv.T rows p n := by
  unfold lastOf Sv.T; rw [S.cl p hp]; rfl
theorem small_mul {x y : Int} (hx : Small x) (hy : Small y) : CMulW x y := wide_mul hx hy (by decide) (by decide) (by decide)

def optV : Option Nat → V
  | none => .non
  | some c => .int (c : Int)
def spTighter : Sp := fun us H Q _ => ∃ (l hl : Addr) (rs : List Addr) (rows : Rows) (holders : List Int) (m n c p o : Nat), us = [.ref l, .ref hl, .int c, .int p, .int o] ∧ RowsAt H l rs rows ∧ Shape rows m n ∧ H hl = some (.lst (aV holders)) ∧ holders.length = m ∧ c ≤ n ∧ p < m ∧ o < m ∧ Q (.bl (Sv.tighter rows holders c p o)) H
def spFirst : Sp := fun us H Q _ => ∃ (r : Addr) (row : List Int), us = [.ref r] ∧ H r = some (.lst (aV row)) ∧ 0 < row.length ∧ row.length ≤ 100 ∧ Q (optV (Sv.firstAbove row)) H
def spTightest : Sp := fun us H Q _ => ∃ (l hl : Addr) (rs : List Addr) (rows : Rows) (holders : List Int) (m n c : Nat), us = [.ref l, .ref hl, .int c] ∧ RowsAt H l rs rows ∧ Shape rows m n ∧ H hl = some (.lst (aV holders)) ∧ holders.length = m ∧ m ≤ 100 ∧ c ≤ n ∧ Q (optV (Sv.tightest rows holders c)) H

section
variable {P : Program} {w : World} {K : PySem.W.Frag} {mg : Str → Option Value} {base : Heap} {CS CV : Addr}
abbrev s_is_tighter : Stmt := top 32
theorem sc_is_tighter : FnScope ["rows", "holders", "column", "place", "other", "here", "there"] ["rows", "holders", "column", "place", "other"] (defScope s_is_tighter) := ⟨rfl, rfl, rfl, by decide +kernel, rfl, by decide +kernel, by decide +kernel⟩
theorem ok_is_tighter {f : Addr} {fd : FuncData} (F : Fun K "is_tighter" "is_tighter" s_is_tighter f fd) : FnOk P w K mg base CX0 1 f fd ["rows", "holders", "column", "place", "other"] spTighter := by
  refine F.ok sc_is_tighter (fun vs H Q E h => ?_) (fun cdv A outer s H vs Q E hr h => ?_)
  · obtain ⟨l, hl, rs, rows, holders, m, n, c, p, o, rfl, _⟩ := h; rfl
  obtain ⟨l, hl, rs, rows, holders, m, n, c, p, o, rfl, R, S, hh, hm, hc, hp, ho, k⟩ := h
  refine ⟨_, (pss_cons (ps_set (i := 5) sc_is_tighter.nd rfl (Or.inl rfl) (pe_op op_mulW (pe_ix (r := rIxL K) ix_list (pe_ix (r := rIxL K) ix_list (pv 0) (pv 3) (fun _ _ => rfl)) (pe_un un_neg pe_int) (fun _ _ => rfl)) (pe_ix (r := rIxL K) ix_list (pe_ix (r := rIxL K) ix_list (pv 0) (pv 4) (fun _ _ => rfl)) (pv 2) (fun _ _ => rfl))))
        (pss_cons (ps_set (i := 6) sc_is_tighter.nd rfl (Or.inl rfl) (pe_op op_mulW (pe_ix (r := rIxL K) ix_list (pe_ix (r := rIxL K) ix_list (pv 0) (pv 4) (fun _ _ => rfl)) (pe_un un_neg pe_int) (fun _ _ => rfl)) (pe_ix (r := rIxL K) ix_list (pe_ix (r := rIxL K) ix_list (pv 0) (pv 3) (fun _ _ => rfl)) (pv 2) (fun _ _ => rfl))))
        (pss_one (ps_ret (pe_or (pe_cmpR op_lt (pv 5) (pv 6) (nomark _)) (pe_one (pe_and (pe_cmpR op_eq (pv 5) (pv 6) (nomark _)) (pe_one (pe_cmpR op_lt (pe_ix (r := rIxL K) ix_list (pv 1) (pv 3) (fun _ _ => rfl)) (pe_ix (r := rIxL K) ix_list (pv 1) (pv 4) (fun _ _ => rfl)) (nomark _)))))))))), ?_⟩
  have rl := S.rl
  obtain ⟨rp, p1, p2⟩ := R.row (i := p) (by omega)
  obtain ⟨ro, o1, o2⟩ := R.row (i := o) (by omega)
  have cp := S.cl p (by omega)
  have co := S.cl o (by omega)
  refine ⟨_, rfl, _, rfl, l, _, _, _, rfl, rfl, SqL.of R.lst, at_ref p1, _, rfl, rp, _, _, _, rfl, rfl, SqL.of p2, at_last (by omega), ?_⟩
  refine ⟨_, rfl, _, rfl, l, _, _, _, rfl, rfl, SqL.of R.lst, at_ref o1, _, rfl, ro, _, _, _, rfl, rfl, SqL.of o2, at_aV (by omega), _, _, rfl, rfl, ?_, ?_⟩
  · rw [S.last (by omega)]; exact small_mul (S.sm p (by omega) n (Nat.le_refl n)) (S.sm o (by omega) c hc)
  refine ⟨_, rfl, _, rfl, l, _, _, _, rfl, rfl, SqL.of R.lst, at_ref o1, _, rfl, ro, _, _, _, rfl, rfl, SqL.of o2, at_last (by omega), ?_⟩
  refine ⟨_, rfl, _, rfl, l, _, _, _, rfl, rfl, SqL.of R.lst, at_ref p1, _, rfl, rp, _, _, _, rfl, rfl, SqL.of p2, at_aV (by omega), _, _, rfl, rfl, ?_, ?_⟩
  · rw [S.last (by omega)]; exact small_mul (S.sm o (by omega) n (Nat.le_refl n)) (S.sm p (by omega) c hc)
  refine ⟨_, rfl, _, rfl, _, _, rfl, rfl, _, rfl, ?_⟩
  unfold Sv.tighter at k
  refine ite2 (fun c1 => ?_) (fun c1 => ?_)
  · rw [show decide (lastOf (rows.getD p []) * Sv.T rows o c < lastOf (rows.getD o []) * Sv.T rows p c) = true from c1, Bool.true_or] at k
    exact k
  have c1' : decide (lastOf (rows.getD p []) * Sv.T rows o c < lastOf (rows.getD o []) * Sv.T rows p c) = false := Bool.eq_false_iff.mpr c1
  rw [c1', Bool.false_or] at k
  refine ⟨_, rfl, _, rfl, rfl, _, rfl, ?_⟩
  refine ite2 (fun c2 => ?_) (fun c2 => ?_)
  · have c2' : lastOf (rows.getD p []) * Sv.T rows o c = lastOf (rows.getD o []) * Sv.T rows p c := V.int.inj (of_decide_eq_true c2)
    rw [decide_eq_true c2', Bool.true_and] at k
    refine ⟨_, rfl, _, rfl, hl, _, _, _, rfl, rfl, SqL.of hh, at_aV (by omega), _, rfl, _, rfl, hl, _, _, _, rfl, rfl, SqL.of hh, at_aV (by omega), _, _, rfl, rfl, ?_⟩
    exact k
  · have c2' : ¬ lastOf (rows.getD p []) * Sv.T rows o c = lastOf (rows.getD o []) * Sv.T rows p c := fun g => c2 (decide_eq_true (congrArg V.int g))
    rw [decide_eq_false c2', Bool.false_and] at k
    exact k
abbrev s_first_above_zero : Stmt := top 30
theorem sc_first_above_zero : FnScope ["row", "column"] ["row"] (defScope s_first_above_zero) := ⟨rfl, rfl, rfl, by decide +kernel, rfl, by decide +kernel, by decide +kernel⟩
theorem ok_first_above_zero {f : Addr} {fd : FuncData} (F : Fun K "first_above_zero" "first_above_zero" s_first_above_zero f fd) (T : Txt K mg CS CV) : FnOk P w K mg base CX0 1 f fd ["row"] spFirst := by
  refine F.ok sc_first_above_zero (fun vs H Q E h => ?_) (fun cdv A outer s H vs Q E hr h => ?_)
  · obtain ⟨r, row, rfl, _⟩ := h; rfl
  obtain ⟨r, row, rfl, hr0, h0, h1, k⟩ := h
  refine ⟨_, (pss_cons (ps_for PassesOwn.never rfl (pi_range1 rfl T.range (pa_cons (pe_op op_sub (pe_callB call_len_seq (by rfl) T.len (by decide +kernel) (pa_cons (pv 0) pa_nil)) pe_int) pa_nil)) (pg_name (i := 1) sc_first_above_zero.nd rfl (Or.inl rfl)) (pss_one (ps_if (pt_cmpR op_gt (pe_ix (r := rIxL K) ix_list (pv 0) (pv 1) (fun _ _ => rfl)) pe_int (nomark _)) (pss_one (ps_ret (pv 1))) pss_nil)))
        (pss_one (ps_ret pe_non))), ?_⟩
  refine ⟨_, rfl, r, _, rfl, .inl (SqL.of hr0), _, _, rfl, rfl, _, rfl, ?_, ?_, ?_⟩
  · rw [aV_len]; omega
  · rw [aV_len]; omega
  rw [aV_len, show ((row.length : Int) - 1).toNat = row.length - 1 by omega]
  have hno : ∀ i : Nat, i ≤ row.length - 1 → (∀ j, j < i → ¬ 0 < row.getD j 0) → (List.range i).find? (fun c => decide (0 < row.getD c 0)) = none := fun i hi h => List.find?_eq_none.mpr (fun x hx => by
    have := h x (List.mem_range.mp hx)
    simpa using this)
  refine for_it walk_nat (fun i σ H' => H' = H ∧ (∀ j, j < i → ¬ 0 < row.getD j 0) ∧ ∃ u, σ = [some (.ref r), u]) ⟨rfl, fun j hj => absurd hj (by omega), none, rfl⟩ (fun _ _ _ _ _ => trivial) ?_ ?_
  · rintro i x σ H1 H2 hi ⟨rfl, hb, u, rfl⟩ ⟨rfl, rfl⟩
    refine ⟨_, rfl, _, rfl, r, _, _, _, rfl, rfl, SqL.of hr0, at_aV (by omega), _, _, rfl, rfl, _, rfl, ?_⟩
    refine ite2 (fun c => ?_) (fun c => ?_)
    · refine ⟨_, rfl, ?_⟩
      have c' : 0 < row.getD i 0 := of_decide_eq_true c
      have e : Sv.firstAbove row = some i := by
        unfold Sv.firstAbove
        rw [List.find?_eq_some_iff_getElem]
        refine ⟨by simpa using c', i, by rw [List.length_range]; exact hi, List.getElem_range _, fun j hj => ?_⟩
        rw [List.getElem_range]
        have := hb j hj
        simpa using this
      rw [e] at k
      exact k
    · refine ⟨rfl, fun j hj => ?_, _, rfl⟩
      by_cases g : j = i
      · rw [g]; exact fun q => c (decide_eq_true q)
      · exact hb j (by omega)
  · rintro σ H1 ⟨rfl, hb, u, rfl⟩
    have e : Sv.firstAbove row = none := hno (row.length - 1) (Nat.le_refl _) hb
    rw [e] at k
    exact k
abbrev s_tightest_row : Stmt := top 31
theorem sc_tightest_row : FnScope ["rows", "holders", "column", "best", "place"] ["rows", "holders", "column"] (defScope s_tightest_row) := ⟨rfl, rfl, rfl, by decide +kernel, rfl, by decide +kernel, by decide +kernel⟩
theorem ok_tightest_row {f ft : Addr} {fd fdt : FuncData} (F : Fun K "tightest_row" "tightest_row" s_tightest_row f fd) (T : Txt K mg CS CV) (c_is_tighter : Cal P w K mg base "is_tighter" 1 ["rows", "holders", "column", "place", "other"] spTighter ft fdt) : FnOk P w K mg base CX0 2 f fd ["rows", "holders", "column"] spTightest := by
  refine F.ok sc_tightest_row (fun vs H Q E h => ?_) (fun cdv A outer s H vs Q E hr h => ?_)
  · obtain ⟨l, hl, rs, rows, holders, m, n, c, rfl, _⟩ := h; rfl
  obtain ⟨l, hl, rs, rows, holders, m, n, c, rfl, R, S, hh, hm, m100, hc, k⟩ := h
  refine ⟨_, (pss_cons (ps_set (i := 3) sc_tightest_row.nd rfl (Or.inl rfl) pe_non)
        (pss_cons (ps_for PassesOwn.never rfl (pi_range1 rfl T.range (pa_cons (pe_callB call_len_seq (by rfl) T.len (by decide +kernel) (pa_cons (pv 1) pa_nil)) pa_nil)) (pg_name (i := 4) sc_tightest_row.nd rfl (Or.inl rfl)) (pss_one (ps_if (PW.pt (pw_and (pt_cmpR op_gt (pe_ix (r := rIxL K) ix_list (pe_ix (r := rIxL K) ix_list (pv 0) (pv 4) (fun _ _ => rfl)) (pv 2) (fun _ _ => rfl)) pe_int (nomark _)) (pw_and1 (PW.pt (pw_or (pt_cmp (pc_isN (pv 3))) (pw_or1 (pt_val (pe_call c_is_tighter.ok (hr.mono (by decide)) rfl c_is_tighter.mg c_is_tighter.kp c_is_tighter.b .nil pass0 (pa_cons (pv 0) (pa_cons (pv 1) (pa_cons (pv 2) (pa_cons (pv 4) (pa_cons (pv 3) pa_nil))))))))))))) (pss_one (ps_set (i := 3) sc_tightest_row.nd rfl (Or.inl rfl) (pv 4))) pss_nil)))
        (pss_one (ps_ret (pv 3))))), ?_⟩
  have rl := S.rl
  refine ⟨_, rfl, hl, _, rfl, .inl (SqL.of hh), _, rfl, ?_, ?_, ?_⟩
  · rw [aV_len]; omega
  · rw [aV_len]; omega
  rw [aV_len, Int.toNat_natCast]
  refine for_it walk_nat (fun i σ H' => H' = H ∧ ∃ (b : Option Nat) (u : Option V), σ = [some (.ref l), some (.ref hl), some (.int c), some (optV b), u] ∧ b = (List.range i).foldl (fun b p => if 0 < Sv.T rows p c ∧ (match b with
      | none => true
      | some o => Sv.tighter rows holders c p o) = true then some p else b) none ∧ ∀ o, b = some o → o < i) ⟨rfl, none, none, rfl, rfl, fun o h => by cases h⟩ (fun _ _ _ _ _ => trivial) ?_ ?_
  · rintro i x σ H1 H2 hi ⟨rfl, b, u, rfl, hb, hbi⟩ ⟨rfl, rfl⟩
    obtain ⟨rp, p1, p2⟩ := R.row (i := i) (by omega)
    have cp := S.cl i (by omega)
    have step : ∀ b', b' = (if 0 < Sv.T rows i c ∧ (match b with
      | none => true
      | some o => Sv.tighter rows holders c i o) = true then some i else b) → b' = (List.range (i + 1)).foldl (fun b p => if 0 < Sv.T rows p c ∧ (match b with
      | none => true
      | some o => Sv.tighter rows holders c p o) = true then some p else b) none := fun b' e => by
      rw [List.range_succ, List.foldl_append, ← hb]
      exact e
    have keep : ∀ o, b = some o → o < i + 1 := fun o e => by have := hbi o e; omega
    refine ⟨_, rfl, _, rfl, l, _, _, _, rfl, rfl, SqL.of R.lst, at_ref p1, _, rfl, rp, _, _, _, rfl, rfl, SqL.of p2, at_aV (by omega), _, _, rfl, rfl, _, rfl, ?_⟩
    refine ite2 (fun c1 => ?_) (fun c1 => ?_)
    · have c1' : 0 < Sv.T rows i c := of_decide_eq_true c1
      refine ⟨_, rfl, _, rfl, ?_⟩
      cases b with
      | none =>
        refine iteT ?_
        refine ⟨_, rfl, rfl, some i, _, rfl, step _ ?_, fun o e => by cases e; omega⟩
        rw [if_pos ⟨c1', rfl⟩]
      | some o =>
        have oi := hbi o rfl
        show if false = true then _ else _
        refine iteF ?_
        refine ⟨_, rfl, _, rfl, _, rfl, _, rfl, _, rfl, l, hl, rs, rows, holders, m, n, c, i, o, rfl, R, S, hh, hm, hc, by omega, by omega, _, rfl, ?_⟩
        cases ct : Sv.tighter rows holders c i o with
        | true =>
          refine iteT ?_
          refine ⟨_, rfl, rfl, some i, _, rfl, step _ ?_, fun o e => by cases e; omega⟩
          rw [if_pos ⟨c1', ct⟩]
        | false =>
          refine iteF ?_
          refine ⟨rfl, some o, _, rfl, step _ ?_, keep⟩
          rw [if_neg (fun g => by have g2 : Sv.tighter rows holders c i o = true := g.2; rw [ct] at g2; exact Bool.noConfusion g2)]
    · have c1' : ¬ 0 < Sv.T rows i c := fun g => c1 (decide_eq_true g)
      refine iteF ?_
      refine ⟨rfl, b, _, rfl, step _ ?_, keep⟩
      rw [if_neg (fun g => c1' g.1)]
  · rintro σ H1 ⟨rfl, b, u, rfl, hb, _⟩
    refine ⟨_, rfl, ?_⟩
    have e : Sv.tightest rows holders c = b := hb.symm
    rw [e] at k
    exact k
end
end Dv
end
section
set_option Elab.async false
set_option maxRecDepth 100000
set_option maxHeartbeats 4000000
set_option exponentiation.threshold 2000
namespace Dv
open PySem PySem.Spec PyProof.Rows L2
open Sv (Rows lastOf)

theorem foldl_sum : ∀ (l : List Int) (k : Int), l.foldl (· + ·) k = k + l.sum
  | [], k => by simp
  | x :: l, k => by rw [List.foldl_cons, foldl_sum l, List.sum_cons]; omega
theorem sumRows_eq (rows : Rows) : Sv.sumRows rows = (List.range (rows.getD 0 []).length).map fun c => (rows.map fun row => row.getD c 0).sum := by
  unfold Sv.sumRows
  congr 1
  funext c
  rw [foldl_sum]; omega
theorem range_take_succ {α : Type} (g : Nat → α) (i : Nat) : (List.range (i + 1)).map g = (List.range i).map g ++ [g i] := by rw [List.range_succ, List.map_append]; rfl
theorem aV_snoc (l : List Int) (x : Int) : aV (l ++ [x]) = aV l ++ [V.int x] := by unfold aV; rw [List.map_append]; rfl
def spSumRows : Sp := fun us H Q _ => ∃ (l : Addr) (rs : List Addr) (rows : Rows) (n : Nat), us = [.ref l] ∧ RowsAt H l rs rows ∧ 0 < rows.length ∧ rows.length ≤ 100 ∧ (∀ i, i < rows.length → (rows.getD i []).length = n + 1) ∧ n ≤ 100 ∧ GivesNew H Q (aV (Sv.sumRows rows))
def spExch : Sp := fun us H Q _ => ∃ (l : Addr) (rs : List Addr) (rows : Rows) (m n p c : Nat) (sc : Int), us = [.ref l, .int p, .int c, .int sc] ∧ RowsAt H l rs rows ∧ Shape rows m n ∧ m ≤ 100 ∧ n ≤ 100 ∧ p ≤ m ∧ c ≤ n ∧ 0 < sc ∧ Small sc ∧
  ∀ (H' : Hp) (q : Addr) (rs' : List Addr), Same H H' → H q = none → RowsAt H' q rs' (Sv.exchanged rows p c sc) → (∀ r ∈ rs', r ∈ rs ∨ H r = none) → Q (.ref q) H'
/-- the changed row at a place -/
def exRow (rows : Rows) (p c : Nat) (sc : Int) (i : Nat) : List Int := if i = p then rows.getD i [] else List.zipWith (fun here there => (Sv.T rows p c * here - (rows.getD i []).getD c 0 * there) / sc) (rows.getD i []) (rows.getD p [])
theorem exch_at {rows : Rows} {p c : Nat} {sc : Int} {i : Nat} {row : List Int} (h : (Sv.exchanged rows p c sc)[i]? = some row) : i < rows.length ∧ row = exRow rows p c sc i := by
  unfold Sv.exchanged at h
  rw [List.getElem?_map, List.getElem?_zipIdx] at h
  cases e : rows[i]? with
  | none => rw [e] at h; cases h
  | some r =>
    rw [e] at h
    have h := (Option.some.inj h).symm
    refine ⟨lt_of_at e, ?_⟩
    rw [h]
    unfold exRow
    rw [getD_at e]
    simp
theorem exch_len (rows : Rows) (p c : Nat) (sc : Int) : (Sv.exchanged rows p c sc).length = rows.length := by unfold Sv.exchanged; rw [List.length_map, List.length_zipIdx]
theorem exRow_len {rows : Rows} {m n p c : Nat} {sc : Int} (S : Shape rows m n) (hp : p ≤ m) {i : Nat} (hi : i ≤ m) : (exRow rows p c sc i).length = n + 1 := by
  unfold exRow
  split
  · exact S.cl i hi
  · rw [List.length_zipWith, S.cl i hi, S.cl p hp]; omega
/-- a list of numbers is no list of things -/
theorem not_refs {H : Hp} {r q : Addr} {l : List Int} {rs : List Addr} (h1 : H r = some (.lst (aV l))) (h2 : H q = some (.lst (rs.map V.ref))) (h : 0 < l.length) : r ≠ q := fun e => by
  rw [e, h2] at h1
  have e2 := HO.lst.inj (Option.some.inj h1)
  match l, h with
  | x :: l, _ =>
    match rs with
    | [] => simp [aV] at e2
    | r :: rs => simp [aV] at e2
theorem zip_take {g : Int → Int → Int} {xs ys : List Int} {i : Nat} {x y : Int} (hx : xs[i]? = some x) (hy : ys[i]? = some y) : List.zipWith g (xs.take (i + 1)) (ys.take (i + 1)) = List.zipWith g (xs.take i) (ys.take i) ++ [g x y] := by
  rw [take_snoc hx, take_snoc hy, List.zipWith_append]
  · rfl
  · rw [List.length_take, List.length_take]
    have := lt_of_at hx
    have := lt_of_at hy
    omega

section
variable {P : Program} {w : World} {K : PySem.W.Frag} {mg : Str → Option Value} {base : Heap} {CS CV : Addr}
abbrev s_sum_of_rows : Stmt := top 29
theorem sc_sum_of_rows : FnScope ["rows", "total", "column", "row"] ["rows"] (defScope s_sum_of_rows) := ⟨rfl, rfl, rfl, by decide +kernel, rfl, by decide +kernel, by decide +kernel⟩
theorem ok_sum_of_rows {f : Addr} {fd : FuncData} (F : Fun K "sum_of_rows" "sum_of_rows" s_sum_of_rows f fd) (T : Txt K mg CS CV) : FnOk P w K mg base CX0 1 f fd ["rows"] spSumRows := by
  refine F.ok sc_sum_of_rows (fun vs H Q E h => ?_) (fun cdv A outer s H vs Q E hr h => ?_)
  · obtain ⟨l, rs, rows, n, rfl, _⟩ := h; rfl
  obtain ⟨l, rs, rows, n, rfl, R, r0, r100, hl, n100, k⟩ := h
  refine ⟨_, (pss_cons (ps_set (i := 1) sc_sum_of_rows.nd rfl (Or.inl rfl) (pe_lst pa_nil))
        (pss_cons (ps_for PassesOwn.never rfl (pi_range1 rfl T.range (pa_cons (pe_callB call_len_seq (by rfl) T.len (by decide +kernel) (pa_cons (pe_ix (r := rIxL K) ix_list (pv 0) pe_int (fun _ _ => rfl)) pa_nil)) pa_nil)) (pg_name (i := 2) sc_sum_of_rows.nd rfl (Or.inr rfl)) (pss_one (ps_expr (pe_bm PySem.F.plainAttrs_list PySem.F.slot_list_append PySem.F.type_list_append mt_append (pv 1) (pa_cons (pe_callB (cr_sum rfl) (by rfl) T.sum (by decide +kernel) (pa_cons (pe_lc (own := [("row", 3)]) (g := gName 3) (tt := tYes) rfl sc_sum_of_rows.nd (pi_list (pv 0)) (blkOk_by (N := ["rows", "total", "column", "row"]) (sc := defScope s_sum_of_rows) (by decide +kernel)) (fun _ _ _ _ _ => by exact pg_name (i := 3) sc_sum_of_rows.nd rfl (Or.inl rfl)) (fun _ _ _ _ _ => pts_nil) (fun _ _ _ _ _ => by exact (pe_ix (r := rIxL K) ix_list (pv 3) (pv 2) (fun _ _ => rfl)))) pa_nil)) pa_nil)))))
        (pss_one (ps_ret (pv 1))))), ?_⟩
  refine ⟨Nat.zero_le _, fun q hq => ?_⟩
  have s0 : Same H (upd H q (.lst [])) := same_new (Same.refl H) hq
  obtain ⟨ra, a1, a2⟩ := (R.same s0).row r0
  have e0 : (0 : Int) = ((0 : Nat) : Int) := rfl
  have len0 := hl 0 r0
  rw [sumRows_eq, len0] at k
  refine ⟨_, rfl, l, _, _, _, rfl, rfl, SqL.of (R.same s0).lst, by exact at_ref a1, ra, _, rfl, .inl (SqL.of a2), _, rfl, ?_, ?_, ?_⟩
  · rw [aV_len]; omega
  · rw [aV_len]; omega
  rw [aV_len, len0, Int.toNat_natCast]
  refine for_it walk_nat (fun i σ H' => Same H H' ∧ H' q = some (.lst (aV ((List.range i).map fun c => (rows.map fun row => row.getD c 0).sum))) ∧ ∃ u, σ = [some (.ref l), some (.ref q), u, none]) ⟨s0, upd_same, none, rfl⟩ (fun _ _ _ _ _ => trivial) ?_ ?_
  · rintro i x σ H1 H2 hi ⟨s1, hq1, u, rfl⟩ ⟨rfl, rfl⟩
    refine ⟨_, rfl, .inl ⟨rfl, _, SqL.of hq1⟩, ?_⟩
    have R1 := R.same s1
    refine ⟨_, rfl, l, rfl, ⟨_, SqL.of R1.lst⟩, fun D hD => ?_⟩
    refine lc_it walk_list (PvN H2 D fun j => aV ((rows.take j).map fun row => row.getD i 0)) (pvn_start hD rfl) (fun j H3 _ pv => SqL.of (pv.1 _ _ R1.lst)) ?_ ?_
    · rintro j y H3 H4 hj pv ⟨rfl, hy⟩
      obtain ⟨r, hr1, rfl⟩ := refs_at hy
      have jl : j < rows.length := by rw [← R.len]; exact lt_of_at hr1
      obtain ⟨r', h1, h2⟩ := (R1.same pv.1).row jl
      rw [hr1] at h1
      cases h1
      have lj := hl j jl
      refine ⟨rfl, ?_⟩
      refine ⟨_, rfl, _, rfl, r, _, _, _, rfl, rfl, SqL.of h2, at_aV (by omega), ?_⟩
      refine pvn_next hD pv (Same.refl _) ?_ (by rw [aV_len, List.length_map, List.length_take]; exact small (by omega))
      rw [take_snoc (List.getElem?_eq_getElem jl), List.map_append]
      have e5 : rows.getD j [] = rows[j] := getD_at (List.getElem?_eq_getElem jl)
      rw [e5]
      exact aV_snoc _ _
    rintro H3 pv
    rw [List.length_map, R.len] at pv
    have eD : H3 D = some (.lst (aV ((rows.take rows.length).map fun row => row.getD i 0))) := pv.2
    rw [take_all] at eD
    refine ⟨D, _, rfl, SqL.of eD, ?_⟩
    have hq3 := pv.1 _ _ hq1
    refine ⟨q, _, _, rfl, rfl, hq3, (by rw [aV_len, List.length_map, List.length_range]; exact small (by omega)), ?_⟩
    refine ⟨same_keep (s1.trans pv.1) hq, ?_, _, rfl⟩
    rw [upd_same, range_take_succ, aV_snoc]
  · rintro σ H1 ⟨s1, hq1, u, rfl⟩
    exact ⟨_, rfl, k H1 q s1 hq hq1⟩
abbrev s_exchanged : Stmt := top 33
theorem sc_exchanged : FnScope ["rows", "place", "column", "scale", "chosen_row", "factor", "changed", "other", "row", "lead", "here", "there"] ["rows", "place", "column", "scale"] (defScope s_exchanged) := ⟨rfl, rfl, rfl, by decide +kernel, rfl, by decide +kernel, by decide +kernel⟩
theorem ok_exchanged {f : Addr} {fd : FuncData} (F : Fun K "exchanged" "exchanged" s_exchanged f fd) (T : Txt K mg CS CV) : FnOk P w K mg base CX0 1 f fd ["rows", "place", "column", "scale"] spExch := by
  refine F.ok sc_exchanged (fun vs H Q E h => ?_) (fun cdv A outer s H vs Q E hr h => ?_)
  · obtain ⟨l, rs, rows, m, n, p, c, sc, rfl, _⟩ := h; rfl
  obtain ⟨l, rs, rows, m, n, p, c, sc, rfl, R, S, m100, n100, hp, hc, sc0, scS, k⟩ := h
  refine ⟨_, (pss_cons (ps_set (i := 4) sc_exchanged.nd rfl (Or.inl rfl) (pe_ix (r := rIxL K) ix_list (pv 0) (pv 1) (fun _ _ => rfl)))
        (pss_cons (ps_set (i := 5) sc_exchanged.nd rfl (Or.inr rfl) (pe_ix (r := rIxL K) ix_list (pv 4) (pv 2) (fun _ _ => rfl)))
        (pss_cons (ps_set (i := 6) sc_exchanged.nd rfl (Or.inl rfl) (pe_lst pa_nil))
        (pss_cons (ps_for PassesOwn.never rfl (pi_enum rfl T.enumerate (pa_cons (pv 0) pa_nil)) (pg_tup rfl (pgs_cons (pg_name (i := 7) sc_exchanged.nd rfl (Or.inl rfl)) (pgs_cons (pg_name (i := 8) sc_exchanged.nd rfl (Or.inl rfl)) pgs_nil))) (pss_one (ps_if (pt_cmpR op_eq (pv 7) (pv 1) (nomark _)) (pss_one (ps_expr (pe_bm PySem.F.plainAttrs_list PySem.F.slot_list_append PySem.F.type_list_append mt_append (pv 6) (pa_cons (pv 8) pa_nil)))) (pss_cons (ps_set (i := 9) sc_exchanged.nd rfl (Or.inr rfl) (pe_ix (r := rIxL K) ix_list (pv 8) (pv 2) (fun _ _ => rfl)))
            (pss_one (ps_expr (pe_bm PySem.F.plainAttrs_list PySem.F.slot_list_append PySem.F.type_list_append mt_append (pv 6) (pa_cons (pe_lc (own := [("here", 10), ("there", 11)]) (g := gTup _ 2 (gCons (gName 10) (gCons (gName 11) (gNil)))) (tt := tYes) rfl sc_exchanged.nd (pi_zip rfl T.zip (pa_cons (pv 8) (pa_cons (pv 4) pa_nil))) (blkOk_by (N := ["rows", "place", "column", "scale", "chosen_row", "factor", "changed", "other", "row", "lead", "here", "there"]) (sc := defScope s_exchanged) (by decide +kernel)) (fun _ _ _ _ _ => by exact pg_tup rfl (pgs_cons (pg_name (i := 10) sc_exchanged.nd rfl (Or.inl rfl)) (pgs_cons (pg_name (i := 11) sc_exchanged.nd rfl (Or.inl rfl)) pgs_nil))) (fun _ _ _ _ _ => pts_nil) (fun _ _ _ _ _ => by exact (pe_op op_fdivW (pe_op op_sub (pe_op op_mulW (pv 5) (pv 10)) (pe_op op_mulW (pv 9) (pv 11))) (pv 3)))) pa_nil))))))))
        (pss_one (ps_ret (pv 6))))))), ?_⟩
  have rl := S.rl
  obtain ⟨rp, p1, p2⟩ := R.row (i := p) (by omega)
  have cp := S.cl p hp
  refine ⟨_, rfl, _, rfl, l, _, _, _, rfl, rfl, SqL.of R.lst, at_ref p1, ?_⟩
  refine ⟨_, rfl, _, rfl, rp, _, _, _, rfl, rfl, SqL.of p2, at_aV (by omega), ?_⟩
  refine ⟨Nat.zero_le _, fun q hq => ?_⟩
  have s0 : Same H (upd H q (.lst [])) := same_new (Same.refl H) hq
  refine ⟨_, rfl, l, _, rfl, SqL.of (R.same s0).lst, ?_⟩
  refine for_it walk_enum (fun i σ H' => Same H H' ∧ (∃ rs' : List Addr, (∀ r ∈ rs', r ∈ rs ∨ H r = none) ∧ rs'.length = i ∧ H' q = some (.lst (rs'.map V.ref)) ∧ ∀ j, j < i → ∃ r, rs'[j]? = some r ∧ H' r = some (.lst (aV (exRow rows p c sc j)))) ∧
      ∃ u1 u2 u3, σ = [some (.ref l), some (.int p), some (.int c), some (.int sc), some (.ref rp), some (.int (Sv.T rows p c)), some (.ref q), u1, u2, u3, none, none])
    ⟨s0, ⟨[], fun r hr => absurd hr (by simp), rfl, upd_same, fun j hj => absurd hj (by omega)⟩, none, none, none, rfl⟩ (fun i σ H' _ h => SqL.of (R.same h.1).lst) ?_ ?_
  · rintro i x σ H1 H2 hi ⟨s1, ⟨rs', l0, l1, l2, l3⟩, u1, u2, u3, rfl⟩ ⟨t, x0, y0, rfl, ht, rfl, hx, hy⟩
    rw [List.length_map, R.len] at hi
    obtain ⟨r, hr1, rfl⟩ := refs_at hy
    cases hx
    have s2 : Same H1 (upd H1 t (.tup [V.int (i : Int), V.ref r])) := same_new (Same.refl H1) ht
    have R2 := (R.same s1).same s2
    obtain ⟨r', h1, h2⟩ := R2.row (i := i) (by omega)
    rw [hr1] at h1
    cases h1
    have ci := S.cl i (by omega)
    refine ⟨t, _, rfl, SqT.of upd_same, rfl, _, _, rfl, _, _, rfl, rfl, ?_⟩
    refine ⟨_, rfl, _, rfl, rfl, _, rfl, ?_⟩
    have q2 := s2 _ _ l2
    have done : ∀ (H3 : Hp) (z : Addr), (z ∈ rs ∨ H z = none) → Same H1 H3 → H3 z = some (.lst (aV (exRow rows p c sc i))) → H3 q = some (.lst (rs'.map V.ref)) → (Same H (upd H3 q (.lst (rs'.map V.ref ++ [V.ref z]))) ∧ (∃ rs'' : List Addr, (∀ r ∈ rs'', r ∈ rs ∨ H r = none) ∧ rs''.length = i + 1 ∧ upd H3 q (.lst (rs'.map V.ref ++ [V.ref z])) q = some (.lst (rs''.map V.ref)) ∧ ∀ j, j < i + 1 → ∃ r, rs''[j]? = some r ∧ upd H3 q (.lst (rs'.map V.ref ++ [V.ref z])) r = some (.lst (aV (exRow rows p c sc j))))) := fun H3 z zz s3 hz hq3 => by
      refine ⟨same_keep (s1.trans s3) hq, rs' ++ [z], fun r hr => by
        rcases List.mem_append.mp hr with g | g
        · exact l0 r g
        · rw [List.mem_singleton.mp g]; exact zz, by rw [List.length_append, l1]; rfl, by rw [upd_same, List.map_append]; rfl, fun j hj => ?_⟩
      by_cases g : j = i
      · rw [g]
        refine ⟨z, by rw [List.getElem?_append_right (by omega), l1]; simp, ?_⟩
        rw [upd_ne (not_refs hz hq3 (by rw [exRow_len S hp (by omega)]; omega))]; exact hz
      · obtain ⟨r2, g1, g2⟩ := l3 j (by omega)
        refine ⟨r2, by rw [List.getElem?_append_left (by omega)]; exact g1, ?_⟩
        rw [upd_ne (not_refs (s3 _ _ g2) hq3 (by rw [exRow_len S hp (by omega)]; omega))]; exact s3 _ _ g2
    refine ite2 (fun c1 => ?_) (fun c1 => ?_)
    · have c1' : i = p := by have := V.int.inj (of_decide_eq_true c1); omega
      refine ⟨_, rfl, .inl ⟨rfl, _, SqL.of q2⟩, _, rfl, q, _, _, rfl, rfl, q2, (by rw [List.length_map, l1]; exact small (by omega)), ?_⟩
      obtain ⟨d1, d2⟩ := done _ r (Or.inl (List.mem_of_getElem? hr1)) s2 (by unfold exRow; rw [if_pos c1']; exact h2) q2
      exact ⟨d1, d2, _, _, _, rfl⟩
    · have c1' : ¬ i = p := fun g => c1 (decide_eq_true (by rw [g]))
      refine ⟨_, rfl, _, rfl, r, _, _, _, rfl, rfl, SqL.of h2, at_aV (by omega), ?_⟩
      refine ⟨_, rfl, .inl ⟨rfl, _, SqL.of q2⟩, ?_⟩
      refine ⟨_, rfl, _, rfl, r, rp, _, _, rfl, SqL.of h2, SqL.of (s2 _ _ (s1 _ _ p2)), fun D hD => ?_⟩
      have hp3 := s2 _ _ (s1 _ _ p2)
      refine lc_it (walk_zip (xs := aV (rows.getD i [])) (ys := aV (rows.getD p [])) (n := n + 1) (by rw [aV_len, aV_len, ci, cp]; omega)) (PvN _ D fun j => aV (List.zipWith (fun here there => (Sv.T rows p c * here - (rows.getD i []).getD c 0 * there) / sc) ((rows.getD i []).take j) ((rows.getD p []).take j))) (pvn_start hD rfl) (fun j H3 _ pv => ⟨SqL.of (pv.1 _ _ h2), SqL.of (pv.1 _ _ hp3)⟩) ?_ ?_
      · rintro j y H3 H4 hj pv ⟨t2, xa, xb, rfl, ht2, rfl, ea, eb⟩
        obtain ⟨na, ea', rfl⟩ := aV_at ea
        obtain ⟨nb, eb', rfl⟩ := aV_at eb
        have sa : Small na := by
          have := S.sm i (by omega) j (by omega)
          unfold Sv.T at this
          rw [getD_at ea'] at this; exact this
        have sb : Small nb := by
          have := S.sm p hp j (by omega)
          unfold Sv.T at this
          rw [getD_at eb'] at this; exact this
        have s4 : Same H3 (upd H3 t2 (.tup [V.int na, V.int nb])) := same_new (Same.refl H3) ht2
        refine ⟨t2, _, rfl, SqT.of upd_same, rfl, _, _, rfl, _, _, rfl, rfl, ?_⟩
        refine ⟨rfl, ?_⟩
        refine ⟨_, rfl, _, rfl, _, _, rfl, rfl, small_mul (S.sm p hp c hc) sa, _, rfl, _, rfl, _, _, rfl, rfl, small_mul (S.sm i (by omega) c hc) sb, _, _, rfl, rfl, _, rfl, _, _, rfl, rfl, wide_div sc0 scS (by decide) (by decide), ?_⟩
        refine pvn_next hD pv s4 ?_ (by rw [aV_len, List.length_zipWith, List.length_take]; exact small (by omega))
        rw [zip_take ea' eb']
        exact aV_snoc _ _
      rintro H3 pv
      have eD : H3 D = some (.lst (aV (List.zipWith (fun here there => (Sv.T rows p c * here - (rows.getD i []).getD c 0 * there) / sc) ((rows.getD i []).take (n + 1)) ((rows.getD p []).take (n + 1))))) := pv.2
      rw [← ci, take_all, ci, ← cp, take_all] at eD
      refine ⟨q, _, _, rfl, rfl, pv.1 _ _ q2, (by rw [List.length_map, l1]; exact small (by omega)), ?_⟩
      obtain ⟨d1, d2⟩ := done H3 D (Or.inr (s1.free (s2.free hD))) (s2.trans pv.1) (by unfold exRow; rw [if_neg c1']; exact eD) (pv.1 _ _ q2)
      exact ⟨d1, d2, _, _, _, rfl⟩
  · rintro σ H1 ⟨s1, ⟨rs', l0, l1, l2, l3⟩, u1, u2, u3, rfl⟩
    rw [List.length_map, R.len] at l1 l3
    refine ⟨_, rfl, k H1 q rs' s1 hq ⟨l2, by rw [exch_len]; exact l1, fun i row e => ?_⟩ l0⟩
    obtain ⟨h1, h2⟩ := exch_at e
    rw [h2]
    exact l3 i h1
end
end Dv
end
section
set_option Elab.async false
set_option maxRecDepth 100000
set_option maxHeartbeats 4000000
set_option exponentiation.threshold 2000
namespace Dv
open PySem PySem.Spec PyProof.Rows L2
open Sv (Rows lastOf)

/-- the equations that are handed in -/
structure Eqs (eqs : Rows) (n : Nat) : Prop where
  m16 : eqs.length ≤ 16
  n16 : n ≤ 16
  cl : ∀ row ∈ eqs, row.length = n + 1
  lo : ∀ p, p < eqs.length → ∀ x, x ≤ n → 0 ≤ Sv.coef eqs p x ∧ Sv.coef eqs p x ≤ 2 ^ 58
theorem Eqs.pos {eqs : Rows} {n : Nat} (h : Eqs eqs n) : ∀ row ∈ eqs, 0 ≤ row.getD n 0 := fun row hr => by
  obtain ⟨i, hi, e⟩ := List.getElem_of_mem hr
  have h1 := (h.lo i hi n (Nat.le_refl n)).1
  have h2 : eqs.getD i [] = row := by rw [List.getD_eq_getElem?_getD, List.getElem?_eq_getElem hi]; exact e
  unfold Sv.coef at h1
  rw [h2] at h1
  exact h1
theorem Eqs.few {eqs : Rows} {n : Nat} (h : Eqs eqs n) : Sv.Few eqs.length n (Sv.coef eqs) := ⟨h.m16, h.lo⟩
/-- each state of the run has the shape -/
theorem Eqs.at_ {eqs : Rows} {n : Nat} (h : Eqs eqs n) (m0 : 0 < eqs.length) (k : Nat) : Shape (Sv.stAt (Sv.start eqs) k).rows eqs.length n ∧ (Sv.stAt (Sv.start eqs) k).holders.length = eqs.length ∧ 0 < (Sv.stAt (Sv.start eqs) k).scale ∧ Small (Sv.stAt (Sv.start eqs) k).scale ∧ Sv.lastRow (Sv.stAt (Sv.start eqs) k) = (Sv.stAt (Sv.start eqs) k).rows.getD eqs.length [] := by
  obtain ⟨hh, R, r⟩ := Sv.rel_at m0 h.cl h.pos k
  have b := r.bound h.few
  exact ⟨⟨r.rl, r.cl, b.1⟩, r.hl, r.dp, b.2, r.lastRow_eq⟩
def spSolvable : Sp := fun us H Q _ => ∃ (l : Addr) (rs : List Addr) (eqs : Rows) (n : Nat), us = [.ref l] ∧ RowsAt H l rs eqs ∧ Eqs eqs n ∧
  ∀ (H' : Hp) (b : Bool), Same H H' → (b = true ↔ ∃ x, Sv.Solution eqs.length n (Sv.coef eqs) x) → Q (.bl b) H'
theorem optV_non {c : Option Nat} : optV c = V.non ↔ c = none := by
  cases c with
  | none => exact ⟨fun _ => rfl, fun _ => rfl⟩
  | some c => exact ⟨(fun h => by cases h), (fun h => by cases h)⟩

section
variable {P : Program} {w : World} {K : PySem.W.Frag} {mg : Str → Option Value} {base : Heap} {CS CV : Addr}
abbrev s_solvable : Stmt := top 28
theorem sc_solvable : FnScope ["equations", "rows", "holders", "scale", "column", "place", "factor"] ["equations"] (defScope s_solvable) := ⟨rfl, rfl, rfl, by decide +kernel, rfl, by decide +kernel, by decide +kernel⟩
theorem ok_solvable {f f1 f2 f3 f4 : Addr} {fd fd1 fd2 fd3 fd4 : FuncData} (F : Fun K "solvable" "solvable" s_solvable f fd) (T : Txt K mg CS CV)
    (c_sum_of_rows : Cal P w K mg base "sum_of_rows" 1 ["rows"] spSumRows f1 fd1) (c_first_above_zero : Cal P w K mg base "first_above_zero" 1 ["row"] spFirst f2 fd2)
    (c_tightest_row : Cal P w K mg base "tightest_row" 2 ["rows", "holders", "column"] spTightest f3 fd3) (c_exchanged : Cal P w K mg base "exchanged" 1 ["rows", "place", "column", "scale"] spExch f4 fd4) : FnOk P w K mg base CX0 3 f fd ["equations"] spSolvable := by
  refine F.ok sc_solvable (fun vs H Q E h => ?_) (fun cdv A outer s H vs Q E hr h => ?_)
  · obtain ⟨l, rs, eqs, n, rfl, _⟩ := h; rfl
  obtain ⟨l, rs, eqs, n, rfl, R, G, k⟩ := h
  refine ⟨_, (pss_cons (ps_if (pt_cmpR op_eq (pe_callB call_len_seq (by rfl) T.len (by decide +kernel) (pa_cons (pv 0) pa_nil)) pe_int (nomark _)) (pss_one (ps_ret pe_bl)) pss_nil)
        (pss_cons (ps_set (i := 1) sc_solvable.nd rfl (Or.inl rfl) (pe_callTy call_list_of (by rfl) T.list (by decide +kernel) (pa_cons (pv 0) pa_nil)))
        (pss_cons (ps_expr (pe_bm PySem.F.plainAttrs_list PySem.F.slot_list_append PySem.F.type_list_append mt_append (pv 1) (pa_cons (pe_call c_sum_of_rows.ok (hr.mono (by decide)) rfl c_sum_of_rows.mg c_sum_of_rows.kp c_sum_of_rows.b .nil pass0 (pa_cons (pv 0) pa_nil)) pa_nil)))
        (pss_cons (ps_setLc (i := 2) (own := [("place", 5)]) (g := gName 5) (tt := tYes) rfl sc_solvable.nd rfl rfl (sw_true rfl rfl rfl (by decide +kernel)) (pi_range1 rfl T.range (pa_cons (pe_callB call_len_seq (by rfl) T.len (by decide +kernel) (pa_cons (pv 0) pa_nil)) pa_nil)) (blkOk_by (N := ["equations", "rows", "holders", "scale", "column", "place", "factor"]) (sc := defScope s_solvable) (by decide +kernel)) (fun _ _ _ _ _ => by exact pg_name (i := 5) sc_solvable.nd rfl (Or.inl rfl)) (fun _ _ _ _ _ => pts_nil) (fun _ _ _ _ _ => by exact (pe_op op_sub (pe_un un_neg pe_int) (pv 5))))
        (pss_cons (ps_set (i := 3) sc_solvable.nd rfl (Or.inl rfl) pe_int)
        (pss_cons (ps_while PassesOwn.never (pt_cmpR op_gt (pe_ix (r := rIxL K) ix_list (pe_ix (r := rIxL K) ix_list (pv 1) (pe_un un_neg pe_int) (fun _ _ => rfl)) (pe_un un_neg pe_int) (fun _ _ => rfl)) pe_int (nomark _)) (pss_cons (ps_set (i := 4) sc_solvable.nd rfl (Or.inl rfl) (pe_call c_first_above_zero.ok (hr.mono (by decide)) rfl c_first_above_zero.mg c_first_above_zero.kp c_first_above_zero.b .nil pass0 (pa_cons (pe_ix (r := rIxL K) ix_list (pv 1) (pe_un un_neg pe_int) (fun _ _ => rfl)) pa_nil)))
          (pss_cons (ps_if (pt_cmp (pc_isN (pv 4))) (pss_one (ps_ret pe_bl)) pss_nil)
          (pss_cons (ps_set (i := 5) sc_solvable.nd rfl (Or.inl rfl) (pe_call c_tightest_row.ok (hr.mono (by decide)) rfl c_tightest_row.mg c_tightest_row.kp c_tightest_row.b .nil pass0 (pa_cons (pv 1) (pa_cons (pv 2) (pa_cons (pv 4) pa_nil)))))
          (pss_cons (ps_set (i := 6) sc_solvable.nd rfl (Or.inl rfl) (pe_ix (r := rIxL K) ix_list (pe_ix (r := rIxL K) ix_list (pv 1) (pv 5) (fun _ _ => rfl)) (pv 4) (fun _ _ => rfl)))
          (pss_cons (ps_set (i := 1) sc_solvable.nd rfl (Or.inl rfl) (pe_call c_exchanged.ok (hr.mono (by decide)) rfl c_exchanged.mg c_exchanged.kp c_exchanged.b .nil pass0 (pa_cons (pv 1) (pa_cons (pv 5) (pa_cons (pv 4) (pa_cons (pv 3) pa_nil))))))
          (pss_cons (ps_asg (pv 4) (pg_sub (pv 2) (pv 5) set_list))
          (pss_one (ps_set (i := 3) sc_solvable.nd rfl (Or.inl rfl) (pv 6))))))))))
        (pss_one (ps_ret pe_bl)))))))), ?_⟩
  have m16 := G.m16
  have n16 := G.n16
  refine ⟨_, rfl, l, _, rfl, .inl (SqL.of R.lst), rfl, _, rfl, ?_⟩
  rw [List.length_map, R.len]
  refine ite2 (fun c => ?_) (fun c => ?_)
  · have c' : eqs.length = 0 := by have := V.int.inj (of_decide_eq_true c); omega
    refine k H true (Same.refl H) ⟨fun _ => ⟨fun _ => 0, fun _ _ => Rat.le_refl, fun p hp => absurd hp (by omega)⟩, fun _ => rfl⟩
  have m0 : 0 < eqs.length := Nat.pos_of_ne_zero (fun g => c (decide_eq_true (by rw [g]; rfl)))
  -- rows = list(equations)
  refine ⟨_, rfl, l, _, rfl, .inl (SqL.of R.lst), fun a ha => ?_⟩
  have s0 : Same H (upd H a (.lst (rs.map V.ref))) := same_new (Same.refl H) ha
  have R0 := R.same s0
  refine ⟨_, rfl, .inl ⟨rfl, _, SqL.of upd_same⟩, ?_⟩
  refine ⟨_, rfl, l, rs, eqs, n, rfl, R0, m0, by omega, fun i hi => ?_, by omega, fun H1 t s1 ht1 ht => ?_⟩
  · rw [getD_at (List.getElem?_eq_getElem hi)]; exact G.cl _ (List.getElem_mem hi)
  refine ⟨a, _, _, rfl, rfl, s1 _ _ upd_same, (by rw [List.length_map, R.len]; exact small (by omega)), ?_⟩
  have s01 := s0.trans s1
  have s02 : Same H (upd H1 a (.lst (rs.map V.ref ++ [V.ref t]))) := same_keep s01 ha
  have nta : t ≠ a := fun g => by rw [g, upd_same] at ht1; cases ht1
  have RS : RowsAt (upd H1 a (.lst (rs.map V.ref ++ [V.ref t]))) a (rs ++ [t]) (Sv.start eqs).rows := by
    refine ⟨by rw [upd_same, List.map_append]; rfl, ?_, fun i row e => ?_⟩
    · show (rs ++ [t]).length = (eqs ++ [Sv.sumRows eqs]).length
      rw [List.length_append, List.length_append, R.len]; rfl
    · have e' : (eqs ++ [Sv.sumRows eqs])[i]? = some row := e
      by_cases g : i < eqs.length
      · rw [List.getElem?_append_left g] at e'
        obtain ⟨r, h1, h2⟩ := R.at_ i row e'
        refine ⟨r, by rw [List.getElem?_append_left (by rw [R.len]; exact g)]; exact h1, s02 _ _ h2⟩
      · have hi := lt_of_at e'
        rw [List.length_append] at hi
        have ei : i = eqs.length := by simp at hi; omega
        subst ei
        rw [List.getElem?_append_right (Nat.le_refl _)] at e'
        simp at e'
        subst e'
        refine ⟨t, by rw [← R.len, List.getElem?_append_right (Nat.le_refl _)]; simp, by rw [upd_ne nta]; exact ht⟩
  -- holders = [-1 - place for place in range(len(equations))]
  refine ⟨_, rfl, l, _, rfl, .inl (SqL.of (R.same s02).lst), _, rfl, ?_, ?_, fun D hD => ?_⟩
  · rw [List.length_map, R.len]; omega
  · rw [List.length_map, R.len]; omega
  rw [List.length_map, R.len, Int.toNat_natCast]
  refine lc_it walk_nat (PvN _ D fun i => aV ((List.range i).map fun (p : Nat) => -1 - (p : Int))) (pvn_start hD rfl) (fun _ _ _ _ => trivial) ?_ ?_
  · rintro i x H2 H3 hi pv ⟨rfl, rfl⟩
    refine ⟨rfl, ?_⟩
    refine ⟨_, rfl, _, rfl, _, _, rfl, rfl, ?_⟩
    refine pvn_next hD pv (Same.refl _) ?_ (by rw [aV_len, List.length_map, List.length_range]; exact small (by omega))
    rw [range_take_succ]
    exact aV_snoc _ _
  rintro H2 pv
  have eD : H2 D = some (.lst (aV (Sv.start eqs).holders)) := pv.2
  have s2 := s02.trans pv.1
  have D0 : H D = none := s02.free hD
  -- the loop
  obtain ⟨N, run, fin⟩ := Sv.solvable_spec m0 G.cl G.pos
  refine ⟨fun m σ H' => ∃ (k : Nat) (la : Addr) (ra : List Addr) (u4 u5 u6 : Option V), k ≤ N ∧ m = N - k ∧ σ = [some (.ref l), some (.ref la), some (.ref D), some (.int (Sv.stAt (Sv.start eqs) k).scale), u4, u5, u6] ∧ RowsAt H' la ra (Sv.stAt (Sv.start eqs) k).rows ∧ (∀ r ∈ ra, r ≠ D) ∧ H' D = some (.lst (aV (Sv.stAt (Sv.start eqs) k).holders)) ∧ Same H H',
    ⟨N - 0, 0, a, rs ++ [t], none, none, none, by omega, rfl, rfl, RS.same pv.1, fun r hr g => ?_, eD, s2⟩, ?_⟩
  · obtain ⟨i, hi, e⟩ := List.getElem_of_mem hr
    have hi2 : i < (Sv.start eqs).rows.length := by rw [← RS.len]; exact hi
    obtain ⟨r', h1, h2⟩ := RS.at_ i _ (List.getElem?_eq_getElem hi2)
    rw [List.getElem?_eq_getElem hi, e] at h1
    cases h1
    rw [g, hD] at h2; cases h2
  rintro m σ H' ⟨j, la, ra, u4, u5, u6, hj, rfl, rfl, Ra, rD, hDj, s3⟩
  obtain ⟨sh, hol, sc0, scS, lr⟩ := G.at_ m0 j
  have rl := sh.rl
  have clm := sh.cl eqs.length (Nat.le_refl _)
  obtain ⟨r1, at1, l1⟩ := Ra.last (by omega)
  rw [rl, show eqs.length + 1 - 1 = eqs.length by omega] at l1
  have egoing : Sv.going (Sv.stAt (Sv.start eqs) j) = decide (0 < lastOf ((Sv.stAt (Sv.start eqs) j).rows.getD eqs.length [])) := by unfold Sv.going; rw [lr]
  refine ⟨_, rfl, _, rfl, la, _, _, _, rfl, rfl, SqL.of Ra.lst, at1, _, rfl, r1, _, _, _, rfl, rfl, SqL.of l1, at_last (by omega), _, _, rfl, rfl, _, rfl, ?_⟩
  rw [← egoing]
  cases eg : Sv.going (Sv.stAt (Sv.start eqs) j) with
  | false =>
    refine iteF ?_
    have ej : j = N := by
      apply Classical.byContradiction
      intro ne
      have := (run j (by omega)).1
      rw [eg] at this; exact Bool.noConfusion this
    subst ej
    rcases fin with ⟨_, yes⟩ | ⟨g, _⟩
    · exact k H' true s3 ⟨fun _ => yes, fun _ => rfl⟩
    · rw [eg] at g; exact Bool.noConfusion g
  | true =>
    refine iteT ?_
    refine ⟨fun σ' H'' => ∃ (la' : Addr) (ra' : List Addr) (u4 u5 u6 : Option V), j < N ∧ σ' = [some (.ref l), some (.ref la'), some (.ref D), some (.int (Sv.stAt (Sv.start eqs) (j + 1)).scale), u4, u5, u6] ∧ RowsAt H'' la' ra' (Sv.stAt (Sv.start eqs) (j + 1)).rows ∧ (∀ r ∈ ra', r ≠ D) ∧ H'' D = some (.lst (aV (Sv.stAt (Sv.start eqs) (j + 1)).holders)) ∧ Same H H'', fun σ' H'' ⟨la', ra', v4, v5, v6, g1, g2, g3, g4, g5, g6⟩ => ⟨N - (j + 1), by omega, j + 1, la', ra', v4, v5, v6, by omega, rfl, g2, g3, g4, g5, g6⟩, ?_⟩
    -- column = first_above_zero(rows[-1])
    refine ⟨_, rfl, _, rfl, la, _, _, _, rfl, rfl, SqL.of Ra.lst, at1, ?_⟩
    refine ⟨r1, _, rfl, l1, by omega, by omega, ?_⟩
    rw [← lr]
    refine ⟨_, rfl, _, rfl, ?_⟩
    by_cases ej : j = N
    · subst ej
      rcases fin with ⟨g, _⟩ | ⟨_, g, no⟩
      · rw [eg] at g; exact Bool.noConfusion g
      · rw [g]
        exact k H' false s3 ⟨fun h => Bool.noConfusion h, fun h => absurd h no⟩
    obtain ⟨_, c2, q, e1, e2, e3⟩ := run j (by omega)
    obtain ⟨hh, RR, rel⟩ := Sv.rel_at m0 G.cl G.pos j
    obtain ⟨q', e2', hq, hc, tp, _⟩ := Sv.turn_ok rel e1
    rw [e2] at e2'
    cases e2'
    rw [e1]
    show if false = true then _ else _
    refine iteF ?_
    -- place = tightest_row(rows, holders, column)
    refine ⟨_, rfl, _, rfl, _, rfl, la, D, ra, _, _, eqs.length, n, c2, rfl, Ra, sh, hDj, hol, by omega, by omega, ?_⟩
    rw [e2]
    -- factor = rows[place][column]
    obtain ⟨rq, q1, q2⟩ := Ra.row (i := q) (by omega)
    have cq := sh.cl q (by omega)
    refine ⟨_, rfl, _, rfl, la, _, _, _, rfl, rfl, SqL.of Ra.lst, at_ref q1, _, rfl, rq, _, _, _, rfl, rfl, SqL.of q2, at_aV (by omega), ?_⟩
    -- rows = exchanged(rows, place, column, scale)
    refine ⟨_, rfl, _, rfl, _, rfl, _, rfl, la, ra, _, eqs.length, n, q, c2, _, rfl, Ra, sh, by omega, by omega, by omega, by omega, sc0, scS, fun H4 la' ra' s4 hla' Ra' new => ?_⟩
    -- holders[place] = column
    refine ⟨_, rfl, _, rfl, _, rfl, D, _, _, q, rfl, rfl, s4 _ _ hDj, ?_, ?_⟩
    · rw [aV_len, hol]
      unfold ixN
      rw [if_pos (by omega), if_pos (by omega)]; rfl
    -- scale = factor
    refine ⟨_, rfl, ?_⟩
    have eset : (aV (Sv.stAt (Sv.start eqs) j).holders).set q (V.int (c2 : Int)) = aV ((Sv.stAt (Sv.start eqs) j).holders.set q (c2 : Int)) := by unfold aV; rw [List.map_set]
    have rD' : ∀ r ∈ ra', r ≠ D := fun r hr g => by
      rcases new r hr with q | q
      · exact rD r q g
      · rw [g, hDj] at q; cases q
    refine ⟨la', ra', _, _, _, by omega, by rw [e3]; rfl, ?_, rD', ?_, fun b o e => ?_⟩
    · rw [e3]
      show RowsAt _ la' ra' (Sv.exchanged (Sv.stAt (Sv.start eqs) j).rows q c2 (Sv.stAt (Sv.start eqs) j).scale)
      have nD : ∀ b o, H4 b = some o → b ≠ D → upd H4 D (.lst ((aV (Sv.stAt (Sv.start eqs) j).holders).set q (V.int (c2 : Int)))) b = some o := fun b o e g => by rw [upd_ne g]; exact e
      have lD : la' ≠ D := fun g => by rw [g, hDj] at hla'; cases hla'
      refine ⟨nD _ _ Ra'.lst lD, Ra'.len, fun i row e => ?_⟩
      obtain ⟨r, h1, h2⟩ := Ra'.at_ i row e
      exact ⟨r, h1, nD _ _ h2 (rD' r (List.mem_of_getElem? h1))⟩
    · rw [e3, upd_same]
      show some (HO.lst ((aV (Sv.stAt (Sv.start eqs) j).holders).set q (V.int (c2 : Int)))) = _
      rw [eset]; rfl
    · have nb : b ≠ D := fun g => by rw [g, D0] at e; cases e
      rw [upd_ne nb]
      exact s4 _ _ (s3 _ _ e)
end
end Dv
end
section
set_option Elab.async false
set_option maxRecDepth 100000
set_option maxHeartbeats 4000000
set_option exponentiation.threshold 2000
namespace Dv
open PySem PySem.Spec PyProof.Rows L2
open Kp351 (setOf View numOf total)

/-- the views that a question is asked of -/
structure Vws (n : Nat) (vs : List (View × Nat)) : Prop where
  n4 : n < 5
  six : vs.length ≤ 6
  v : ∀ v ∈ vs, Wh.Vw n v.1
  le : ∀ v ∈ vs, ∀ x ∈ v.1.table, x ≤ 100
def nums (vs : List (View × Nat)) : List (Nat × List Nat) := vs.map fun v => Wh.num v.1
/-- a dict of numbers -/
def dkV (r : List (Nat × Nat)) : List (Key × V) := r.map fun x => (Sum.inl (x.1 : Int), V.int (x.2 : Int))
theorem dk_look : ∀ (r : List (Nat × Nat)) (k : Nat), valV (dkV r) (Sum.inl (k : Int)) = (r.lookup k).map fun (y : Nat) => V.int (y : Int)
  | [], k => rfl
  | (a, b) :: r, k => by
    by_cases c : k = a
    · subst c
      rw [List.lookup_cons_self]
      exact valV_pos rfl
    · have e1 : (k == a) = false := by simpa using c
      rw [List.lookup_cons, e1]
      show valV ((Sum.inl (a : Int), V.int (b : Int)) :: dkV r) (Sum.inl (k : Int)) = _
      rw [valV_neg (fun g => c (by have := Sum.inl.inj g; omega)), dk_look r k]
theorem dk_put_new {r : List (Nat × Nat)} {x : Nat × Nat} (h : r.lookup x.1 = none) : putK (dkV r) (Sum.inl (x.1 : Int)) (V.int (x.2 : Int)) = dkV (r ++ [x]) := by
  rw [putK_new _ (by rw [dk_look, h]; rfl)]
  unfold dkV; rw [List.map_append]; rfl
theorem dk_put_same {r : List (Nat × Nat)} {x : Nat × Nat} (h : Wh.Held r) (e : r.lookup x.1 = some x.2) : putK (dkV r) (Sum.inl (x.1 : Int)) (V.int (x.2 : Int)) = dkV r := by
  unfold putK
  rw [if_pos (by rw [valV_any, dk_look, e]; rfl)]
  unfold dkV
  rw [List.map_map]
  refine List.map_congr_left (fun y hy => ?_)
  show (if (Sum.inl (y.1 : Int) : Key) = Sum.inl (x.1 : Int) then ((Sum.inl (y.1 : Int) : Key), V.int (x.2 : Int)) else (Sum.inl (y.1 : Int), V.int (y.2 : Int))) = _
  by_cases c : y.1 = x.1
  · have h2 := h.look y hy
    rw [c, e] at h2
    have h3 := Option.some.inj h2
    rw [if_pos (by rw [c]), h3]
  · rw [if_neg (fun g => c (by have := Sum.inl.inj g; omega))]
theorem nums_at {vs : List (View × Nat)} {i : Nat} {v : View × Nat} (h : vs[i]? = some v) : (nums vs)[i]? = some (Wh.num v.1) := by unfold nums; rw [List.getElem?_map, h]; rfl
theorem unit_snoc (l : List (Nat × List Nat)) (x : Nat × List Nat) : Wh.unitOf (l ++ [x]) = Wh.unitOf l * total x.2 := by unfold Wh.unitOf; rw [List.foldl_append]; rfl
theorem pairs_snoc (u : Nat) (l : List (Nat × List Nat)) (x : Nat × List Nat) : Wh.pairsOf u (l ++ [x]) = Wh.pairsOf u l ++ (Wh.parts x.1).map fun p => (p, Wh.shareOf u x p) := by unfold Wh.pairsOf; rw [List.flatMap_append]; simp
/-- the pairs behind a place of a list that is gone through -/
theorem fold_none_more (a b : List (Nat × Nat)) (m : Option (List (Nat × Nat))) (h : a.foldl Wh.addOne m = none) : (a ++ b).foldl Wh.addOne m = none := by rw [List.foldl_append, h, Wh.add_none]

def spShares (CV : Addr) : Sp := fun us H Q _ => ∃ (l : Addr) (qs : List Addr) (n : Nat) (vs : List (View × Nat)), us = [.ref l] ∧ H l = some (.lst (qs.map V.ref)) ∧ RdV CV H qs vs ∧ Vws n vs ∧
  (∀ H', Same H H' → Wh.shares (nums vs) = none → Q .non H') ∧
  (∀ H' d r, Same H H' → H d = none → Wh.shares (nums vs) = some r → H' d = some (.dK (dkV r)) → Q (.ref d) H')

section
variable {P : Program} {w : World} {K : PySem.W.Frag} {mg : Str → Option Value} {base : Heap} {CS CV : Addr}
abbrev s_shares_of_parts : Stmt := top 36
theorem sc_shares_of_parts : FnScope ["views", "unit", "view", "shares", "weight", "rows", "part", "share", "row", "often"] ["views"] (defScope s_shares_of_parts) := ⟨rfl, rfl, rfl, by decide +kernel, rfl, by decide +kernel, by decide +kernel⟩
theorem ok_shares_of_parts {f fp : Addr} {fd fdp : FuncData} (F : Fun K "shares_of_parts" "shares_of_parts" s_shares_of_parts f fd) (T : Txt K mg CS CV) (c_parts : Cal P w K mg base "parts" 1 ["number"] spParts fp fdp) : FnOk P w K mg base CX0 2 f fd ["views"] (spShares CV) := by
  refine F.ok sc_shares_of_parts (fun vs H Q E h => ?_) (fun cdv A outer s H vs Q E hr h => ?_)
  · obtain ⟨l, qs, n, vs, rfl, _⟩ := h; rfl
  obtain ⟨l, qs, n, vs, rfl, hl, RV, W, kN, kS⟩ := h
  refine ⟨_, (pss_cons (ps_set (i := 1) sc_shares_of_parts.nd rfl (Or.inl rfl) pe_int)
        (pss_cons (ps_for PassesOwn.never rfl (pi_list (pv 0)) (pg_name (i := 2) sc_shares_of_parts.nd rfl (Or.inl rfl)) (pss_one (ps_set (i := 1) sc_shares_of_parts.nd rfl (Or.inl rfl) (pe_op op_mul (pv 1) (pe_callB (cr_sum rfl) (by rfl) T.sum (by decide +kernel) (pa_cons (pe_fld (pv 2) rfl) pa_nil))))))
        (pss_cons (ps_set (i := 3) sc_shares_of_parts.nd rfl (Or.inl rfl) pe_dnewK)
        (pss_cons (ps_for PassesOwn.never rfl (pi_list (pv 0)) (pg_name (i := 2) sc_shares_of_parts.nd rfl (Or.inl rfl)) (pss_cons (ps_set (i := 4) sc_shares_of_parts.nd rfl (Or.inl rfl) (pe_op op_fdiv (pv 1) (pe_callB (cr_sum rfl) (by rfl) T.sum (by decide +kernel) (pa_cons (pe_fld (pv 2) rfl) pa_nil))))
          (pss_cons (ps_set (i := 5) sc_shares_of_parts.nd rfl (Or.inl rfl) (pe_call c_parts.ok (hr.mono (by decide)) rfl c_parts.mg c_parts.kp c_parts.b .nil pass0 (pa_cons (pe_fld (pv 2) rfl) pa_nil)))
          (pss_one (ps_for PassesOwn.never rfl (pi_list (pv 5)) (pg_name (i := 6) sc_shares_of_parts.nd rfl (Or.inr rfl)) (pss_cons (ps_set (i := 7) sc_shares_of_parts.nd rfl (Or.inl rfl) (pe_op op_mul (pv 4) (pe_callB (cr_sum rfl) (by rfl) T.sum (by decide +kernel) (pa_cons (pe_lc (own := [("row", 8), ("often", 9)]) (g := gTup _ 2 (gCons (gName 8) (gCons (gName 9) (gNil)))) rfl sc_shares_of_parts.nd (pi_zip rfl T.zip (pa_cons (pv 5) (pa_cons (pe_fld (pv 2) rfl) pa_nil))) (blkOk_by (N := ["views", "unit", "view", "shares", "weight", "rows", "part", "share", "row", "often"]) (sc := defScope s_shares_of_parts) (by decide +kernel)) (fun _ _ _ _ _ => by exact pg_tup rfl (pgs_cons (pg_name (i := 8) sc_shares_of_parts.nd rfl (Or.inl rfl)) (pgs_cons (pg_name (i := 9) sc_shares_of_parts.nd rfl (Or.inl rfl)) pgs_nil))) (fun _ _ _ _ _ => by exact pts_one (pt_cmpR op_eq (pe_op op_and (pv 8) (pv 6)) (pv 6) (nomark _))) (fun _ _ _ _ _ => by exact (pv 9))) pa_nil))))
            (pss_cons (ps_if (pt_cmpR op_ne (pe_dget2 (hu_of hr) (pv 3) (pv 6) (pv 7) ⟨rfl, rfl, rfl, rfl⟩) (pv 7) (nomark _)) (pss_one (ps_ret pe_non)) pss_nil)
            (pss_one (ps_dput (hu_of hr) (pv 3) (pv 6) (pv 7) rfl)))))))))
        (pss_one (ps_ret (pv 3))))))), ?_⟩
  have six := W.six
  have t800 : ∀ v ∈ nums vs, total v.2 ≤ 800 := fun v hv => by
    obtain ⟨w', hw, e⟩ := List.mem_map.mp hv
    subst e
    have h4 := Wh.total_le w'.1.table 100 (W.le w' hw)
    have h5 := (W.v w' hw).ok.1
    have h6 := (W.v w' hw).len8
    show total w'.1.table ≤ 800
    have h7 : w'.1.table.length * 100 ≤ 8 * 100 := Nat.mul_le_mul_right _ (by omega)
    omega
  have tpos : ∀ v ∈ nums vs, 0 < total v.2 := fun v hv => by
    obtain ⟨w', hw, e⟩ := List.mem_map.mp hv
    subst e
    exact (W.v w' hw).ok.2
  -- the product of the sums
  refine ⟨_, rfl, l, rfl, ⟨_, SqL.of hl⟩, for_list (K := K) (a := l) (xs := qs.map V.ref) (fun i σ H' => H' = H ∧ ∃ u : Option V, σ = [some (.ref l), some (.int (Wh.unitOf ((nums vs).take i) : Nat)), u, none, none, none, none, none, none, none]) ⟨rfl, none, rfl⟩ (fun i σ H' _ h => h.1 ▸ SqL.of hl) ?_ ?_⟩
  · rintro i y σ H' hi ⟨rfl, u, rfl⟩
    obtain ⟨q, hq, rfl⟩ := refs_at hi
    obtain ⟨v, t, hv, ⟨dv, h4⟩, h5⟩ := RV.byQ hq
    have hn := nums_at hv
    refine ⟨_, rfl, _, rfl, q, CV, dv, _, _, rfl, h4, T.clV, T.vT, rfl, t, v.1.table.map fun (x : Nat) => (x : Int), rfl, by rw [← nV_ints]; exact SqL.of h5, _, _, rfl, rfl, ?_, ?_⟩
    · rw [total_sum]
      have := t800 _ (List.mem_of_getElem? hn)
      exact .inr ⟨by omega, by show (total v.1.table : Int) < 2 ^ 64; have : total v.1.table ≤ 800 := this; omega⟩
    refine ⟨rfl, some (V.ref q), ?_⟩
    simp only [total_sum]
    rw [take_snoc hn, unit_snoc, Int.natCast_mul]
    rfl
  rintro σ H' ⟨rfl, u, rfl⟩
  rw [List.length_map, RV.len, show vs.length = (nums vs).length by unfold nums; rw [List.length_map], take_all]
  -- the dict
  refine fun d hd => ?_
  have s0 : Same H' (upd H' d (.dK [])) := same_new (Same.refl H') hd
  have uf := Wh.unit_fold (nums vs) 1 tpos (by omega)
  refine ⟨_, rfl, l, rfl, ⟨_, SqL.of (s0 _ _ hl)⟩, for_list (K := K) (a := l) (xs := qs.map V.ref) (fun i σ H1 => Same H' H1 ∧ (∃ r, (Wh.pairsOf (Wh.unitOf (nums vs)) ((nums vs).take i)).foldl Wh.addOne (some []) = some r ∧ H1 d = some (.dK (dkV r))) ∧ ∃ u2 u4 u5 u6 u7 : Option V, σ = [some (.ref l), some (.int (Wh.unitOf (nums vs) : Nat)), u2, some (.ref d), u4, u5, u6, u7, none, none])
    ⟨s0, ⟨[], rfl, upd_same⟩, _, none, none, none, none, rfl⟩ (fun i σ H1 _ h => SqL.of (h.1 _ _ hl)) ?_ ?_⟩
  · rintro i y σ H1 hi ⟨s1, ⟨r, er, hdr⟩, u2, u4, u5, u6, u7, rfl⟩
    obtain ⟨q, hq, rfl⟩ := refs_at hi
    obtain ⟨v, t, hv, ⟨dv, h4⟩, h5⟩ := (RV.same s1).byQ hq
    have hn := nums_at hv
    have mv := List.mem_of_getElem? hv
    have wv := W.v v mv
    have iv : i < vs.length := lt_of_at hv
    have tp : 0 < total v.1.table := wv.ok.2
    have t8 : total v.1.table ≤ 800 := t800 _ (List.mem_of_getElem? hn)
    have dvd : total v.1.table ∣ Wh.unitOf (nums vs) := uf.2.2 _ (List.mem_of_getElem? hn)
    -- weight
    refine ⟨_, rfl, _, rfl, q, CV, dv, _, _, rfl, h4, T.clV, T.vT, rfl, t, v.1.table.map fun (x : Nat) => (x : Int), rfl, by rw [← nV_ints]; exact SqL.of h5, _, _, rfl, rfl, ?_, ?_⟩
    · rw [total_sum]
      exact ⟨by omega, by omega⟩
    have ew : (Wh.unitOf (nums vs) : Int) / (total v.1.table : Int) = ((Wh.unitOf (nums vs) / total v.1.table : Nat) : Int) := by rw [Int.natCast_ediv]
    simp only [total_sum, ew]
    -- rows
    refine ⟨_, rfl, q, CV, dv, _, _, rfl, h4, T.clV, T.vA, rfl, ?_⟩
    refine ⟨_, rfl, wv.a16, fun H2 a s2 ha hal => ?_⟩
    have l8 := wv.len8
    have pl := wv.len
    have hlow : ∀ j, j ≤ (Wh.parts (numOf v.1.qs)).length → ((Wh.parts (numOf v.1.qs)).take j).length ≤ 8 := fun j _ => by rw [List.length_take]; omega
    refine ⟨_, rfl, a, rfl, ⟨_, SqL.of hal⟩, for_list (K := K) (a := a) (xs := nV (Wh.parts (numOf v.1.qs))) (fun j σ H3 => Same H' H3 ∧ H3 a = some (.lst (nV (Wh.parts (numOf v.1.qs)))) ∧ (∃ r, (Wh.pairsOf (Wh.unitOf (nums vs)) ((nums vs).take i) ++ ((Wh.parts (numOf v.1.qs)).take j).map fun p => (p, Wh.shareOf (Wh.unitOf (nums vs)) (Wh.num v.1) p)).foldl Wh.addOne (some []) = some r ∧ H3 d = some (.dK (dkV r))) ∧ ∃ u6 u7 : Option V, σ = [some (.ref l), some (.int (Wh.unitOf (nums vs) : Nat)), some (.ref q), some (.ref d), some (.int (Wh.unitOf (nums vs) / total v.1.table : Nat)), some (.ref a), u6, u7, none, none])
      ⟨s1.trans s2, hal, ⟨r, by rw [List.take_zero, List.map_nil, List.append_nil]; exact er, s2 _ _ hdr⟩, _, _, rfl⟩ (fun j σ H3 _ h => SqL.of h.2.1) ?_ ?_⟩
    · rintro j y σ H3 hj ⟨s3, ha3, ⟨r3, er3, hd3⟩, v6, v7, rfl⟩
      obtain ⟨p, hp, rfl⟩ := nV_at hj
      obtain ⟨v', t', hv', ⟨dv', h4'⟩, h5'⟩ := (RV.same s3).byQ hq
      rw [hv] at hv'
      cases hv'
      have cmp : (List.zip (Wh.parts (numOf v.1.qs)) v.1.table).length = 2 ^ v.1.qs.length := by rw [List.length_zip, pl, wv.ok.1]; omega
      -- sum([often ..])
      refine ⟨_, rfl, _, rfl, _, rfl, q, CV, dv', _, _, rfl, h4', T.clV, T.vT, rfl, a, t', _, _, rfl, SqL.of ha3, SqL.of h5', fun D hD => ?_⟩
      refine lc_it (walk_zip (n := 2 ^ v.1.qs.length) (by rw [nV_len, nV_len, pl, wv.ok.1]; omega)) (PvN H3 D fun k => nV ((((List.zip (Wh.parts (numOf v.1.qs)) v.1.table).take k).filter fun x => Wh.sup x.1 p).map fun x => x.2)) (pvn_start hD rfl) (fun k H4 _ pv => ⟨SqL.of (pv.1 _ _ ha3), SqL.of (pv.1 _ _ h5')⟩) ?_ ?_
      · rintro k y H4 H5 hk pv ⟨t2, xa, xb, rfl, ht2, rfl, ea, eb⟩
        obtain ⟨na, ea', rfl⟩ := nV_at ea
        obtain ⟨nb, eb', rfl⟩ := nV_at eb
        have s4 : Same H4 (upd H4 t2 (.tup [V.int (na : Int), V.int (nb : Int)])) := same_new (Same.refl H4) ht2
        have ez : (List.zip (Wh.parts (numOf v.1.qs)) v.1.table)[k]? = some (na, nb) := by rw [List.getElem?_zip_eq_some]; exact ⟨ea', eb'⟩
        refine ⟨t2, _, rfl, SqT.of upd_same, rfl, _, _, rfl, _, _, rfl, rfl, ?_⟩
        refine ⟨rfl, ?_⟩
        refine ⟨_, rfl, _, rfl, _, _, rfl, rfl, _, rfl, rfl, _, rfl, ?_⟩
        have esup : decide (V.int (Builtin.bitAnd (na : Int) (p : Int)) = V.int (p : Int)) = Wh.sup na p := by
          rw [band]
          unfold Wh.sup
          rw [Bool.eq_iff_iff, decide_eq_true_iff, beq_iff_eq]
          constructor
          · intro g; have := V.int.inj g; omega
          · intro g; rw [g]
        rw [esup]
        have flen : ((((List.zip (Wh.parts (numOf v.1.qs)) v.1.table).take k).filter fun x => Wh.sup x.1 p).map fun x => x.2).length ≤ 100 := by
          rw [List.length_map]
          refine Nat.le_trans (List.length_filter_le _ _) ?_
          rw [List.length_take]; omega
        cases cs : Wh.sup na p with
        | true =>
          refine iteT ?_
          refine ⟨_, rfl, pvn_next hD pv s4 ?_ (by rw [nV_len]; exact small (by omega))⟩
          rw [take_snoc ez, List.filter_append, List.map_append]
          simp only [List.filter_cons, cs, if_true, List.filter_nil]
          exact nV_snoc _ _
        | false =>
          refine iteF ?_
          refine pvn_skip pv s4 ?_
          rw [take_snoc ez, List.filter_append, List.map_append]
          simp only [List.filter_cons, cs, List.filter_nil]
          simp
      rintro H4 pv
      have eD : H4 D = some (.lst (nV ((((List.zip (Wh.parts (numOf v.1.qs)) v.1.table).take (2 ^ v.1.qs.length)).filter fun x => Wh.sup x.1 p).map fun x => x.2))) := pv.2
      rw [← cmp, take_all] at eD
      refine ⟨D, (((List.zip (Wh.parts (numOf v.1.qs)) v.1.table).filter fun x => Wh.sup x.1 p).map fun x => x.2).map fun (x : Nat) => (x : Int), rfl, by rw [← nV_ints]; exact SqL.of eD, _, _, rfl, rfl, ?_, ?_⟩
      · rw [total_sum]
        have := Wh.often_le (numOf v.1.qs) v.1.table p
        unfold Wh.often at this
        exact .inr ⟨by omega, by omega⟩
      have eshare : ((Wh.unitOf (nums vs) / total v.1.table : Nat) : Int) * ((total (((List.zip (Wh.parts (numOf v.1.qs)) v.1.table).filter fun x => Wh.sup x.1 p).map fun x => x.2) : Nat) : Int) = ((Wh.shareOf (Wh.unitOf (nums vs)) (Wh.num v.1) p : Nat) : Int) := by
        rw [← Int.natCast_mul]; rfl
      simp only [total_sum, eshare]
      have hd4 := pv.1 _ _ hd3
      have s34 := s3.trans pv.1
      -- shares.get(part, share) != share
      refine ⟨_, rfl, d, rfl, .inl ⟨_, .inl hd4⟩, _, rfl, _, rfl, _, DGet.k (k := Sum.inl (p : Int)) hd4, _, rfl, ?_⟩
      rw [dk_look]
      have held := (Wh.held_fold _ _ _ Wh.held_nil er3)
      have snoc : ((Wh.pairsOf (Wh.unitOf (nums vs)) ((nums vs).take i) ++ ((Wh.parts (numOf v.1.qs)).take (j + 1)).map fun p => (p, Wh.shareOf (Wh.unitOf (nums vs)) (Wh.num v.1) p)).foldl Wh.addOne (some [])) = Wh.addOne (some r3) (p, Wh.shareOf (Wh.unitOf (nums vs)) (Wh.num v.1) p) := by
        rw [take_snoc hp, List.map_append, ← List.append_assoc, List.foldl_append, er3]; rfl
      have pieces : Wh.pairsOf (Wh.unitOf (nums vs)) (nums vs) = (Wh.pairsOf (Wh.unitOf (nums vs)) ((nums vs).take i) ++ ((Wh.parts (numOf v.1.qs)).take (j + 1)).map fun p => (p, Wh.shareOf (Wh.unitOf (nums vs)) (Wh.num v.1) p)) ++ ((((Wh.parts (numOf v.1.qs)).drop (j + 1)).map fun p => (p, Wh.shareOf (Wh.unitOf (nums vs)) (Wh.num v.1) p)) ++ Wh.pairsOf (Wh.unitOf (nums vs)) ((nums vs).drop (i + 1))) := by
        have e1 : nums vs = (nums vs).take i ++ (Wh.num v.1 :: (nums vs).drop (i + 1)) := by
          have h1 := List.take_append_drop i (nums vs)
          rw [List.drop_eq_getElem_cons (lt_of_at hn), (List.getElem?_eq_some_iff.mp hn).2] at h1
          exact h1.symm
        have e2 : ∀ (u : Nat) (a b : List (Nat × List Nat)) (x : Nat × List Nat), Wh.pairsOf u (a ++ (x :: b)) = Wh.pairsOf u a ++ ((Wh.parts x.1).map (fun p => (p, Wh.shareOf u x p)) ++ Wh.pairsOf u b) := fun u a b x => by
          unfold Wh.pairsOf; rw [List.flatMap_append, List.flatMap_cons]
        conv => lhs; arg 2; rw [e1]
        rw [e2]
        have e3 : (Wh.parts (Wh.num v.1).1).map (fun p => (p, Wh.shareOf (Wh.unitOf (nums vs)) (Wh.num v.1) p)) = ((Wh.parts (numOf v.1.qs)).take (j + 1)).map (fun p => (p, Wh.shareOf (Wh.unitOf (nums vs)) (Wh.num v.1) p)) ++ ((Wh.parts (numOf v.1.qs)).drop (j + 1)).map (fun p => (p, Wh.shareOf (Wh.unitOf (nums vs)) (Wh.num v.1) p)) := by
          rw [← List.map_append, List.take_append_drop]; rfl
        rw [e3]
        simp only [List.append_assoc]
      have plen : (((Wh.parts (numOf v.1.qs)).take j).map fun p => (p, Wh.shareOf (Wh.unitOf (nums vs)) (Wh.num v.1) p)).length ≤ 8 := by rw [List.length_map]; exact hlow j (by have := lt_of_at hp; omega)
      have hlen2 : (Wh.pairsOf (Wh.unitOf (nums vs)) ((nums vs).take i)).length ≤ 100 := by
        have gen : ∀ (l : List (Nat × List Nat)), (∀ x ∈ l, (Wh.parts x.1).length ≤ 8) → (Wh.pairsOf (Wh.unitOf (nums vs)) l).length ≤ l.length * 8 := fun l => by
          induction l with
          | nil => intro _; simp [Wh.pairsOf]
          | cons x l ih =>
            intro h
            have h1 := ih (fun y hy => h y (List.mem_cons_of_mem _ hy))
            have h2 := h x List.mem_cons_self
            unfold Wh.pairsOf at h1 ⊢
            rw [List.flatMap_cons, List.length_append, List.length_map, List.length_cons]
            omega
        have h1 := gen ((nums vs).take i) (fun x hx => by
          obtain ⟨w', hw, e⟩ := List.mem_map.mp (List.mem_of_mem_take hx)
          subst e
          have h5 := (W.v w' hw).len8
          have h6 := (W.v w' hw).len
          show (Wh.parts (numOf w'.1.qs)).length ≤ 8
          omega)
        rw [List.length_take] at h1
        have h2 : (nums vs).length = vs.length := List.length_map _
        have h3 : min i (nums vs).length * 8 ≤ 6 * 8 := Nat.mul_le_mul_right _ (by omega)
        omega
      have rlen : (dkV r3).length < sizeLine := by
        have h1 := held.2.1
        rw [List.length_append] at h1
        unfold dkV
        rw [List.length_map]
        simp at h1
        refine small ?_
        simp at plen
        omega
      cases el : r3.lookup p with
      | none =>
        refine ⟨rfl, _, rfl, ?_⟩
        rw [show (!decide ((Option.map (fun (y : Nat) => V.int (y : Int)) none).getD (V.int ((Wh.shareOf (Wh.unitOf (nums vs)) (Wh.num v.1) p : Nat) : Int)) = V.int ((Wh.shareOf (Wh.unitOf (nums vs)) (Wh.num v.1) p : Nat) : Int))) = false by simp]
        refine iteF ?_
        refine ⟨_, rfl, _, rfl, _, rfl, d, _, rfl, DPut.k (k := Sum.inl (p : Int)) hd4 rlen, ?_⟩
        refine ⟨same_keep s34 hd, (upd_ne (ne_of (pv.1 _ _ ha3) hd4 (by intro g; cases g))).trans (pv.1 _ _ ha3), ⟨r3 ++ [(p, Wh.shareOf (Wh.unitOf (nums vs)) (Wh.num v.1) p)], ?_, ?_⟩, _, _, rfl⟩
        · rw [snoc]
          unfold Wh.addOne
          simp only [el]
        · rw [upd_same, dk_put_new (x := (p, Wh.shareOf (Wh.unitOf (nums vs)) (Wh.num v.1) p)) el]
      | some y =>
        refine ⟨rfl, _, rfl, ?_⟩
        by_cases cy : y = Wh.shareOf (Wh.unitOf (nums vs)) (Wh.num v.1) p
        · rw [show (!decide ((Option.map (fun (y : Nat) => V.int (y : Int)) (some y)).getD (V.int ((Wh.shareOf (Wh.unitOf (nums vs)) (Wh.num v.1) p : Nat) : Int)) = V.int ((Wh.shareOf (Wh.unitOf (nums vs)) (Wh.num v.1) p : Nat) : Int))) = false by simp [cy]]
          refine iteF ?_
          refine ⟨_, rfl, _, rfl, _, rfl, d, _, rfl, DPut.k (k := Sum.inl (p : Int)) hd4 rlen, ?_⟩
          refine ⟨same_keep s34 hd, (upd_ne (ne_of (pv.1 _ _ ha3) hd4 (by intro g; cases g))).trans (pv.1 _ _ ha3), ⟨r3, ?_, ?_⟩, _, _, rfl⟩
          · rw [snoc]
            unfold Wh.addOne
            simp only [el]
            rw [if_pos cy]
          · rw [upd_same, dk_put_same (x := (p, Wh.shareOf (Wh.unitOf (nums vs)) (Wh.num v.1) p)) held.1 (by rw [el, cy])]
        · rw [show (!decide ((Option.map (fun (y : Nat) => V.int (y : Int)) (some y)).getD (V.int ((Wh.shareOf (Wh.unitOf (nums vs)) (Wh.num v.1) p : Nat) : Int)) = V.int ((Wh.shareOf (Wh.unitOf (nums vs)) (Wh.num v.1) p : Nat) : Int))) = true by
            simp
            exact fun g => cy (by omega)]
          refine iteT ?_
          refine kN H4 s34 ?_
          unfold Wh.shares
          rw [pieces]
          refine fold_none_more _ _ _ ?_
          rw [snoc]
          unfold Wh.addOne
          simp only [el]
          rw [if_neg cy]
    · rintro σ H3 ⟨s3, ha3, ⟨r3, er3, hd3⟩, v6, v7, rfl⟩
      refine ⟨s3, ⟨r3, ?_, hd3⟩, _, _, _, _, _, rfl⟩
      rw [nV_len, take_all] at er3
      rw [take_snoc hn, pairs_snoc]
      exact er3
  · rintro σ H1 ⟨s1, ⟨r, er, hdr⟩, u2, u4, u5, u6, u7, rfl⟩
    rw [List.length_map, RV.len, show vs.length = (nums vs).length by unfold nums; rw [List.length_map], take_all] at er
    exact ⟨_, rfl, kS H1 d r s1 hd er hdr⟩
end
end Dv
end
section
set_option Elab.async false
set_option maxRecDepth 100000
set_option maxHeartbeats 4000000
set_option exponentiation.threshold 2000
namespace Dv
open PySem PySem.Spec PyProof.Rows L2
open Kp351 (setOf View numOf total)

def vsOf (vs : List (View × Nat)) : List View := vs.map Prod.fst
theorem nums_vs (vs : List (View × Nat)) : nums vs = (vsOf vs).map Wh.num := by unfold nums vsOf; rw [List.map_map]; rfl
theorem Vws.of {n : Nat} {vs : List (View × Nat)} (W : Vws n vs) : ∀ v ∈ vsOf vs, Wh.Vw n v := fun v hv => by
  obtain ⟨u, hu, e⟩ := List.mem_map.mp hv
  subst e; exact W.v u hu
theorem Vws.le' {n : Nat} {vs : List (View × Nat)} (W : Vws n vs) : ∀ v ∈ vsOf vs, ∀ x ∈ v.table, x ≤ 100 := fun v hv => by
  obtain ⟨u, hu, e⟩ := List.mem_map.mp hv
  subst e; exact W.le u hu
/-- a yes or no of the views that are handed in -/
def spAsk (CV : Addr) (D : Nat → List View → Prop) : Sp := fun us H Q _ => ∃ (l : Addr) (qs : List Addr) (n : Nat) (vs : List (View × Nat)), us = [.int n, .ref l] ∧ H l = some (.lst (qs.map V.ref)) ∧ RdV CV H qs vs ∧ Vws n vs ∧
  ∀ (H' : Hp) (b : Bool), Same H H' → (b = true ↔ D n (vsOf vs)) → Q (.bl b) H'
def dWhole (n : Nat) (vs : List View) : Prop := ∃ p, Sh.HasAll n vs p

theorem pow_rng : ∀ n, n < 5 → -(2 ^ 62 : Int) ≤ ((2 ^ n : Nat) : Int) ∧ ((2 ^ n : Nat) : Int) < 2 ^ 62 := by decide

section
variable {P : Program} {w : World} {K : PySem.W.Frag} {mg : Str → Option Value} {base : Heap} {CS CV : Addr}
abbrev s_has_whole : Stmt := top 35
theorem sc_has_whole : FnScope ["questions", "views", "shares", "equations", "part", "share", "equation", "world"] ["questions", "views"] (defScope s_has_whole) := ⟨rfl, rfl, rfl, by decide +kernel, rfl, by decide +kernel, by decide +kernel⟩
theorem ok_has_whole {f f1 f2 : Addr} {fd fd1 fd2 : FuncData} (F : Fun K "has_whole" "has_whole" s_has_whole f fd) (T : Txt K mg CS CV) (c_shares_of_parts : Cal P w K mg base "shares_of_parts" 2 ["views"] (spShares CV) f1 fd1)
    (c_solvable : Cal P w K mg base "solvable" 3 ["equations"] spSolvable f2 fd2) : FnOk P w K mg base CX0 4 f fd ["questions", "views"] (spAsk CV dWhole) := by
  refine F.ok sc_has_whole (fun vs H Q E h => ?_) (fun cdv A outer s H vs Q E hr h => ?_)
  · obtain ⟨l, qs, n, vs, rfl, _⟩ := h; rfl
  obtain ⟨l, qs, n, vs, rfl, hl, RV, W, k⟩ := h
  refine ⟨_, (pss_cons (ps_set (i := 2) sc_has_whole.nd rfl (Or.inl rfl) (pe_call c_shares_of_parts.ok (hr.mono (by decide)) rfl c_shares_of_parts.mg c_shares_of_parts.kp c_shares_of_parts.b .nil pass0 (pa_cons (pv 1) pa_nil)))
        (pss_cons (ps_if (pt_cmp (pc_isN (pv 2))) (pss_one (ps_ret pe_bl)) pss_nil)
        (pss_cons (ps_set (i := 3) sc_has_whole.nd rfl (Or.inl rfl) (pe_lst pa_nil))
        (pss_cons (ps_lock (ps_for PassesOwn.never rfl (pi_items (pv 2)) (pg_tup rfl (pgs_cons (pg_name (i := 4) sc_has_whole.nd rfl (Or.inr rfl)) (pgs_cons (pg_name (i := 5) sc_has_whole.nd rfl (Or.inl rfl)) pgs_nil))) (pss_cons (ps_setLc (i := 6) (own := [("world", 7)]) (g := gName 7) (tt := tYes) rfl sc_has_whole.nd rfl rfl (sw_true rfl rfl rfl (by decide +kernel)) (pi_range1 rfl T.range (pa_cons (pe_op op_shl pe_int (pv 0)) pa_nil)) (blkOk_by (N := ["questions", "views", "shares", "equations", "part", "share", "equation", "world"]) (sc := defScope s_has_whole) (by decide +kernel)) (fun _ _ _ _ _ => by exact pg_name (i := 7) sc_has_whole.nd rfl (Or.inl rfl)) (fun _ _ _ _ _ => pts_nil) (fun _ _ _ _ _ => by exact (pe_ifExp (pt_cmpR op_eq (pe_op op_and (pv 7) (pv 4)) (pv 4) (nomark _)) pe_int pe_int)))
          (pss_cons (ps_expr (pe_bm PySem.F.plainAttrs_list PySem.F.slot_list_append PySem.F.type_list_append mt_append (pv 6) (pa_cons (pv 5) pa_nil)))
          (pss_one (ps_expr (pe_bm PySem.F.plainAttrs_list PySem.F.slot_list_append PySem.F.type_list_append mt_append (pv 3) (pa_cons (pv 6) pa_nil))))))))
        (pss_one (ps_ret (pe_call c_solvable.ok (hr.mono (by decide)) rfl c_solvable.mg c_solvable.kp c_solvable.b .nil pass0 (pa_cons (pv 3) pa_nil)))))))), ?_⟩
  have n4 := W.n4
  refine ⟨_, rfl, l, qs, n, vs, rfl, hl, RV, W, fun H1 s1 e => ?_, fun H1 d r s1 hd e hdr => ?_⟩
  · refine ⟨_, rfl, _, rfl, ?_⟩
    refine k H1 false s1 ⟨fun g => Bool.noConfusion g, fun g => absurd g ?_⟩
    rw [nums_vs] at e
    exact Wh.none_whole W.of e
  refine ⟨_, rfl, _, rfl, ?_⟩
  show if false = true then _ else _
  refine iteF ?_
  rw [nums_vs] at e
  have few := Wh.eqs_few W.of W.le' (by unfold vsOf; rw [List.length_map]; exact W.six) e
  refine ⟨Nat.zero_le _, fun q hq => ?_⟩
  have dq : d ≠ q := fun g => by rw [← g, hdr] at hq; cases hq
  have s2 : Same H1 (upd H1 q (.lst [])) := same_new (Same.refl H1) hq
  refine ⟨d, _, s2 _ _ hdr, trivial, fun od => ?_⟩
  have two16 : 2 ^ n ≤ 2 ^ 4 := Nat.pow_le_pow_right (by omega) (by omega)
  refine ⟨_, rfl, d, od, _, rfl, upd_same, ?_⟩
  have klen : (dkV r).length = r.length := List.length_map _
  refine for_it walk_items (fun i σ H2 => (∀ b o, H1 b = some o → b ≠ d → H2 b = some o) ∧ H2 d = some (.frz od (.dK (dkV r))) ∧ (∃ rs : List Addr, RowsAt H2 q rs (Wh.equations n (r.take i))) ∧ ∃ u4 u5 u6 : Option V, σ = [some (.int n), some (.ref l), some (.ref d), some (.ref q), u4, u5, u6, none])
    ⟨fun b o e nb => by rw [upd_ne nb]; exact s2 _ _ e, upd_same, ⟨[], by rw [upd_ne dq.symm]; exact upd_same, rfl, fun i row e => by simp [Wh.equations] at e⟩, none, none, none, rfl⟩ (fun i σ H2 _ h => h.2.1) ?_ ?_
  · rintro i x σ H2 H3 hi ⟨fr, hd2, ⟨rs, RA⟩, u4, u5, u6, rfl⟩ ⟨t, xk, xv, rfl, ht, rfl, ek, ev⟩
    rw [klen] at hi
    obtain ⟨y, hy⟩ : ∃ y, r[i]? = some y := ⟨_, List.getElem?_eq_getElem hi⟩
    have edk : (dkV r)[i]? = some (Sum.inl (y.1 : Int), V.int (y.2 : Int)) := by unfold dkV; rw [List.getElem?_map, hy]; rfl
    have ek' : (dkV r)[i]?.map (fun kv => kV kv.1) = some xk := ek
    have ev' : (dkV r)[i]?.map Prod.snd = some xv := ev
    rw [edk] at ek' ev'
    cases ek'
    cases ev'
    have s3 : Same H2 (upd H2 t (.tup [kV (Sum.inl (y.1 : Int)), V.int (y.2 : Int)])) := same_new (Same.refl H2) ht
    refine ⟨t, _, rfl, SqT.of upd_same, rfl, _, _, rfl, _, _, rfl, rfl, ?_⟩
    -- equation = [1 if world & part == part else 0 for world in range(1 << questions)]
    refine ⟨_, rfl, _, _, rfl, rfl, ⟨by omega, by omega, by decide⟩, _, rfl, ?_, ?_, fun D hD => ?_⟩
    · rw [shl_pow]; exact (pow_rng n n4).1
    · rw [shl_pow]; exact (pow_rng n n4).2
    rw [shl_pow, Int.toNat_natCast]
    refine lc_it walk_nat (PvN _ D fun j => aV ((List.range j).map fun w => if Wh.sup w y.1 = true then 1 else 0)) (pvn_start hD rfl) (fun _ _ _ _ => trivial) ?_ ?_
    · rintro j z H4 H5 hj pv ⟨rfl, rfl⟩
      refine ⟨rfl, ?_⟩
      refine ⟨_, rfl, _, rfl, _, _, rfl, rfl, _, rfl, rfl, _, rfl, ?_⟩
      have esup : decide (V.int (Builtin.bitAnd (j : Int) (y.1 : Int)) = V.int (y.1 : Int)) = Wh.sup j y.1 := by
        rw [band]
        unfold Wh.sup
        rw [Bool.eq_iff_iff, decide_eq_true_iff, beq_iff_eq]
        constructor
        · intro g; have := V.int.inj g; omega
        · intro g; rw [g]
      have nx : ∀ z : Int, z = (if Wh.sup j y.1 = true then 1 else 0) → ∃ acc, H5 D = some (.lst acc) ∧ acc.length < sizeLine ∧ PvN (upd H2 t (.tup [kV (Sum.inl (y.1 : Int)), V.int (y.2 : Int)])) D (fun j => aV ((List.range j).map fun w => if Wh.sup w y.1 = true then 1 else 0)) (j + 1) (upd H5 D (.lst (acc ++ [V.int z]))) := fun z ez => by
        refine pvn_next hD pv (Same.refl _) ?_ (by rw [aV_len, List.length_map, List.length_range]; exact small (by omega))
        rw [range_take_succ, ez]
        exact aV_snoc _ _
      show if decide (V.int (Builtin.bitAnd (j : Int) (y.1 : Int)) = V.int (y.1 : Int)) = true then _ else _
      rw [esup]
      cases cs : Wh.sup j y.1 with
      | true => exact iteT (nx 1 (by rw [cs]; rfl))
      | false => exact iteF (nx 0 (by rw [cs]; rfl))
    rintro H4 pv
    have s34 := s3.trans pv.1
    have eD : H4 D = some (.lst (aV ((List.range (2 ^ n)).map fun w => if Wh.sup w y.1 = true then 1 else 0))) := pv.2
    -- equation.append(share)
    refine ⟨_, rfl, .inl ⟨rfl, _, SqL.of eD⟩, _, rfl, D, _, _, rfl, rfl, eD, (by rw [aV_len, List.length_map, List.length_range]; exact small (by omega)), ?_⟩
    -- equations.append(equation)
    have hq4 := s34 _ _ RA.lst
    have Dq : D ≠ q := fun g => by
      have := s3 _ _ RA.lst
      rw [← g, hD] at this; cases this
    have len : rs.length = (r.take i).length := by rw [RA.len]; exact List.length_map _
    refine ⟨_, rfl, .inl ⟨rfl, _, SqL.of ((upd_ne Dq.symm).trans hq4)⟩, _, rfl, q, _, _, rfl, rfl, (upd_ne Dq.symm).trans hq4, (by rw [List.length_map, len, List.length_take]; exact small (by have := few.1; omega)), ?_⟩
    have D2 : H2 D = none := s3.free hD
    have eeq : aV ((List.range (2 ^ n)).map fun w => if Wh.sup w y.1 = true then (1 : Int) else 0) ++ [V.int (y.2 : Int)] = aV (Wh.equation n y) := by
      unfold Wh.equation; rw [aV_snoc]
    have kp : ∀ b o, H2 b = some o → b ≠ q → ∀ o1 o2, upd (upd H4 D o1) q o2 b = some o := fun b o e nb o1 o2 => by
      rw [upd_ne nb, upd_ne (ne_of_none e D2)]; exact s34 _ _ e
    refine ⟨fun b o e nb => ?_, kp _ _ hd2 dq _ _, ⟨rs ++ [D], ?_, ?_, fun a row e => ?_⟩, _, _, _, rfl⟩
    · have hb2 := fr b o e nb
      by_cases g : b = q
      · rw [g, hq] at e; cases e
      · exact kp _ _ hb2 g _ _
    · rw [upd_same, List.map_append]; rfl
    · rw [take_snoc hy]
      unfold Wh.equations
      rw [List.length_append, List.length_map, List.length_append, len]; rfl
    · rw [take_snoc hy] at e
      unfold Wh.equations at e
      rw [List.map_append] at e
      by_cases g : a < rs.length
      · rw [List.getElem?_append_left (by rw [List.length_map, ← len]; exact g)] at e
        obtain ⟨r', h1, h2⟩ := RA.at_ a row e
        refine ⟨r', by rw [List.getElem?_append_left g]; exact h1, kp _ _ h2 ?_ _ _⟩
        refine not_refs h2 RA.lst ?_
        rw [List.getElem?_map] at e
        cases c : (r.take i)[a]? with
        | none => rw [c] at e; cases e
        | some z =>
          rw [c] at e
          cases e
          rw [Wh.equation_len]; exact Nat.succ_pos _
      · have ha := lt_of_at e
        rw [List.length_append, List.length_map, ← len] at ha
        have ea : a = rs.length := by simp at ha; omega
        rw [List.getElem?_append_right (by rw [List.length_map, ← len]; omega), List.length_map, ← len, ea] at e
        simp at e
        subst e
        refine ⟨D, by rw [ea, List.getElem?_append_right (Nat.le_refl _)]; simp, ?_⟩
        rw [upd_ne Dq, upd_same, eeq]
  · rintro σ H2 ⟨fr, hd2, ⟨rs, RA⟩, u4, u5, u6, rfl⟩
    rw [klen, take_all] at RA
    refine ⟨hd2, ?_⟩
    -- return solvable(equations)
    have back : ∀ b o, H1 b = some o → upd H2 d (.dK (dkV r)) b = some o := fun b o e => by
      by_cases g : b = d
      · rw [g, hdr] at e
        cases e
        rw [g, upd_same]
      · rw [upd_ne g]; exact fr b o e g
    have RA' : RowsAt (upd H2 d (.dK (dkV r))) q rs (Wh.equations n r) := by
      have nd : ∀ b o, H2 b = some (.lst o) → b ≠ d := fun b o e g => by rw [g, hd2] at e; cases e
      refine ⟨by rw [upd_ne (nd _ _ RA.lst)]; exact RA.lst, RA.len, fun i row e => ?_⟩
      obtain ⟨r', h1, h2⟩ := RA.at_ i row e
      exact ⟨r', h1, by rw [upd_ne (nd _ _ h2)]; exact h2⟩
    refine ⟨_, rfl, q, rs, _, 2 ^ n, rfl, RA', ⟨?_, by omega, fun row hr => ?_, few.2⟩, fun H3 b s3 hb => ?_⟩
    · show (r.map _).length ≤ 16
      rw [List.length_map]; exact few.1
    · obtain ⟨y, hy, e⟩ := List.mem_map.mp hr
      subst e
      exact Wh.equation_len n y
    · refine k H3 b (s1.trans (Same.trans back s3)) (hb.trans ?_)
      exact (Wh.some_whole W.of e).symm
end
end Dv
end
section
set_option Elab.async false
set_option maxRecDepth 100000
set_option maxHeartbeats 4000000
set_option exponentiation.threshold 2000
namespace Dv
open PySem PySem.Spec PyProof.Rows L2
open Kp351 (setOf View numOf total)

/-- so often, of the first pairs -/
def mUp (Z : List (Nat × Nat)) (s i p : Nat) : Nat := total (((Z.take i).filter fun x => x.1 &&& s == p).map fun x => x.2)
def mAny (Z : List (Nat × Nat)) (s i p : Nat) : Bool := (Z.take i).any fun x => x.1 &&& s == p
theorem total_snoc (l : List Nat) (x : Nat) : total (l ++ [x]) = total l + x := by
  unfold total
  rw [List.foldl_append]; rfl
theorem mUp_succ {Z : List (Nat × Nat)} {s i : Nat} {x : Nat × Nat} (h : Z[i]? = some x) (p : Nat) : mUp Z s (i + 1) p = if x.1 &&& s = p then mUp Z s i p + x.2 else mUp Z s i p := by
  unfold mUp
  rw [take_snoc h, List.filter_append, List.map_append]
  by_cases c : x.1 &&& s = p
  · rw [if_pos c]
    have : (x.1 &&& s == p) = true := by simpa using c
    simp only [List.filter_cons, this, if_true, List.filter_nil, List.map_cons, List.map_nil]
    exact total_snoc _ _
  · rw [if_neg c]
    have : (x.1 &&& s == p) = false := by simpa using c
    simp [this]
theorem mAny_succ {Z : List (Nat × Nat)} {s i : Nat} {x : Nat × Nat} (h : Z[i]? = some x) (p : Nat) : mAny Z s (i + 1) p = (mAny Z s i p || (x.1 &&& s == p)) := by
  unfold mAny
  rw [take_snoc h, List.any_append]; simp
theorem mUp_none {Z : List (Nat × Nat)} {s i p : Nat} (h : mAny Z s i p = false) : mUp Z s i p = 0 := by
  unfold mUp mAny at *
  have : (Z.take i).filter (fun x => x.1 &&& s == p) = [] := List.filter_eq_nil_iff.mpr (fun x hx => by
    have := List.any_eq_false.mp h x hx
    exact this)
  rw [this]; rfl
/-- what a margin's dict tells -/
def MgAt (kvs : List (Key × V)) (v : View) (s : Nat) : Prop := ∀ p ∈ Wh.parts (numOf v.qs), valV kvs (Sum.inl ((p &&& s : Nat) : Int)) = some (.int ((Kn.margN (Wh.num v) s (p &&& s) : Nat) : Int))
def spMargin (CV : Addr) : Sp := fun us H Q _ => ∃ (q t : Addr) (s n : Nat) (v : View) (z : Nat), us = [.ref q, .int s] ∧ VwAt CV H q t v z ∧ Wh.Vw n v ∧
  ∀ (H' : Hp) (d : Addr) (kvs : List (Key × V)), Same H H' → H d = none → H' d = some (.dK kvs) → MgAt kvs v s → Q (.ref d) H'
def spAgree (CV : Addr) : Sp := fun us H Q _ => ∃ (q t q2 t2 : Addr) (n : Nat) (v v2 : View) (z z2 : Nat), us = [.ref q, .ref q2] ∧ VwAt CV H q t v z ∧ VwAt CV H q2 t2 v2 z2 ∧ Wh.Vw n v ∧ Wh.Vw n v2 ∧ (∀ x ∈ v.table, x ≤ 100) ∧ (∀ x ∈ v2.table, x ≤ 100) ∧
  ∀ (H' : Hp), Same H H' → Q (.bl (Kp351.agree v v2)) H'
theorem and_parts : ∀ a, a < 16 → ∀ b, b < 16 → ∀ p, p ∈ Wh.parts (a &&& b) → p ∈ Wh.parts a ∧ p ∈ Wh.parts b ∧ p &&& (a &&& b) = p := by decide +kernel

section
variable {P : Program} {w : World} {K : PySem.W.Frag} {mg : Str → Option Value} {base : Heap} {CS CV : Addr}
abbrev s_margin : Stmt := top 43
theorem sc_margin : FnScope ["view", "some", "often", "row", "seen", "part"] ["view", "some"] (defScope s_margin) := ⟨rfl, rfl, rfl, by decide +kernel, rfl, by decide +kernel, by decide +kernel⟩
theorem ok_margin {f fp : Addr} {fd fdp : FuncData} (F : Fun K "margin" "margin" s_margin f fd) (T : Txt K mg CS CV) (c_parts : Cal P w K mg base "parts" 1 ["number"] spParts fp fdp) : FnOk P w K mg base CX0 2 f fd ["view", "some"] (spMargin CV) := by
  refine F.ok sc_margin (fun vs H Q E h => ?_) (fun cdv A outer s H vs Q E hr h => ?_)
  · obtain ⟨q, t, s, n, v, z, rfl, _⟩ := h; rfl
  obtain ⟨q, t, s, n, v, z, rfl, ⟨⟨dv, h4⟩, h5⟩, wv, k⟩ := h
  refine ⟨_, (pss_cons (ps_set (i := 2) sc_margin.nd rfl (Or.inl rfl) pe_dnewK)
        (pss_cons (ps_for PassesOwn.never rfl (pi_zip rfl T.zip (pa_cons (pe_call c_parts.ok (hr.mono (by decide)) rfl c_parts.mg c_parts.kp c_parts.b .nil pass0 (pa_cons (pe_fld (pv 0) rfl) pa_nil)) (pa_cons (pe_fld (pv 0) rfl) pa_nil))) (pg_tup rfl (pgs_cons (pg_name (i := 3) sc_margin.nd rfl (Or.inl rfl)) (pgs_cons (pg_name (i := 4) sc_margin.nd rfl (Or.inl rfl)) pgs_nil))) (pss_cons (ps_set (i := 5) sc_margin.nd rfl (Or.inl rfl) (pe_op op_and (pv 3) (pv 1)))
          (pss_one (ps_dput (hu_of hr) (pv 2) (pv 5) (pe_op op_add (pe_dget2 (hu_of hr) (pv 2) (pv 5) pe_int ⟨rfl, rfl, rfl, rfl⟩) (pv 4)) rfl))))
        (pss_one (ps_ret (pv 2))))), ?_⟩
  have l8 := wv.len8
  have pl := wv.len
  refine fun d hd => ?_
  have s0 : Same H (upd H d (.dK [])) := same_new (Same.refl H) hd
  refine ⟨_, rfl, q, CV, dv, _, _, rfl, s0 _ _ h4, T.clV, T.vA, rfl, ?_⟩
  refine ⟨_, rfl, wv.a16, fun H2 a s2 ha hal => ?_⟩
  have s02 := s0.trans s2
  refine ⟨_, rfl, q, CV, dv, _, _, rfl, s02 _ _ h4, T.clV, T.vT, rfl, ?_⟩
  refine ⟨a, t, _, _, rfl, SqL.of hal, SqL.of (s02 _ _ h5), ?_⟩
  refine for_it (walk_zip (n := 2 ^ v.qs.length) (by rw [nV_len, nV_len, pl, wv.ok.1]; omega)) (fun i σ H3 => Same H H3 ∧ H3 a = some (.lst (nV (Wh.parts (numOf v.qs)))) ∧ H3 t = some (.lst (nV v.table)) ∧ (∃ kvs, H3 d = some (.dK kvs) ∧ kvs.length ≤ i ∧ ∀ p : Nat, valV kvs (Sum.inl (p : Int)) = if mAny ((Wh.parts (numOf v.qs)).zip v.table) s i p = true then some (.int (mUp ((Wh.parts (numOf v.qs)).zip v.table) s i p : Nat)) else none) ∧ ∃ u3 u4 u5 : Option V, σ = [some (.ref q), some (.int s), some (.ref d), u3, u4, u5])
    ⟨s02, hal, s02 _ _ h5, ⟨[], s2 _ _ upd_same, Nat.zero_le _, fun p => rfl⟩, none, none, none, rfl⟩ (fun i σ H3 _ h => ⟨SqL.of h.2.1, SqL.of h.2.2.1⟩) ?_ ?_
  · rintro i y σ H3 H4 hi ⟨s3, sa, st, ⟨kvs, hdk, kl, look⟩, u3, u4, u5, rfl⟩ ⟨t2, xa, xb, rfl, ht2, rfl, ea, eb⟩
    obtain ⟨na, ea', rfl⟩ := nV_at ea
    obtain ⟨nb, eb', rfl⟩ := nV_at eb
    have s4 : Same H3 (upd H3 t2 (.tup [V.int (na : Int), V.int (nb : Int)])) := same_new (Same.refl H3) ht2
    have ez : (List.zip (Wh.parts (numOf v.qs)) v.table)[i]? = some (na, nb) := by rw [List.getElem?_zip_eq_some]; exact ⟨ea', eb'⟩
    refine ⟨t2, _, rfl, SqT.of upd_same, rfl, _, _, rfl, _, _, rfl, rfl, ?_⟩
    have hd4 := s4 _ _ hdk
    have lk := look (na &&& s)
    have step : ∀ m : Nat, m = mUp ((Wh.parts (numOf v.qs)).zip v.table) s i (na &&& s) → (((if mAny ((Wh.parts (numOf v.qs)).zip v.table) s i (na &&& s) = true then some (V.int (mUp ((Wh.parts (numOf v.qs)).zip v.table) s i (na &&& s) : Nat)) else none) : Option V).getD (.int 0)) = V.int (m : Int) := fun m hm => by
      cases c : mAny ((Wh.parts (numOf v.qs)).zip v.table) s i (na &&& s) with
      | true => rw [if_pos rfl, hm]; rfl
      | false => rw [if_neg Bool.false_ne_true, hm, mUp_none c]; rfl
    refine ⟨_, rfl, _, rfl, _, _, rfl, rfl, ?_⟩
    refine ⟨_, rfl, d, rfl, .inl ⟨kvs, .inl hd4⟩, _, rfl, _, DGet.k (k := Sum.inl ((na &&& s : Nat) : Int)) hd4, _, rfl, ((mUp ((Wh.parts (numOf v.qs)).zip v.table) s i (na &&& s) : Nat) : Int), _, by rw [lk]; exact step _ rfl, rfl, ?_⟩
    refine ⟨_, rfl, _, rfl, _, _, rfl, DPut.k (k := Sum.inl ((na &&& s : Nat) : Int)) hd4 (small (by omega)), ?_⟩
    have ad : a ≠ d := ne_of sa hdk (by intro z; cases z)
    have td : t ≠ d := ne_of st hdk (by intro z; cases z)
    refine ⟨same_keep (s3.trans s4) hd, (upd_ne ad).trans (s4 _ _ sa), (upd_ne td).trans (s4 _ _ st), ⟨_, upd_same, Nat.le_trans (length_putK _ _ _) (by omega), fun p => ?_⟩, _, _, _, rfl⟩
    rw [valV_put, mUp_succ ez, mAny_succ ez]
    by_cases c : na &&& s = p
    · rw [if_pos (by rw [c]), if_pos c, c]
      rw [beq_self_eq_true, Bool.or_true, if_pos rfl, Int.natCast_add]
    · rw [if_neg (fun g => c (by have := Sum.inl.inj g; omega)), if_neg c]
      have : ((na, nb).1 &&& s == p) = false := by simpa using c
      rw [this, Bool.or_false]
      exact look p
  · rintro σ H3 ⟨s3, sa, st, ⟨kvs, hdk, kl, look⟩, u3, u4, u5, rfl⟩
    refine ⟨_, rfl, ?_⟩
    refine k H3 d kvs s3 hd hdk fun p hp => ?_
    have zl : ((Wh.parts (numOf v.qs)).zip v.table).length = 2 ^ v.qs.length := by rw [List.length_zip, pl, wv.ok.1]; omega
    rw [look]
    have e1 : mUp ((Wh.parts (numOf v.qs)).zip v.table) s (2 ^ v.qs.length) (p &&& s) = Kn.margN (Wh.num v) s (p &&& s) := by
      unfold mUp Kn.margN Wh.num
      rw [← zl, take_all]
    have e2 : mAny ((Wh.parts (numOf v.qs)).zip v.table) s (2 ^ v.qs.length) (p &&& s) = true := by
      unfold mAny
      rw [← zl, take_all]
      obtain ⟨j, hj, e⟩ := List.getElem_of_mem hp
      refine List.any_eq_true.mpr ⟨((Wh.parts (numOf v.qs))[j], v.table[j]'(by rw [wv.ok.1, ← pl]; exact hj)), ?_, ?_⟩
      · refine List.mem_of_getElem? (i := j) ?_
        rw [List.getElem?_zip_eq_some]
        exact ⟨List.getElem?_eq_getElem hj, List.getElem?_eq_getElem _⟩
      · rw [e]; exact beq_self_eq_true _
    rw [e2, if_pos rfl, e1]
abbrev s_agree : Stmt := top 42
theorem sc_agree : FnScope ["one", "other", "both", "ours", "theirs", "part"] ["one", "other"] (defScope s_agree) := ⟨rfl, rfl, rfl, by decide +kernel, rfl, by decide +kernel, by decide +kernel⟩
theorem ok_agree {f fp fm : Addr} {fd fdp fdm : FuncData} (F : Fun K "agree" "agree" s_agree f fd) (T : Txt K mg CS CV) (c_parts : Cal P w K mg base "parts" 1 ["number"] spParts fp fdp) (c_margin : Cal P w K mg base "margin" 2 ["view", "some"] (spMargin CV) fm fdm) : FnOk P w K mg base CX0 3 f fd ["one", "other"] (spAgree CV) := by
  refine F.ok sc_agree (fun vs H Q E h => ?_) (fun cdv A outer s H vs Q E hr h => ?_)
  · obtain ⟨q, t, q2, t2, n, v, v2, z, z2, rfl, _⟩ := h; rfl
  obtain ⟨q, t, q2, t2, n, v, v2, z, z2, rfl, A1, A2, w1, w2, le1, le2, k⟩ := h
  refine ⟨_, (pss_cons (ps_set (i := 2) sc_agree.nd rfl (Or.inl rfl) (pe_op op_and (pe_fld (pv 0) rfl) (pe_fld (pv 1) rfl)))
        (pss_cons (ps_set (i := 3) sc_agree.nd rfl (Or.inl rfl) (pe_call c_margin.ok (hr.mono (by decide)) rfl c_margin.mg c_margin.kp c_margin.b .nil pass0 (pa_cons (pv 0) (pa_cons (pv 2) pa_nil))))
        (pss_cons (ps_set (i := 4) sc_agree.nd rfl (Or.inl rfl) (pe_call c_margin.ok (hr.mono (by decide)) rfl c_margin.mg c_margin.kp c_margin.b .nil pass0 (pa_cons (pv 1) (pa_cons (pv 2) pa_nil))))
        (pss_cons (ps_for PassesOwn.never rfl (pi_list (pe_call c_parts.ok (hr.mono (by decide)) rfl c_parts.mg c_parts.kp c_parts.b .nil pass0 (pa_cons (pv 2) pa_nil))) (pg_name (i := 5) sc_agree.nd rfl (Or.inl rfl)) (pss_one (ps_if (pt_cmpR op_ne (pe_op op_mul (pe_dget (hu_of hr) (pv 3) (pv 5) (fun _ _ => rfl)) (pe_callB (cr_sum rfl) (by rfl) T.sum (by decide +kernel) (pa_cons (pe_fld (pv 1) rfl) pa_nil))) (pe_op op_mul (pe_dget (hu_of hr) (pv 4) (pv 5) (fun _ _ => rfl)) (pe_callB (cr_sum rfl) (by rfl) T.sum (by decide +kernel) (pa_cons (pe_fld (pv 0) rfl) pa_nil))) (nomark _)) (pss_one (ps_ret pe_bl)) pss_nil)))
        (pss_one (ps_ret pe_bl)))))), ?_⟩
  obtain ⟨⟨dv, h4⟩, h5⟩ := id A1
  obtain ⟨⟨dv2, h42⟩, h52⟩ := id A2
  have b16 := (Kn.and_comm _ w1.a16 _ w2.a16).1
  -- both = one.asked & other.asked
  refine ⟨_, rfl, q, CV, dv, _, _, rfl, h4, T.clV, T.vA, rfl, _, rfl, q2, CV, dv2, _, _, rfl, h42, T.clV, T.vA, rfl, _, _, rfl, rfl, ?_⟩
  -- ours, theirs
  refine ⟨_, rfl, _, rfl, q, t, numOf v.qs &&& numOf v2.qs, n, v, z, rfl, A1, w1, fun H1 d1 kv1 s1 hd1 hk1 m1 => ?_⟩
  refine ⟨_, rfl, _, rfl, q2, t2, numOf v.qs &&& numOf v2.qs, n, v2, z2, rfl, A2.same s1, w2, fun H2 d2 kv2 s2 hd2 hk2 m2 => ?_⟩
  have hk1' := s2 _ _ hk1
  -- for part in parts(both)
  refine ⟨_, rfl, numOf v.qs &&& numOf v2.qs, rfl, b16, fun H3 a s3 ha hal => ?_⟩
  have s13 := (s1.trans s2).trans s3
  have tot8 : ∀ {u : View}, Wh.Vw n u → (∀ x ∈ u.table, x ≤ 100) → total u.table ≤ 800 := fun {u} wu lu => by
    have h4 := Wh.total_le u.table 100 lu
    have h5 := wu.ok.1
    have h6 := wu.len8
    have h7 : u.table.length * 100 ≤ 8 * 100 := Nat.mul_le_mul_right _ (by omega)
    omega
  have t1 := tot8 w1 le1
  have t2' := tot8 w2 le2
  refine ⟨a, rfl, ⟨_, SqL.of hal⟩, for_list (K := K) (a := a) (xs := nV (Wh.parts (numOf v.qs &&& numOf v2.qs))) (fun i σ H' => H' = H3 ∧ (∀ p ∈ (Wh.parts (numOf v.qs &&& numOf v2.qs)).take i, Kn.margN (Wh.num v) (numOf v.qs &&& numOf v2.qs) p * total v2.table = Kn.margN (Wh.num v2) (numOf v.qs &&& numOf v2.qs) p * total v.table) ∧ ∃ u : Option V, σ = [some (.ref q), some (.ref q2), some (.int ((numOf v.qs &&& numOf v2.qs : Nat) : Int)), some (.ref d1), some (.ref d2), u])
    ⟨rfl, fun p hp => by simp at hp, none, rfl⟩ (fun i σ H' _ h => h.1 ▸ SqL.of hal) ?_ ?_⟩
  · rintro i y σ H' hi ⟨rfl, all, u, rfl⟩
    obtain ⟨p, hp, rfl⟩ := nV_at hi
    obtain ⟨p1, p2, p3⟩ := and_parts _ w1.a16 _ w2.a16 p (List.mem_of_getElem? hp)
    have g1 := m1 p p1
    have g2 := m2 p p2
    rw [p3] at g1 g2
    have hk1'' := s3 _ _ hk1'
    have hk2' := s3 _ _ hk2
    refine ⟨_, rfl, _, rfl, d1, _, rfl, by have := DGet.k (k := Sum.inl (p : Int)) hk1''; rw [g1] at this; exact this, _, rfl, q2, CV, dv2, _, _, rfl, s13 _ _ h42, T.clV, T.vT, rfl, t2, v2.table.map fun (x : Nat) => (x : Int), rfl, by rw [← nV_ints]; exact SqL.of (s13 _ _ h52), _, _, rfl, rfl, ?_, ?_⟩
    · rw [total_sum]
      exact .inr ⟨by omega, by omega⟩
    refine ⟨_, rfl, _, rfl, d2, _, rfl, by have := DGet.k (k := Sum.inl (p : Int)) hk2'; rw [g2] at this; exact this, _, rfl, q, CV, dv, _, _, rfl, s13 _ _ h4, T.clV, T.vT, rfl, t, v.table.map fun (x : Nat) => (x : Int), rfl, by rw [← nV_ints]; exact SqL.of (s13 _ _ h5), _, _, rfl, rfl, ?_, ?_⟩
    · rw [total_sum]
      exact .inr ⟨by omega, by omega⟩
    refine ⟨rfl, _, rfl, ?_⟩
    simp only [total_sum]
    refine ite2 (fun c => ?_) (fun c => ?_)
    · refine k H' s13 |> fun k => ?_
      have ne : Kp351.agree v v2 = false := by
        rw [← Kn.agree_iff w1 w2]
        cases e : Kn.agreeN (Wh.num v) (Wh.num v2) with
        | false => rfl
        | true =>
          have := beq_iff_eq.mp (List.all_eq_true.mp e p (List.mem_of_getElem? hp))
          refine absurd ?_ (of_decide_eq_false ((Bool.not_eq_true' _).mp c))
          refine congrArg V.int ?_
          rw [← Int.natCast_mul, ← Int.natCast_mul]
          exact congrArg _ this
      rw [ne] at k
      exact k
    · refine ⟨rfl, fun p' hp' => ?_, _, rfl⟩
      rw [take_snoc hp] at hp'
      rcases List.mem_append.mp hp' with g | g
      · exact all p' g
      · rw [List.mem_singleton.mp g]
        have c2 := V.int.inj (of_decide_eq_true (by simpa only [Bool.not_eq_true', Bool.not_eq_false] using c))
        rw [← Int.natCast_mul, ← Int.natCast_mul] at c2
        exact Int.ofNat.inj c2
  · rintro σ H' ⟨rfl, all, u, rfl⟩
    rw [nV_len, take_all] at all
    have yes : Kp351.agree v v2 = true := by
      rw [← Kn.agree_iff w1 w2]
      exact List.all_eq_true.mpr fun p hp => beq_iff_eq.mpr (all p hp)
    have k' := k H' s13
    rw [yes] at k'
    exact k'
end
end Dv
end
section
set_option Elab.async false
set_option maxRecDepth 100000
set_option maxHeartbeats 4000000
set_option exponentiation.threshold 2000
namespace Dv
open PySem PySem.Spec PyProof.Rows L2
open Kp351 (setOf View numOf total)

abbrev dWorld := Db.dWorld
abbrev dAgree := Db.dAgree
abbrev dKind := Db.dKind
def spFits (CV : Addr) : Sp := fun us H Q _ => ∃ (x : Nat) (q t : Addr) (n : Nat) (v : View) (z : Nat), us = [.int x, .ref q] ∧ x < 16 ∧ VwAt CV H q t v z ∧ Wh.Vw n v ∧ ∀ H', Same H H' → Q (.bl (Kp351.seen v (Kp351.rowOf x v.qs))) H'
def spAny (CV : Addr) : Sp := fun us H Q _ => ∃ (l : Addr) (qs : List Addr) (n : Nat) (vs : List (View × Nat)), us = [.ref l] ∧ H l = some (.lst (qs.map V.ref)) ∧ RdV CV H qs vs ∧ Vws n vs ∧
  ∀ (H' : Hp) (b : Bool), Same H H' → (b = true ↔ dAgree (vsOf vs)) → Q (.bl b) H'
def spCan (CV : Addr) : Sp := fun us H Q _ => ∃ (k : Nat) (l : Addr) (qs : List Addr) (n : Nat) (vs : List (View × Nat)), us = [.int k, .int n, .ref l] ∧ k ≤ 2 ∧ H l = some (.lst (qs.map V.ref)) ∧ RdV CV H qs vs ∧ Vws n vs ∧
  ∀ (H' : Hp) (b : Bool), Same H H' → (b = true ↔ dKind k n (vsOf vs)) → Q (.bl b) H'

section
variable {P : Program} {w : World} {K : PySem.W.Frag} {mg : Str → Option Value} {base : Heap} {CS CV : Addr}
abbrev s_fits : Stmt := top 40
theorem sc_fits : FnScope ["world", "view"] ["world", "view"] (defScope s_fits) := ⟨rfl, rfl, rfl, by decide +kernel, rfl, by decide +kernel, by decide +kernel⟩
theorem ok_fits {f fp : Addr} {fd fdp : FuncData} (F : Fun K "fits" "fits" s_fits f fd) (T : Txt K mg CS CV) (c_shown_row : Cal P w K mg base "shown_row" 2 ["world", "asked"] spShown fp fdp) : FnOk P w K mg base CX0 3 f fd ["world", "view"] (spFits CV) := by
  refine F.ok sc_fits (fun vs H Q E h => ?_) (fun cdv A outer s H vs Q E hr h => ?_)
  · obtain ⟨x, q, t, n, v, z, rfl, _⟩ := h; rfl
  obtain ⟨x, q, t, n, v, z, rfl, hx, ⟨⟨dv, h4⟩, h5⟩, wv, k⟩ := h
  refine ⟨_, (pss_one (ps_ret (pe_cmpR op_gt (pe_ix (r := rIxL K) ix_list (pe_fld (pv 1) rfl) (pe_call c_shown_row.ok (hr.mono (by decide)) rfl c_shown_row.mg c_shown_row.kp c_shown_row.b .nil pass0 (pa_cons (pv 0) (pa_cons (pe_fld (pv 1) rfl) pa_nil))) (fun _ _ => rfl)) pe_int (nomark _)))), ?_⟩
  have lt : Kp351.rowOf x v.qs < v.table.length := by rw [wv.ok.1]; exact Sh.rowOf_lt x v.qs
  refine ⟨_, rfl, q, CV, dv, _, _, rfl, h4, T.clV, T.vT, rfl, _, rfl, _, rfl, q, CV, dv, _, _, rfl, h4, T.clV, T.vA, rfl, ?_⟩
  refine ⟨x, numOf v.qs, rfl, hx, wv.a16, fun H1 s1 => ?_⟩
  rw [← wv.q]
  refine ⟨t, _, _, _, rfl, rfl, SqL.of (s1 _ _ h5), atI_nat (v := .int (v.table.getD (Kp351.rowOf x v.qs) 0 : Nat)) ?_, _, _, rfl, rfl, ?_⟩
  · unfold nV
    rw [List.getElem?_map, List.getElem?_eq_getElem lt, List.getD_eq_getElem?_getD, List.getElem?_eq_getElem lt]; rfl
  have e : decide ((v.table.getD (Kp351.rowOf x v.qs) 0 : Int) > 0) = Kp351.seen v (Kp351.rowOf x v.qs) := by
    unfold Kp351.seen
    rw [Bool.eq_iff_iff, decide_eq_true_iff, decide_eq_true_iff]; omega
  have k' := k H1 s1
  rw [← e] at k'
  exact k'
abbrev s_some_world_fits : Stmt := top 39
theorem sc_some_world_fits : FnScope ["questions", "views", "world", "view"] ["questions", "views"] (defScope s_some_world_fits) := ⟨rfl, rfl, rfl, by decide +kernel, rfl, by decide +kernel, by decide +kernel⟩
theorem ok_some_world_fits {f fp : Addr} {fd fdp : FuncData} (F : Fun K "some_world_fits" "some_world_fits" s_some_world_fits f fd) (T : Txt K mg CS CV) (c_fits : Cal P w K mg base "fits" 3 ["world", "view"] (spFits CV) fp fdp) : FnOk P w K mg base CX0 4 f fd ["questions", "views"] (spAsk CV dWorld) := by
  refine F.ok sc_some_world_fits (fun vs H Q E h => ?_) (fun cdv A outer s H vs Q E hr h => ?_)
  · obtain ⟨l, qs, n, vs, rfl, _⟩ := h; rfl
  obtain ⟨l, qs, n, vs, rfl, hl, RV, W, k⟩ := h
  refine ⟨_, (pss_cons (ps_for PassesOwn.never rfl (pi_range1 rfl T.range (pa_cons (pe_op op_shl pe_int (pv 0)) pa_nil)) (pg_name (i := 2) sc_some_world_fits.nd rfl (Or.inr rfl)) (pss_one (ps_if (pt_val (pe_callB (cr_all rfl) (by rfl) T.all (by decide +kernel) (pa_cons (pe_lc (own := [("view", 3)]) (g := gName 3) (tt := tYes) rfl sc_some_world_fits.nd (pi_list (pv 1)) (blkOk_by (N := ["questions", "views", "world", "view"]) (sc := defScope s_some_world_fits) (by decide +kernel)) (fun _ _ _ _ _ => by exact pg_name (i := 3) sc_some_world_fits.nd rfl (Or.inl rfl)) (fun _ _ _ _ _ => pts_nil) (fun _ _ _ _ _ => by exact (pe_call c_fits.ok (hr.mono (by decide)) rfl c_fits.mg c_fits.kp c_fits.b .nil pass0 (pa_cons (pv 2) (pa_cons (pv 3) pa_nil))))) pa_nil))) (pss_one (ps_ret pe_bl)) pss_nil)))
        (pss_one (ps_ret pe_bl))), ?_⟩
  have n4 := W.n4
  have two16 : 2 ^ n ≤ 2 ^ 4 := Nat.pow_le_pow_right (by omega) (by omega)
  refine ⟨_, rfl, _, _, rfl, rfl, ⟨by omega, by omega, by decide⟩, _, rfl, ?_, ?_, ?_⟩
  · rw [shl_pow]; exact (pow_rng n n4).1
  · rw [shl_pow]; exact (pow_rng n n4).2
  rw [shl_pow, Int.toNat_natCast]
  refine for_it walk_nat (fun i σ H2 => Same H H2 ∧ (∀ x, x < i → ¬ ∀ v ∈ vsOf vs, Kp351.seen v (Kp351.rowOf x v.qs) = true) ∧ ∃ u : Option V, σ = [some (.int n), some (.ref l), u, none])
    ⟨Same.refl H, fun x hx => absurd hx (by omega), none, rfl⟩ (fun _ _ _ _ _ => trivial) ?_ ?_
  · rintro i y σ H2 H3 hi ⟨s2, no, u, rfl⟩ ⟨rfl, rfl⟩
    -- all([fits(world, view) for view in views])
    refine ⟨_, rfl, l, rfl, ⟨_, SqL.of (s2 _ _ hl)⟩, fun D hD => ?_⟩
    refine lc_it walk_list (PvN H3 D fun j => ((vsOf vs).take j).map fun v => V.bl (Kp351.seen v (Kp351.rowOf i v.qs))) (pvn_start hD rfl) (fun j H4 _ pv => SqL.of (pv.1 _ _ (s2 _ _ hl))) ?_ ?_
    · rintro j x H4 H5 hj pv ⟨rfl, hx⟩
      obtain ⟨q, hq, rfl⟩ := refs_at hx
      obtain ⟨v, t, hv, hA⟩ := ((RV.same s2).same pv.1).byQ hq
      have hv' : (vsOf vs)[j]? = some v.1 := by unfold vsOf; rw [List.getElem?_map, hv]; rfl
      refine ⟨rfl, ?_⟩
      refine ⟨_, rfl, _, rfl, i, q, t, n, v.1, v.2, rfl, by omega, hA, W.v v (List.mem_of_getElem? hv), fun H6 s6 => ?_⟩
      refine pvn_next hD pv s6 ?_ (by rw [List.length_map, List.length_take]; exact small (by have := W.six; unfold vsOf; rw [List.length_map]; omega))
      show ((vsOf vs).take (j + 1)).map _ = _
      rw [take_snoc hv', List.map_append]; rfl
    · rintro H4 pv
      have e4 : H4 D = some (.lst (((vsOf vs).map fun v => Kp351.seen v (Kp351.rowOf i v.qs)).map V.bl)) := by
        have h := pv.2
        rw [List.length_map, RV.len, show vs.length = (vsOf vs).length by unfold vsOf; rw [List.length_map]] at h
        have h : H4 D = some (.lst (((vsOf vs).take (vsOf vs).length).map fun v => V.bl (Kp351.seen v (Kp351.rowOf i v.qs)))) := h
        rw [take_all] at h
        rw [h, List.map_map]; rfl
      refine ⟨D, _, rfl, SqL.of e4, _, rfl, ?_⟩
      refine ite2 (fun c => ?_) (fun c => ?_)
      · refine k H4 true (s2.trans pv.1) ⟨fun _ => ⟨i, hi, fun v hv => ?_⟩, fun _ => rfl⟩
        have := List.all_eq_true.mp c _ (List.mem_map.mpr ⟨v, hv, rfl⟩)
        exact this
      · refine ⟨s2.trans pv.1, fun x hx all => ?_, _, rfl⟩
        by_cases g : x = i
        · subst g
          refine c (List.all_eq_true.mpr fun b hb => ?_)
          obtain ⟨v, hv, e⟩ := List.mem_map.mp hb
          rw [← e]; exact all v hv
        · exact no x (by omega) all
  · rintro σ H2 ⟨s2, no, u, rfl⟩
    exact k H2 false s2 ⟨fun g => Bool.noConfusion g, fun ⟨x, hx, all⟩ => absurd all (no x hx)⟩
abbrev s_any_two_agree : Stmt := top 41
theorem sc_any_two_agree : FnScope ["views", "place", "one", "other"] ["views"] (defScope s_any_two_agree) := ⟨rfl, rfl, rfl, by decide +kernel, rfl, by decide +kernel, by decide +kernel⟩
theorem ok_any_two_agree {f fp : Addr} {fd fdp : FuncData} (F : Fun K "any_two_agree" "any_two_agree" s_any_two_agree f fd) (T : Txt K mg CS CV) (c_agree : Cal P w K mg base "agree" 3 ["one", "other"] (spAgree CV) fp fdp) : FnOk P w K mg base CX0 4 f fd ["views"] (spAny CV) := by
  refine F.ok sc_any_two_agree (fun vs H Q E h => ?_) (fun cdv A outer s H vs Q E hr h => ?_)
  · obtain ⟨l, qs, n, vs, rfl, _⟩ := h; rfl
  obtain ⟨l, qs, n, vs, rfl, hl, RV, W, k⟩ := h
  refine ⟨_, (pss_cons (ps_for PassesOwn.never rfl (pi_enum rfl T.enumerate (pa_cons (pv 0) pa_nil)) (pg_tup rfl (pgs_cons (pg_name (i := 1) sc_any_two_agree.nd rfl (Or.inl rfl)) (pgs_cons (pg_name (i := 2) sc_any_two_agree.nd rfl (Or.inl rfl)) pgs_nil))) (pss_one (ps_for PassesOwn.never rfl (pi_list (pe_slice sl_list (pv 0) (po_some (pe_op op_add (pv 1) pe_int)) po_none)) (pg_name (i := 3) sc_any_two_agree.nd rfl (Or.inl rfl)) (pss_one (ps_if (pt_not (pt_val (pe_call c_agree.ok (hr.mono (by decide)) rfl c_agree.mg c_agree.kp c_agree.b .nil pass0 (pa_cons (pv 2) (pa_cons (pv 3) pa_nil))))) (pss_one (ps_ret pe_bl)) pss_nil)))))
        (pss_one (ps_ret pe_bl))), ?_⟩
  have six := W.six
  have ql := RV.len
  refine ⟨_, rfl, l, _, rfl, SqL.of hl, ?_⟩
  refine for_it walk_enum (fun i σ H2 => Same H H2 ∧ (∀ a, a < i → ∀ b v w, a < b → (vsOf vs)[a]? = some v → (vsOf vs)[b]? = some w → Kp351.agree v w = true) ∧ ∃ u1 u2 u3 : Option V, σ = [some (.ref l), u1, u2, u3])
    ⟨Same.refl H, fun a ha => absurd ha (by omega), none, none, none, rfl⟩ (fun i σ H2 _ h => SqL.of (h.1 _ _ hl)) ?_ ?_
  · rintro i y σ H2 H3 hi ⟨s2, yes, u1, u2, u3, rfl⟩ ⟨t2, xa, xb, rfl, ht2, rfl, ea, eb⟩
    obtain ⟨q, hq, rfl⟩ := refs_at eb
    cases Option.some.inj ea
    have s3 : Same H2 (upd H2 t2 (.tup [V.int (i : Int), V.ref q])) := same_new (Same.refl H2) ht2
    have s23 := s2.trans s3
    refine ⟨t2, _, rfl, SqT.of upd_same, rfl, _, _, rfl, _, _, rfl, rfl, ?_⟩
    obtain ⟨v, t, hv, hA⟩ := (RV.same s23).byQ hq
    have mv := List.mem_of_getElem? hv
    have iv : i < vs.length := lt_of_at hv
    have hv' : (vsOf vs)[i]? = some v.1 := by unfold vsOf; rw [List.getElem?_map, hv]; rfl
    -- views[place + 1:]
    refine ⟨_, rfl, _, rfl, _, _, rfl, rfl, _, rfl, l, _, rfl, SqL.of (s23 _ _ hl), fun p hp => ?_⟩
    have ecut : cutV (qs.map V.ref) (some ((i : Int) + 1)) none = (qs.drop (i + 1)).map V.ref := by
      unfold cutV
      rw [show (i : Int) + 1 = ((i + 1 : Nat) : Int) by omega, HT.sIx_nat, HT.sIx_none, List.length_map, Nat.min_eq_left (by omega), List.map_drop, List.take_of_length_le (by rw [List.length_drop, List.length_map]; omega)]
    rw [ecut]
    have s4 : Same (upd H2 t2 (.tup [V.int (i : Int), V.ref q])) (upd (upd H2 t2 (.tup [V.int (i : Int), V.ref q])) p (.lst ((qs.drop (i + 1)).map V.ref))) := same_new (Same.refl _) hp
    have s24 := s23.trans s4
    refine ⟨p, rfl, ⟨_, SqL.of upd_same⟩, for_list (K := K) (a := p) (xs := (qs.drop (i + 1)).map V.ref) (fun j σ H4 => Same H H4 ∧ H4 p = some (.lst ((qs.drop (i + 1)).map V.ref)) ∧ (∀ b w, i < b → b < i + 1 + j → (vsOf vs)[b]? = some w → Kp351.agree v.1 w = true) ∧ ∃ u3 : Option V, σ = [some (.ref l), some (.int (i : Int)), some (.ref q), u3])
      ⟨s24, upd_same, fun b w h1 h2 => absurd h2 (by omega), _, rfl⟩ (fun j σ H4 _ h => SqL.of h.2.1) ?_ ?_⟩
    · rintro j y σ H4 hj ⟨s5, hp4, all, u3, rfl⟩
      obtain ⟨q2, hq2, rfl⟩ := refs_at hj
      rw [List.getElem?_drop] at hq2
      obtain ⟨v2, t2', hv2, hA2⟩ := (RV.same s5).byQ hq2
      obtain ⟨v1, t1, hv1, hA1⟩ := (RV.same s5).byQ hq
      rw [hv] at hv1
      cases hv1
      have mv2 := List.mem_of_getElem? hv2
      refine ⟨_, rfl, _, rfl, q, t1, q2, t2', n, v.1, v2.1, v.2, v2.2, rfl, hA1, hA2, W.v v mv, W.v v2 mv2, W.le v mv, W.le v2 mv2, fun H6 s6 => ⟨_, rfl, ?_⟩⟩
      have hv2' : (vsOf vs)[i + 1 + j]? = some v2.1 := by unfold vsOf; rw [List.getElem?_map, hv2]; rfl
      cases ag : Kp351.agree v.1 v2.1 with
      | false =>
        refine iteT ?_
        refine k H6 false (s5.trans s6) ⟨fun g => Bool.noConfusion g, fun pw => ?_⟩
        have pw : (vsOf vs).Pairwise fun v w => Kp351.agree v w = true := pw
        rw [List.pairwise_iff_getElem] at pw
        obtain ⟨a1, e1⟩ := List.getElem?_eq_some_iff.mp hv'
        obtain ⟨a2, e2⟩ := List.getElem?_eq_some_iff.mp hv2'
        have := pw i (i + 1 + j) a1 a2 (by omega)
        rw [e1, e2, ag] at this
        exact this
      | true =>
        refine iteF ?_
        refine ⟨s5.trans s6, s6 _ _ hp4, fun b w h1 h2 hb => ?_, _, rfl⟩
        by_cases g : b = i + 1 + j
        · subst g
          rw [hv2'] at hb
          cases hb
          exact ag
        · exact all b w h1 (by omega) hb
    · rintro σ H4 ⟨s5, hp4, all, u3, rfl⟩
      refine ⟨s5, fun a ha b v0 w0 hab h1 h2 => ?_, _, _, _, rfl⟩
      by_cases g : a = i
      · subst g
        rw [hv'] at h1
        cases h1
        have hb := lt_of_at h2
        refine all b w0 hab ?_ h2
        rw [List.length_map, List.length_drop]
        have : (vsOf vs).length = vs.length := by unfold vsOf; rw [List.length_map]
        omega
      · exact yes a (by omega) b v0 w0 hab h1 h2
  · rintro σ H2 ⟨s2, yes, u1, u2, u3, rfl⟩
    refine k H2 true s2 ⟨fun _ => ?_, fun _ => rfl⟩
    show (vsOf vs).Pairwise fun v w => Kp351.agree v w = true
    rw [List.pairwise_iff_getElem]
    intro a b ha hb hab
    refine yes a ?_ b _ _ hab (List.getElem?_eq_getElem ha) (List.getElem?_eq_getElem hb)
    rw [List.length_map, ql]
    have : (vsOf vs).length = vs.length := by unfold vsOf; rw [List.length_map]
    omega
abbrev s_can_be_together : Stmt := top 38
theorem sc_can_be_together : FnScope ["kind", "questions", "views"] ["kind", "questions", "views"] (defScope s_can_be_together) := ⟨rfl, rfl, rfl, by decide +kernel, rfl, by decide +kernel, by decide +kernel⟩
theorem ok_can_be_together {f f1 f2 f3 : Addr} {fd fd1 fd2 fd3 : FuncData} (F : Fun K "can_be_together" "can_be_together" s_can_be_together f fd) (c_some_world_fits : Cal P w K mg base "some_world_fits" 4 ["questions", "views"] (spAsk CV dWorld) f1 fd1)
    (c_any_two_agree : Cal P w K mg base "any_two_agree" 4 ["views"] (spAny CV) f2 fd2) (c_has_whole : Cal P w K mg base "has_whole" 4 ["questions", "views"] (spAsk CV dWhole) f3 fd3) : FnOk P w K mg base CX0 5 f fd ["kind", "questions", "views"] (spCan CV) := by
  refine F.ok sc_can_be_together (fun vs H Q E h => ?_) (fun cdv A outer s H vs Q E hr h => ?_)
  · obtain ⟨k, l, qs, n, vs, rfl, _⟩ := h; rfl
  obtain ⟨kd, l, qs, n, vs, rfl, k2, hl, RV, W, k⟩ := h
  refine ⟨_, (pss_cons (ps_if (pt_cmpR op_eq (pv 0) pe_int (nomark _)) (pss_one (ps_ret (pe_call c_some_world_fits.ok (hr.mono (by decide)) rfl c_some_world_fits.mg c_some_world_fits.kp c_some_world_fits.b .nil pass0 (pa_cons (pv 1) (pa_cons (pv 2) pa_nil))))) pss_nil)
        (pss_cons (ps_if (pt_cmpR op_eq (pv 0) pe_int (nomark _)) (pss_one (ps_ret (pe_call c_any_two_agree.ok (hr.mono (by decide)) rfl c_any_two_agree.mg c_any_two_agree.kp c_any_two_agree.b .nil pass0 (pa_cons (pv 2) pa_nil)))) pss_nil)
        (pss_one (ps_ret (pe_call c_has_whole.ok (hr.mono (by decide)) rfl c_has_whole.mg c_has_whole.kp c_has_whole.b .nil pass0 (pa_cons (pv 1) (pa_cons (pv 2) pa_nil))))))), ?_⟩
  refine ⟨_, rfl, rfl, _, rfl, ?_⟩
  refine ite2 (fun c => ?_) (fun c => ?_)
  · have c0 : kd = 0 := by have := V.int.inj (of_decide_eq_true c); omega
    subst c0
    exact ⟨_, rfl, _, rfl, l, qs, n, vs, rfl, hl, RV, W, k⟩
  refine ⟨_, rfl, rfl, _, rfl, ?_⟩
  refine ite2 (fun c2 => ?_) (fun c2 => ?_)
  · have c0 : kd = 1 := by have := V.int.inj (of_decide_eq_true c2); omega
    subst c0
    exact ⟨_, rfl, l, qs, n, vs, rfl, hl, RV, W, k⟩
  have c0 : kd = 2 := by
    have h0 : kd ≠ 0 := fun g => c (decide_eq_true (by rw [g]; rfl))
    have h1 : kd ≠ 1 := fun g => c2 (decide_eq_true (by rw [g]; rfl))
    omega
  subst c0
  exact ⟨_, rfl, _, rfl, l, qs, n, vs, rfl, hl, RV, W, k⟩
end
end Dv
end
section
set_option Elab.async false
set_option maxRecDepth 100000
set_option maxHeartbeats 4000000
set_option exponentiation.threshold 2000
namespace Dv
open PySem PySem.Spec PyProof.Rows L2
open Kp351 (setOf View numOf total)

/-- what is known of the views, and no two are of the same questions -/
structure Wg (n : Nat) (vs : List View) (zs : List Nat) : Prop extends Wf n vs zs where
  nd : (vs.map fun (v : View) => Kp351.numOf v.qs).Nodup
  z1 : ∀ z ∈ zs, 1 ≤ z
theorem Wg.d {n : Nat} {vs : List View} {zs : List Nat} (W : Wg n vs zs) : Db.WfD n vs := ⟨W.n4, W.six, W.v, W.nd⟩
/-- the specification's desk -/
abbrev dk (n : Nat) (vs : List View) (zs : List Nat) : Kp355.Desk := ⟨⟨n, vs⟩, zs⟩
theorem Wg.dd {n : Nat} {vs : List View} {zs : List Nat} (W : Wg n vs zs) : Db.WfD (dk n vs zs).desk.n (dk n vs zs).desk.views := W.d
def bV (l : List Bool) : List V := l.map V.bl
theorem pow6 {l : Nat} (h : l ≤ 6) : 2 ^ l ≤ 64 := Nat.pow_le_pow_right (n := 2) (by omega) h
theorem mem_sel {n : Nat} {vs : List View} {zs : List Nat} (W : Wf n vs zs) {s : Nat} (hs : s < 2 ^ vs.length) : mem s = setOf vs.length s := mem_eq (by have := W.six; omega) hs
theorem chosen_sel {n : Nat} {vs : List View} {zs : List Nat} (W : Wf n vs zs) {s : Nat} (hs : s < 2 ^ vs.length) : vsOf (chosenOf vs zs s) = Db.sel vs s := by
  unfold vsOf chosenOf Db.sel
  rw [mem_sel W hs, List.map_map]; rfl
theorem chosen_vws {n : Nat} {vs : List View} {zs : List Nat} (W : Wf n vs zs) {s : Nat} (hs : s < 2 ^ vs.length) : Vws n (chosenOf vs zs s) := by
  have key : ∀ v ∈ chosenOf vs zs s, v.1 ∈ vs := fun v hv => by
    unfold chosenOf at hv
    rw [mem_sel W hs] at hv
    obtain ⟨i, hi, e⟩ := List.mem_map.mp hv
    subst e
    have := (setOf_lt hi).1
    show vs.getD i _ ∈ vs
    rw [List.getD_eq_getElem?_getD, List.getElem?_eq_getElem this]
    exact List.getElem_mem this
  refine ⟨W.n4, ?_, fun v hv => W.v _ (key v hv), fun v hv => W.le _ (key v hv)⟩
  unfold chosenOf
  rw [mem_sel W hs, List.length_map]
  exact Nat.le_trans (setOf_len _ _) W.six
theorem mem_bit {s i : Nat} (h : i ∈ mem s) : s.testBit i = true := (setOf_lt h).2
theorem mem6 {l s i : Nat} (hl : l ≤ 6) (hs : s < 2 ^ l) (h : i ∈ mem s) : i < l := by
  rw [mem_eq (by omega) hs] at h
  exact (setOf_lt h).1
/-- without any one of them the others can -/
def partsCan (known : List Bool) (s : Nat) : Bool := (mem s).all fun i => known.getD (s - 2 ^ i) false
def spPartsCan : Sp := fun us H Q _ => ∃ (p : Addr) (known : List Bool) (s : Nat), us = [.ref p, .int s] ∧ H p = some (.lst (bV known)) ∧ s < 64 ∧ (∀ i ∈ mem s, s - 2 ^ i < known.length) ∧ ∀ H', Same H H' → Q (.bl (partsCan known s)) H'
def spBySet (CS CV : Addr) : Sp := fun us H Q _ => ∃ (a : Addr) (n : Nat) (vs : List View) (zs : List Nat) (ft : List Addr) (k : Nat), us = [.ref a, .int k] ∧ StA CS CV H a n vs zs ft ∧ Wg n vs zs ∧ k ≤ 2 ∧
  GivesNew H Q (bV ((List.range (2 ^ vs.length)).map (Kp355.together (dk n vs zs) k)))
theorem bV_at {l : List Bool} {i : Nat} (h : i < l.length) : atI (bV l) (i : Int) = some (V.bl (l.getD i false)) := by
  refine atI_nat ?_
  unfold bV
  rw [List.getElem?_map, List.getElem?_eq_getElem h, List.getD_eq_getElem?_getD, List.getElem?_eq_getElem h]; rfl
theorem bV_snoc (l : List Bool) (b : Bool) : bV (l ++ [b]) = bV l ++ [V.bl b] := by unfold bV; rw [List.map_append]; rfl

section
variable {P : Program} {w : World} {K : PySem.W.Frag} {mg : Str → Option Value} {base : Heap} {CS CV : Addr}
abbrev s_parts_can : Stmt := top 46
theorem sc_parts_can : FnScope ["known", "number", "place"] ["known", "number"] (defScope s_parts_can) := ⟨rfl, rfl, rfl, by decide +kernel, rfl, by decide +kernel, by decide +kernel⟩
theorem ok_parts_can {f fm : Addr} {fd fdm : FuncData} (F : Fun K "parts_can" "parts_can" s_parts_can f fd) (T : Txt K mg CS CV) (c_members : Cal P w K mg base "members" 1 ["number"] spMembers fm fdm) : FnOk P w K mg base CX0 2 f fd ["known", "number"] spPartsCan := by
  refine F.ok sc_parts_can (fun vs H Q E h => ?_) (fun cdv A outer s H vs Q E hr h => ?_)
  · obtain ⟨p, known, s, rfl, _⟩ := h; rfl
  obtain ⟨p, known, s, rfl, hp, hs, hi, k⟩ := h
  refine ⟨_, (pss_one (ps_ret (pe_callB (cr_all rfl) (by rfl) T.all (by decide +kernel) (pa_cons (pe_lc (own := [("place", 2)]) (g := gName 2) (tt := tYes) rfl sc_parts_can.nd (pi_list (pe_call c_members.ok (hr.mono (by decide)) rfl c_members.mg c_members.kp c_members.b .nil pass0 (pa_cons (pv 1) pa_nil))) (blkOk_by (N := ["known", "number", "place"]) (sc := defScope s_parts_can) (by decide +kernel)) (fun _ _ _ _ _ => by exact pg_name (i := 2) sc_parts_can.nd rfl (Or.inl rfl)) (fun _ _ _ _ _ => pts_nil) (fun _ _ _ _ _ => by exact (pe_ix (r := rIxL K) ix_list (pv 0) (pe_op op_sub (pv 1) (pe_op op_shl pe_int (pv 2))) (fun _ _ => rfl)))) pa_nil)))), ?_⟩
  refine ⟨_, rfl, s, rfl, by omega, fun H1 m s1 hm hl => ?_⟩
  refine ⟨m, rfl, ⟨_, SqL.of hl⟩, fun D hD => ?_⟩
  refine lc_it walk_list (PvN H1 D fun j => bV (((mem s).take j).map fun i => known.getD (s - 2 ^ i) false)) (pvn_start hD rfl) (fun j H2 _ pv => SqL.of (pv.1 _ _ hl)) ?_ ?_
  · rintro j x H2 H3 hj pv ⟨rfl, hx⟩
    obtain ⟨i, hi', rfl⟩ := nV_at hx
    have mi := List.mem_of_getElem? hi'
    have i6 : i < 6 := mem6 (l := 6) (Nat.le_refl _) hs mi
    have b := Db.less_lt s hs i i6 (mem_bit mi)
    refine ⟨rfl, ?_⟩
    refine ⟨_, rfl, _, rfl, _, rfl, _, _, rfl, rfl, ⟨by omega, by omega, by decide⟩, _, _, rfl, rfl, ?_⟩
    have e : (s : Int) - 1 * 2 ^ (i : Int).toNat = ((s - 2 ^ i : Nat) : Int) := by rw [shl_pow]; omega
    refine ⟨p, bV known, _, _, rfl, rfl, SqL.of ((s1.trans pv.1) _ _ hp), by rw [e]; exact bV_at (hi i mi), ?_⟩
    refine pvn_next hD pv (Same.refl _) ?_ (by unfold bV; rw [List.length_map, List.length_map, List.length_take]; exact small (by have := mem_len s; omega))
    show bV (((mem s).take (j + 1)).map _) = _
    rw [take_snoc hi', List.map_append]
    exact bV_snoc _ _
  · rintro H2 pv
    have e2 : H2 D = some (.lst (bV ((mem s).map fun i => known.getD (s - 2 ^ i) false))) := by
      have h := pv.2
      rw [nV_len] at h
      have h : H2 D = some (.lst (bV (((mem s).take (mem s).length).map fun i => known.getD (s - 2 ^ i) false))) := h
      rw [take_all] at h
      exact h
    refine ⟨D, _, rfl, SqL.of e2, ?_⟩
    have k' := k H2 (s1.trans pv.1)
    have e3 : partsCan known s = ((mem s).map fun i => known.getD (s - 2 ^ i) false).all id := by
      unfold partsCan; rw [List.all_map]; rfl
    rw [e3] at k'
    exact k'
/-- whether a set can be together, by its parts and by itself -/
theorem tog_parts {n : Nat} {vs : List View} {zs : List Nat} (W : Wg n vs zs) (k : Nat) {s : Nat} (hs : s < 2 ^ vs.length) {known : List Bool} (hk : ∀ t, t < s → known.getD t false = Kp355.together (dk n vs zs) k t) (h : Kp355.together (dk n vs zs) k s = true) : partsCan known s = true := by
  refine List.all_eq_true.mpr fun i hi => ?_
  have hs6 := pow6 W.six
  have i6 := mem6 W.six hs hi
  have b := Db.less_lt s (by omega) i (by have := W.six; omega) (mem_bit hi)
  rw [hk _ b.2]
  refine Db.tog_mono W.dd (s := s) (fun j hj e => ?_) h
  have hj : j < vs.length := hj
  have := Db.less_bit s (by omega) i (by have := W.six; omega) (mem_bit hi) j (by have := W.six; omega)
  rw [e] at this
  simp at this
  exact this.1
theorem range_map_get {α : Type} (g : Nat → α) (N i : Nat) (d : α) (h : i < N) : ((List.range N).map g).getD i d = g i := Sh.getD_range_map g N i d h
abbrev s_together_by_set : Stmt := top 45
theorem sc_together_by_set : FnScope ["state", "kind", "known", "number", "can"] ["state", "kind"] (defScope s_together_by_set) := ⟨rfl, rfl, rfl, by decide +kernel, rfl, by decide +kernel, by decide +kernel⟩
theorem ok_together_by_set {f f1 f2 f3 : Addr} {fd fd1 fd2 fd3 : FuncData} (F : Fun K "together_by_set" "together_by_set" s_together_by_set f fd) (T : Txt K mg CS CV) (c_parts_can : Cal P w K mg base "parts_can" 2 ["known", "number"] spPartsCan f1 fd1)
    (c_can_be_together : Cal P w K mg base "can_be_together" 5 ["kind", "questions", "views"] (spCan CV) f2 fd2) (c_chosen : Cal P w K mg base "chosen" 2 ["state", "number"] (spChosen CS CV) f3 fd3) : FnOk P w K mg base CX0 6 f fd ["state", "kind"] (spBySet CS CV) := by
  refine F.ok sc_together_by_set (fun vs H Q E h => ?_) (fun cdv A outer s H vs Q E hr h => ?_)
  · obtain ⟨a, n, vs, zs, ft, k, rfl, _⟩ := h; rfl
  obtain ⟨a, n, vs, zs, ft, kd, rfl, SA, W, k2, k⟩ := h
  refine ⟨_, (pss_cons (ps_set (i := 2) sc_together_by_set.nd rfl (Or.inl rfl) (pe_lst pa_nil))
        (pss_cons (ps_for PassesOwn.never rfl (pi_range1 rfl T.range (pa_cons (pe_op op_shl pe_int (pe_callB call_len_seq (by rfl) T.len (by decide +kernel) (pa_cons (pe_fld (pv 0) rfl) pa_nil))) pa_nil)) (pg_name (i := 3) sc_together_by_set.nd rfl (Or.inl rfl)) (pss_cons (ps_set (i := 4) sc_together_by_set.nd rfl (Or.inl rfl) (pe_and (pe_call c_parts_can.ok (hr.mono (by decide)) rfl c_parts_can.mg c_parts_can.kp c_parts_can.b .nil pass0 (pa_cons (pv 2) (pa_cons (pv 3) pa_nil))) (pe_one (pe_call c_can_be_together.ok (hr.mono (by decide)) rfl c_can_be_together.mg c_can_be_together.kp c_can_be_together.b .nil pass0 (pa_cons (pv 1) (pa_cons (pe_fld (pv 0) rfl) (pa_cons (pe_call c_chosen.ok (hr.mono (by decide)) rfl c_chosen.mg c_chosen.kp c_chosen.b .nil pass0 (pa_cons (pv 0) (pa_cons (pv 3) pa_nil))) pa_nil)))))))
          (pss_one (ps_expr (pe_bm PySem.F.plainAttrs_list PySem.F.slot_list_append PySem.F.type_list_append mt_append (pv 2) (pa_cons (pv 4) pa_nil))))))
        (pss_one (ps_ret (pv 2))))), ?_⟩
  obtain ⟨dx, l, ps, ts, S, eft⟩ := id SA
  have six := W.six
  have p64 := pow6 six
  refine ⟨Nat.zero_le _, fun p hp => ?_⟩
  have s0 : Same H (upd H p (.lst [])) := same_new (Same.refl H) hp
  have S0 := S.same s0
  refine ⟨_, rfl, a, CS, dx, _, _, rfl, S0.sa, T.clS, T.sV, rfl, l, _, rfl, .inl (SqL.of S0.sl), _, _, rfl, rfl, ⟨by omega, by rw [List.length_map, S.V.pl]; omega, by decide⟩, _, rfl, ?_, ?_, ?_⟩
  · rw [shl_pow, List.length_map, S.V.pl]; have := Int.natCast_nonneg (2 ^ vs.length); omega
  · rw [shl_pow, List.length_map, S.V.pl]; have : ((2 ^ vs.length : Nat) : Int) ≤ 64 := Int.ofNat_le.mpr p64; omega
  rw [shl_pow, Int.toNat_natCast, List.length_map, S.V.pl]
  refine for_it walk_nat (fun i σ H2 => Same H H2 ∧ H2 p = some (.lst (bV ((List.range i).map (Kp355.together (dk n vs zs) kd)))) ∧ ∃ u3 u4 : Option V, σ = [some (.ref a), some (.int kd), some (.ref p), u3, u4])
    ⟨s0, upd_same, none, none, rfl⟩ (fun _ _ _ _ _ => trivial) ?_ ?_
  · rintro i y σ H2 H3 hi ⟨s2, hp2, u3, u4, rfl⟩ ⟨rfl, rfl⟩
    have hk : ∀ t, t < i → ((List.range i).map (Kp355.together (dk n vs zs) kd)).getD t false = Kp355.together (dk n vs zs) kd t := fun t ht => range_map_get _ _ _ _ ht
    -- parts_can(known, number) and ..
    refine ⟨_, rfl, _, rfl, p, _, i, rfl, hp2, by omega, fun j hj => ?_, fun H4 s4 => ⟨_, rfl, ?_⟩⟩
    · rw [List.length_map, List.length_range]
      have := mem6 six hi hj
      exact (Db.less_lt i (by omega) j (by omega) (mem_bit hj)).2
    have s24 := s2.trans s4
    have hp4 := s4 _ _ hp2
    have len : (bV ((List.range i).map (Kp355.together (dk n vs zs) kd))).length < sizeLine := by unfold bV; rw [List.length_map, List.length_map, List.length_range]; exact small (by omega)
    have more : bV ((List.range (i + 1)).map (Kp355.together (dk n vs zs) kd)) = bV ((List.range i).map (Kp355.together (dk n vs zs) kd)) ++ [V.bl (Kp355.together (dk n vs zs) kd i)] := by
      rw [range_take_succ]; exact bV_snoc _ _
    have hi32 : i < 2 ^ 32 := by omega
    cases pc : partsCan ((List.range i).map (Kp355.together (dk n vs zs) kd)) i with
    | true =>
      refine iteT ?_
      have SA4 := SA.same s24
      have S4 := S.same s24
      refine ⟨_, rfl, _, rfl, a, CS, dx, _, _, rfl, S4.sa, T.clS, T.sQ, rfl, _, rfl, _, rfl, a, n, vs, zs, ft, i, rfl, SA4, hi32, fun j hj => mem6 six hi hj, fun H5 q qs s5 hq hl RV => ?_⟩
      refine ⟨kd, q, qs, n, _, rfl, k2, hl, RV, chosen_vws W.toWf hi, fun H6 b s6 hb => ?_⟩
      have eb : b = Kp355.together (dk n vs zs) kd i := by
        rw [chosen_sel W.toWf hi] at hb
        exact Bool.eq_iff_iff.mpr (hb.trans (Db.tog_iff W.dd kd i).symm)
      have s36 := (s4.trans s5).trans s6
      have hp6 := s36 _ _ hp2
      refine ⟨_, rfl, .inl ⟨rfl, _, SqL.of hp6⟩, _, rfl, p, _, _, rfl, rfl, hp6, len, ?_⟩
      exact ⟨same_keep (s2.trans s36) hp, by rw [upd_same, more, eb], _, _, rfl⟩
    | false =>
      refine iteF ?_
      have eb : Kp355.together (dk n vs zs) kd i = false := by
        cases e : Kp355.together (dk n vs zs) kd i with
        | false => rfl
        | true =>
          have := tog_parts W kd hi hk e
          rw [pc] at this; cases this
      refine ⟨_, rfl, .inl ⟨rfl, _, SqL.of hp4⟩, _, rfl, p, _, _, rfl, rfl, hp4, len, ?_⟩
      exact ⟨same_keep s24 hp, by rw [upd_same, more, eb], _, _, rfl⟩
  · rintro σ H2 ⟨s2, hp2, u3, u4, rfl⟩
    refine ⟨_, rfl, ?_⟩
    exact k H2 p s2 hp hp2
end
end Dv
end
section
set_option Elab.async false
set_option maxRecDepth 100000
set_option maxHeartbeats 4000000
set_option exponentiation.threshold 2000
namespace Dv
open PySem PySem.Spec PyProof.Rows L2 LamX NdefX MinK
open Kp351 (setOf View numOf total)

/-- a question of a kind, answered by a new list of numbers -/
def spList (CS CV : Addr) (f : Kp355.Desk → Nat → List Nat) : Sp := fun us H Q _ => ∃ (a : Addr) (n : Nat) (vs : List View) (zs : List Nat) (ft : List Addr) (k : Nat), us = [.ref a, .int k] ∧ StA CS CV H a n vs zs ft ∧ Wg n vs zs ∧ k ≤ 2 ∧
  GivesNew H Q (nV (f (dk n vs zs) k))
def spTrustOf (CS CV : Addr) : Sp := fun us H Q _ => ∃ (a : Addr) (n : Nat) (vs : List View) (zs : List Nat) (ft : List Addr) (s : Nat), us = [.ref a, .int s] ∧ StA CS CV H a n vs zs ft ∧ Wg n vs zs ∧ s < 2 ^ vs.length ∧
  ∀ H', Same H H' → Q (.int (Kp355.costOf (dk n vs zs) s : Nat)) H'
/-- a set that is chosen by the help of a lambda: the tables of code objects may grow -/
def spBest (T : List (Addr × Str)) (CS CV : Addr) (f : Kp355.Desk → Nat → Nat) : Sp := fun us H Q _ => ∃ (a : Addr) (n : Nat) (vs : List View) (zs : List Nat) (ft : List Addr) (k : Nat), us = [.ref a, .int k] ∧ StA CS CV H a n vs zs ft ∧ Wg n vs zs ∧ k ≤ 2 ∧ Tabs T H ∧
  ∀ H', ExtN H H' → Tabs T H' → Q (.int (f (dk n vs zs) k : Nat)) H'
theorem size_mem {n : Nat} {vs : List View} {zs : List Nat} (W : Wf n vs zs) {s : Nat} (hs : s < 2 ^ vs.length) : (mem s).length = Kp355.size (dk n vs zs) s := by rw [mem_sel W hs]; rfl
theorem parts_all {n : Nat} {vs : List View} {zs : List Nat} (W : Wg n vs zs) (k : Nat) {s : Nat} (hs : s < 2 ^ vs.length) :
    partsCan ((List.range (2 ^ vs.length)).map (Kp355.together (dk n vs zs) k)) s = (setOf vs.length s).all fun i => Kp355.together (dk n vs zs) k (s - 2 ^ i) := by
  unfold partsCan
  rw [mem_sel W.toWf hs]
  refine Bool.eq_iff_iff.mpr ?_
  rw [List.all_eq_true, List.all_eq_true]
  have p64 := pow6 W.six
  have key : ∀ i ∈ setOf vs.length s, ((List.range (2 ^ vs.length)).map (Kp355.together (dk n vs zs) k)).getD (s - 2 ^ i) false = Kp355.together (dk n vs zs) k (s - 2 ^ i) := fun i hi => by
    have b := setOf_lt hi
    have := (Db.less_lt s (by omega) i (by have := W.six; omega) b.2).2
    exact range_map_get _ _ _ _ (by omega)
  exact ⟨fun h i hi => by rw [← key i hi]; exact h i hi, fun h i hi => by rw [key i hi]; exact h i hi⟩

section
variable {P : Program} {w : World} {K : PySem.W.Frag} {mg : Str → Option Value} {base : Heap} {CS CV : Addr}
abbrev s_conflicts : Stmt := top 47
theorem sc_conflicts : FnScope ["state", "kind", "known", "number", "can"] ["state", "kind"] (defScope s_conflicts) := ⟨rfl, rfl, rfl, by decide +kernel, rfl, by decide +kernel, by decide +kernel⟩
theorem ok_conflicts {f f1 f2 : Addr} {fd fd1 fd2 : FuncData} (F : Fun K "conflicts" "conflicts" s_conflicts f fd) (T : Txt K mg CS CV) (c_parts_can : Cal P w K mg base "parts_can" 2 ["known", "number"] spPartsCan f1 fd1)
    (c_together_by_set : Cal P w K mg base "together_by_set" 6 ["state", "kind"] (spBySet CS CV) f2 fd2) : FnOk P w K mg base CX0 7 f fd ["state", "kind"] (spList CS CV Kp355.conflicts) := by
  refine F.ok sc_conflicts (fun vs H Q E h => ?_) (fun cdv A outer s H vs Q E hr h => ?_)
  · obtain ⟨a, n, vs, zs, ft, k, rfl, _⟩ := h; rfl
  obtain ⟨a, n, vs, zs, ft, kd, rfl, SA, W, k2, k⟩ := h
  refine ⟨_, (pss_cons (ps_set (i := 2) sc_conflicts.nd rfl (Or.inr rfl) (pe_call c_together_by_set.ok (hr.mono (by decide)) rfl c_together_by_set.mg c_together_by_set.kp c_together_by_set.b .nil pass0 (pa_cons (pv 0) (pa_cons (pv 1) pa_nil))))
        (pss_one (ps_ret (pe_lc (own := [("number", 3), ("can", 4)]) (g := gTup _ 2 (gCons (gName 3) (gCons (gName 4) (gNil)))) rfl sc_conflicts.nd (pi_enum rfl T.enumerate (pa_cons (pv 2) pa_nil)) (blkOk_by (N := ["state", "kind", "known", "number", "can"]) (sc := defScope s_conflicts) (by decide +kernel)) (fun _ _ _ _ _ => by exact pg_tup rfl (pgs_cons (pg_name (i := 3) sc_conflicts.nd rfl (Or.inl rfl)) (pgs_cons (pg_name (i := 4) sc_conflicts.nd rfl (Or.inl rfl)) pgs_nil))) (fun _ _ _ _ _ => by exact pts_one (PW.pt (pw_and (pt_not (pt_val (pv 4))) (pw_and1 (pt_val (pe_call c_parts_can.ok (hr.mono (by decide)) rfl c_parts_can.mg c_parts_can.kp c_parts_can.b .nil pass0 (pa_cons (pv 2) (pa_cons (pv 3) pa_nil)))))))) (fun _ _ _ _ _ => by exact (pv 3)))))), ?_⟩
  have p64 := pow6 W.six
  refine ⟨_, rfl, _, rfl, a, n, vs, zs, ft, kd, rfl, SA, W, k2, fun H1 p s1 hp hl => ?_⟩
  have len : ((List.range (2 ^ vs.length)).map (Kp355.together (dk n vs zs) kd)).length = 2 ^ vs.length := by rw [List.length_map, List.length_range]
  refine ⟨_, rfl, p, _, rfl, SqL.of hl, fun D hD => ?_⟩
  refine lc_it walk_enum (PvN H1 D fun j => nV ((List.range j).filter fun s => !Kp355.together (dk n vs zs) kd s && (setOf vs.length s).all fun i => Kp355.together (dk n vs zs) kd (s - 2 ^ i))) (pvn_start hD rfl) (fun j H2 _ pv => SqL.of (pv.1 _ _ hl)) ?_ ?_
  · rintro j x H2 H3 hj pv ⟨t2, xa, xb, rfl, ht2, rfl, ea, eb⟩
    cases Option.some.inj ea
    have hj' : j < 2 ^ vs.length := by unfold bV at hj; rw [List.length_map, len] at hj; exact hj
    have eb' : xb = V.bl (Kp355.together (dk n vs zs) kd j) := by
      have e2 : (bV ((List.range (2 ^ vs.length)).map (Kp355.together (dk n vs zs) kd)))[j]? = some xb := eb
      unfold bV at e2
      rw [List.getElem?_map, List.getElem?_map, List.getElem?_range hj'] at e2
      exact (Option.some.inj e2).symm
    subst eb'
    have s3 : Same H2 (upd H2 t2 (.tup [V.int (j : Int), V.bl (Kp355.together (dk n vs zs) kd j)])) := same_new (Same.refl H2) ht2
    refine ⟨t2, _, rfl, SqT.of upd_same, rfl, _, _, rfl, _, _, rfl, rfl, ?_⟩
    refine ⟨rfl, ?_⟩
    have llen : ∀ m, m ≤ 2 ^ vs.length → (nV ((List.range m).filter fun s => !Kp355.together (dk n vs zs) kd s && (setOf vs.length s).all fun i => Kp355.together (dk n vs zs) kd (s - 2 ^ i))).length < sizeLine := fun m hm => by
      rw [nV_len]
      refine small (Nat.le_trans (List.length_filter_le _ _) ?_)
      rw [List.length_range]; omega
    have grow : (List.range (j + 1)).filter (fun s => !Kp355.together (dk n vs zs) kd s && (setOf vs.length s).all fun i => Kp355.together (dk n vs zs) kd (s - 2 ^ i)) = (List.range j).filter (fun s => !Kp355.together (dk n vs zs) kd s && (setOf vs.length s).all fun i => Kp355.together (dk n vs zs) kd (s - 2 ^ i)) ++ (if (!Kp355.together (dk n vs zs) kd j && (setOf vs.length j).all fun i => Kp355.together (dk n vs zs) kd (j - 2 ^ i)) = true then [j] else []) := by
      rw [List.range_succ, List.filter_append]
      congr 1
      by_cases c : (!Kp355.together (dk n vs zs) kd j && (setOf vs.length j).all fun i => Kp355.together (dk n vs zs) kd (j - 2 ^ i)) = true
      · rw [if_pos c, List.filter_cons, if_pos c]; rfl
      · rw [if_neg c, List.filter_cons, if_neg c]; rfl
    -- not can and parts_can(known, number)
    refine ⟨_, rfl, _, rfl, ?_⟩
    cases tj : Kp355.together (dk n vs zs) kd j with
    | true =>
      refine iteF ?_
      refine iteF ?_
      rw [tj] at s3
      refine pvn_skip pv s3 ?_
      rw [grow, tj]; simp
    | false =>
      refine iteT ?_
      rw [tj] at s3
      refine ⟨_, rfl, _, rfl, p, _, j, rfl, s3 _ _ (pv.1 _ _ hl), by omega, fun i hi => ?_, fun H5 s5 => ⟨_, rfl, ?_⟩⟩
      · rw [len]
        have := (Db.less_lt j (by omega) i (mem6 W.six hj' hi |> fun q => by have := W.six; omega) (mem_bit hi)).2
        omega
      rw [parts_all W kd hj']
      cases pc : (setOf vs.length j).all fun i => Kp355.together (dk n vs zs) kd (j - 2 ^ i) with
      | true =>
        refine iteT ?_
        refine ⟨_, rfl, pvn_next hD pv (s3.trans s5) ?_ (llen j (by omega))⟩
        rw [grow, tj, pc]
        exact nV_snoc _ _
      | false =>
        refine iteF ?_
        refine pvn_skip pv (s3.trans s5) ?_
        rw [grow, tj, pc]; simp
  · rintro H2 pv
    unfold bV at pv
    rw [List.length_map, len] at pv
    exact k H2 D (s1.trans pv.1) (s1.free hD) pv.2
abbrev s_trust_of : Stmt := top 54
theorem sc_trust_of : FnScope ["state", "number", "view"] ["state", "number"] (defScope s_trust_of) := ⟨rfl, rfl, rfl, by decide +kernel, rfl, by decide +kernel, by decide +kernel⟩
theorem ok_trust_of {f f1 : Addr} {fd fd1 : FuncData} (F : Fun K "trust_of" "trust_of" s_trust_of f fd) (T : Txt K mg CS CV) (c_chosen : Cal P w K mg base "chosen" 2 ["state", "number"] (spChosen CS CV) f1 fd1) : FnOk P w K mg base CX0 3 f fd ["state", "number"] (spTrustOf CS CV) := by
  refine F.ok sc_trust_of (fun vs H Q E h => ?_) (fun cdv A outer s H vs Q E hr h => ?_)
  · obtain ⟨a, n, vs, zs, ft, k, rfl, _⟩ := h; rfl
  obtain ⟨a, n, vs, zs, ft, s, rfl, SA, W, hs, k⟩ := h
  refine ⟨_, (pss_one (ps_ret (pe_callB (cr_sum rfl) (by rfl) T.sum (by decide +kernel) (pa_cons (pe_lc (te := (tFld K (tVar 2) "trust")) (own := [("view", 2)]) (g := gName 2) (tt := tYes) rfl sc_trust_of.nd (pi_list (pe_call c_chosen.ok (hr.mono (by decide)) rfl c_chosen.mg c_chosen.kp c_chosen.b .nil pass0 (pa_cons (pv 0) (pa_cons (pv 1) pa_nil)))) (blkOk_by (N := ["state", "number", "view"]) (sc := defScope s_trust_of) (by decide +kernel)) (fun _ _ _ _ _ => by exact pg_name (i := 2) sc_trust_of.nd rfl (Or.inl rfl)) (fun _ _ _ _ _ => pts_nil) (fun _ _ _ _ _ => by exact (pe_fld (pv 2) rfl))) pa_nil)))), ?_⟩
  have p64 := pow6 W.six
  refine ⟨_, rfl, _, rfl, a, n, vs, zs, ft, s, rfl, SA, by omega, fun i hi => mem6 W.six hs hi, fun H1 p qs s1 hp hl RV => ?_⟩
  refine ⟨p, rfl, ⟨_, SqL.of hl⟩, fun D hD => ?_⟩
  have cl : (chosenOf vs zs s).length = (mem s).length := by unfold chosenOf; rw [List.length_map]
  refine lc_it walk_list (PvN H1 D fun j => aV (((chosenOf vs zs s).take j).map fun v => (v.2 : Int))) (pvn_start hD rfl) (fun j H2 _ pv => SqL.of (pv.1 _ _ hl)) ?_ ?_
  · rintro j x H2 H3 hj pv ⟨rfl, hx⟩
    obtain ⟨q, hq, rfl⟩ := refs_at hx
    obtain ⟨v, t, hv, ⟨dv, h4⟩, h5⟩ := (RV.same pv.1).byQ hq
    refine ⟨rfl, ?_⟩
    refine ⟨_, rfl, q, CV, dv, _, _, rfl, h4, T.clV, T.vR, rfl, ?_⟩
    refine pvn_next hD pv (Same.refl _) ?_ (by rw [aV_len, List.length_map, List.length_take]; exact small (by rw [cl]; have := mem_len s; omega))
    show aV (((chosenOf vs zs s).take (j + 1)).map _) = _
    rw [take_snoc hv, List.map_append]
    exact aV_snoc _ _
  · rintro H2 pv
    have e2 : H2 D = some (.lst (((chosenOf vs zs s).map fun v => (v.2 : Int)).map V.int)) := by
      have h := pv.2
      rw [List.length_map, RV.len] at h
      have h : H2 D = some (.lst (aV (((chosenOf vs zs s).take (chosenOf vs zs s).length).map fun v => (v.2 : Int)))) := h
      rw [take_all] at h
      exact h
    refine ⟨D, _, rfl, SqL.of e2, ?_⟩
    have k' := k H2 (s1.trans pv.1)
    have e3 : ((chosenOf vs zs s).map fun v => (v.2 : Int)).sum = (Kp355.costOf (dk n vs zs) s : Int) := by
      unfold Kp355.costOf chosenOf
      rw [← total_sum, mem_sel W.toWf hs]
      congr 1
      rw [List.map_map, List.map_map]; rfl
    rw [← e3] at k'
    exact k'
end
end Dv
end
section
set_option Elab.async false
set_option maxRecDepth 100000
set_option maxHeartbeats 4000000
set_option exponentiation.threshold 2000
namespace Dv
open PySem PySem.Spec PyProof.Rows L2
open Kp351 (setOf View total)

/-! ### what a call makes of the state, by the specification -/
/-- the specification's state, as the program has it -/
def Ab (st : Kp355.State) (n : Nat) (vs : List View) (zs : List Nat) : Prop := (st = none ∧ n = 0 ∧ vs = [] ∧ zs = []) ∨ (st = some (dk n vs zs) ∧ 2 ≤ n ∧ Wg n vs zs)
theorem Wg.nil {n : Nat} (h : n < 5) : Wg n [] [] := ⟨⟨h, by simp, rfl, fun v hv => by simp at hv, fun z hz => by simp at hz, fun v hv => by simp at hv⟩, List.nodup_nil, fun z hz => by simp at hz⟩
theorem Ab.w {st : Kp355.State} {n : Nat} {vs : List View} {zs : List Nat} (h : Ab st n vs zs) : Wg n vs zs := by
  rcases h with ⟨_, rfl, rfl, rfl⟩ | ⟨_, _, w⟩
  · exact Wg.nil (by omega)
  · exact w
theorem Ab.none {st : Kp355.State} {n : Nat} {vs : List View} {zs : List Nat} (h : Ab st n vs zs) : n = 0 ↔ st = Option.none := by
  rcases h with ⟨h1, h2, _⟩ | ⟨h1, h2, _⟩
  · exact ⟨fun _ => h1, fun _ => h2⟩
  · exact ⟨fun g => by omega, fun g => by rw [h1] at g; cases g⟩
theorem Ab.some {st : Kp355.State} {n : Nat} {vs : List View} {zs : List Nat} (h : Ab st n vs zs) (n0 : n ≠ 0) : st = Option.some (dk n vs zs) ∧ 2 ≤ n ∧ Wg n vs zs := by
  rcases h with ⟨_, h2, _⟩ | h
  · exact absurd h2 n0
  · exact h
/-- a call's answer and what it leaves, by r -/
def Goes (p : Kp355.State × Kp355.Ans) (r : R) : Prop := p.2.num :: p.2.nums = r.ans ∧ Ab p.1 r.n r.vs r.zs

theorem goes_begin {st : Kp355.State} {n : Nat} {vs : List View} {zs : List Nat} (h : Ab st n vs zs) (q : Nat) : Goes (Kp355.step st (.begin_ q)) (fBegin n vs zs q) := by
  unfold fBegin
  show Goes (if q < 2 ∨ 4 < q then (st, Kp355.say (-22)) else (Option.some ⟨⟨q, []⟩, []⟩, Kp355.say 0)) _
  by_cases c : q < 2 ∨ 4 < q
  · rw [if_pos c, if_pos c]; exact ⟨rfl, h⟩
  · rw [if_neg c, if_neg c]
    have h1 : 2 ≤ q := by omega
    exact ⟨rfl, .inr ⟨rfl, h1, Wg.nil (show q < 5 by omega)⟩⟩
theorem total_rep : ∀ k, total (List.replicate k 1) = k
  | 0 => rfl
  | k + 1 => by rw [List.replicate_succ, Sh.total_cons, total_rep k]; omega
section
variable {n : Nat} {vs : List View} {zs : List Nat}
theorem keeps_ab (n2 : 2 ≤ n) (W : Wg n vs zs) : Ab (Option.some (dk n vs zs)) n vs zs := .inr ⟨rfl, n2, W⟩
theorem mem_n (W : Wg n vs zs) {s : Nat} (h : s < 2 ^ n) : mem s = setOf n s ∧ setOf n s = setOf 4 s ∧ s < 16 := by
  have n4 := W.n4
  have h2 : 2 ^ n ≤ 2 ^ 4 := Nat.pow_le_pow_right (by omega) (by omega)
  exact ⟨mem_eq (by omega) h, Wh.setOf4 n n4 s h, by omega⟩
theorem step_view {s : Nat} {e : Kp351.Desk} {a : Kp351.Ans} (t : Kp351.step (Option.some ⟨n, vs⟩) (.view s) = (Option.some e, a)) :
    Kp355.step (Option.some (dk n vs zs)) (.view s) = if a.num < 0 then (Option.some ⟨e, zs⟩, ⟨a.num, a.nums⟩) else (Option.some ⟨e, zs ++ [1]⟩, ⟨a.num, a.nums⟩) := by
  show (if (Kp355.under (dk n vs zs) (.view s)).2.num < 0 then Kp355.under (dk n vs zs) (.view s) else ((Kp355.under (dk n vs zs) (.view s)).1.map fun e => { e with trust := zs ++ [1] }, (Kp355.under (dk n vs zs) (.view s)).2)) = _
  have u : Kp355.under (dk n vs zs) (.view s) = (Option.some ⟨e, zs⟩, ⟨a.num, a.nums⟩) := by
    unfold Kp355.under
    show (Option.some (⟨(Kp351.step (Option.some ⟨n, vs⟩) (.view s)).1.getD ⟨n, vs⟩, zs⟩ : Kp355.Desk), (⟨(Kp351.step (Option.some ⟨n, vs⟩) (.view s)).2.num, (Kp351.step (Option.some ⟨n, vs⟩) (.view s)).2.nums⟩ : Kp355.Ans)) = _
    rw [t]; rfl
  rw [u]; rfl
theorem step_unview {s : Nat} {e : Kp351.Desk} {a : Kp351.Ans} (t : Kp351.step (Option.some ⟨n, vs⟩) (.unview s) = (Option.some e, a)) :
    Kp355.step (Option.some (dk n vs zs)) (.unview s) = if a.num < 0 then (Option.some ⟨e, zs⟩, ⟨a.num, a.nums⟩) else (Option.some ⟨e, zs.take s ++ zs.drop (s + 1)⟩, ⟨a.num, a.nums⟩) := by
  show (if (Kp355.under (dk n vs zs) (.unview s)).2.num < 0 then Kp355.under (dk n vs zs) (.unview s) else ((Kp355.under (dk n vs zs) (.unview s)).1.map fun e => { e with trust := zs.take s ++ zs.drop (s + 1) }, (Kp355.under (dk n vs zs) (.unview s)).2)) = _
  have u : Kp355.under (dk n vs zs) (.unview s) = (Option.some ⟨e, zs⟩, ⟨a.num, a.nums⟩) := by
    unfold Kp355.under
    show (Option.some (⟨(Kp351.step (Option.some ⟨n, vs⟩) (.unview s)).1.getD ⟨n, vs⟩, zs⟩ : Kp355.Desk), (⟨(Kp351.step (Option.some ⟨n, vs⟩) (.unview s)).2.num, (Kp351.step (Option.some ⟨n, vs⟩) (.unview s)).2.nums⟩ : Kp355.Ans)) = _
    rw [t]; rfl
  rw [u]; rfl
theorem goes_view (n2 : 2 ≤ n) (W : Wg n vs zs) (s : Nat) : Goes (Kp355.step (Option.some (dk n vs zs)) (.view s)) (fAdd n vs zs s) := by
  have t : Kp351.step (Option.some ⟨n, vs⟩) (.view s) = if Kp351.okView ⟨n, vs⟩ s = false then (Option.some ⟨n, vs⟩, Kp351.say (-22)) else if (vs.any fun v => Kp351.numOf v.qs == s) = true then (Option.some ⟨n, vs⟩, Kp351.say (-17)) else if 6 ≤ vs.length then (Option.some ⟨n, vs⟩, Kp351.say (-28)) else
      (Option.some ⟨n, vs ++ [⟨setOf n s, List.replicate (2 ^ (setOf n s).length) 1⟩]⟩, Kp351.say (vs.length : Nat)) := rfl
  unfold fAdd
  by_cases c1 : 2 ^ n ≤ s ∨ (mem s).length < 1 ∨ 3 < (mem s).length
  · have ok : Kp351.okView ⟨n, vs⟩ s = false := by
      unfold Kp351.okView
      show (decide (s < 2 ^ n) && decide (1 ≤ (setOf n s).length) && decide ((setOf n s).length ≤ 3)) = false
      by_cases c : s < 2 ^ n
      · rw [(mem_n W c).1] at c1
        rw [decide_eq_true c, Bool.true_and]
        rcases c1 with g | g | g
        · omega
        · rw [decide_eq_false (by omega), Bool.false_and]
        · rw [decide_eq_false (p := (setOf n s).length ≤ 3) (by omega), Bool.and_false]
      · rw [decide_eq_false c]; rfl
    rw [if_pos ok] at t
    rw [if_pos c1, step_view t]
    exact ⟨rfl, keeps_ab n2 W⟩
  · have c : s < 2 ^ n := by omega
    have ms := mem_n W c
    have ok : ¬ Kp351.okView ⟨n, vs⟩ s = false := by
      rw [ms.1] at c1
      unfold Kp351.okView
      show ¬ (decide (s < 2 ^ n) && decide (1 ≤ (setOf n s).length) && decide ((setOf n s).length ≤ 3)) = false
      rw [decide_eq_true c, decide_eq_true (p := 1 ≤ (setOf n s).length) (by omega), decide_eq_true (p := (setOf n s).length ≤ 3) (by omega)]
      simp
    rw [if_neg ok] at t
    rw [if_neg c1]
    by_cases c2 : (vs.any fun v => Kp351.numOf v.qs == s) = true
    · rw [if_pos c2] at t
      rw [if_pos c2, step_view t]; exact ⟨rfl, keeps_ab n2 W⟩
    · rw [if_neg c2] at t
      rw [if_neg c2]
      by_cases c3 : 6 ≤ vs.length
      · have six := W.six
        rw [if_pos c3] at t
        rw [if_pos (show vs.length = 6 by omega), step_view t]; exact ⟨rfl, keeps_ab n2 W⟩
      · rw [if_neg c3] at t
        rw [if_neg (show ¬ vs.length = 6 by omega), step_view t, if_neg (show ¬ (Kp351.say ((vs.length : Nat) : Int)).num < 0 from Int.not_lt.mpr (Int.natCast_nonneg _))]
        have l1 : (1 : Nat) ≤ (setOf 4 s).length ∧ (setOf 4 s).length ≤ 3 := by rw [ms.1, ms.2.1] at c1; omega
        have no := Wh.numOf4 s ms.2.2
        rw [ms.2.1]
        refine ⟨rfl, .inr ⟨rfl, n2, ⟨⟨W.n4, ?_, ?_, fun v hv => ?_, fun z hz => ?_, fun v hv x hx => ?_⟩, ?_, fun z hz => ?_⟩⟩⟩
        · show (vs ++ [newView s]).length ≤ 6
          rw [List.length_append]; simp; omega
        · show (zs ++ [1]).length = (vs ++ [newView s]).length
          rw [List.length_append, List.length_append, W.zl]; rfl
        · rcases List.mem_append.mp hv with g | g
          · exact W.v v g
          · rw [List.mem_singleton.mp g]
            refine ⟨W.n4, ?_, ?_, l1.2, ?_, ?_⟩
            · show Kp351.numOf (setOf 4 s) < 2 ^ n
              rw [no]; exact c
            · show setOf 4 s = setOf 4 (Kp351.numOf (setOf 4 s))
              rw [no]
            · show (List.replicate _ 1).length = _
              rw [List.length_replicate]; rfl
            · show 0 < total (List.replicate _ 1)
              rw [total_rep]; exact Nat.pow_pos (by omega)
        · rcases List.mem_append.mp hz with g | g
          · exact W.z z g
          · rw [List.mem_singleton.mp g]; omega
        · rcases List.mem_append.mp hv with g | g
          · exact W.le v g x hx
          · rw [List.mem_singleton.mp g] at hx
            have := (List.mem_replicate.mp hx).2
            omega
        · show ((vs ++ [newView s]).map fun (v : View) => Kp351.numOf v.qs).Nodup
          rw [List.map_append]
          refine List.nodup_append.mpr ⟨W.nd, by simp, fun a ha b hb => ?_⟩
          have hb' : b = s := by
            have : b = Kp351.numOf (setOf 4 s) := by simpa [newView] using hb
            rw [this, no]
          rw [hb']
          intro g
          obtain ⟨v, hv, e⟩ := List.mem_map.mp ha
          exact c2 (List.any_eq_true.mpr ⟨v, hv, by rw [e, g]; exact beq_self_eq_true s⟩)
        · rcases List.mem_append.mp hz with g | g
          · exact W.z1 z g
          · rw [List.mem_singleton.mp g]; omega
theorem isView_iff (i : Nat) : Kp351.isView ⟨n, vs⟩ i = false ↔ vs.length ≤ i := by
  unfold Kp351.isView
  show decide (i < vs.length) = false ↔ _
  rw [decide_eq_false_iff_not]; omega
theorem mem_erase {α : Type} {l : List α} {i : Nat} {x : α} (h : x ∈ l.eraseIdx i) : x ∈ l := List.mem_of_mem_eraseIdx h
theorem take_drop {α : Type} (l : List α) (i : Nat) : l.take i ++ l.drop (i + 1) = l.eraseIdx i := (List.eraseIdx_eq_take_drop_succ l i).symm
theorem goes_unview (n2 : 2 ≤ n) (W : Wg n vs zs) (i : Nat) : Goes (Kp355.step (Option.some (dk n vs zs)) (.unview i)) (fDrop n vs zs i) := by
  have t : Kp351.step (Option.some ⟨n, vs⟩) (.unview i) = if Kp351.isView ⟨n, vs⟩ i = false then (Option.some ⟨n, vs⟩, Kp351.say (-2)) else (Option.some ⟨n, vs.take i ++ vs.drop (i + 1)⟩, Kp351.say (vs.length - 1 : Nat)) := rfl
  unfold fDrop
  by_cases c : vs.length ≤ i
  · rw [if_pos ((isView_iff i).mpr c)] at t
    rw [if_pos c, step_unview t]; exact ⟨rfl, keeps_ab n2 W⟩
  · rw [if_neg (fun g => c ((isView_iff i).mp g))] at t
    rw [if_neg c, step_unview t, if_neg (show ¬ (Kp351.say ((vs.length - 1 : Nat) : Int)).num < 0 from Int.not_lt.mpr (Int.natCast_nonneg _)), take_drop, take_drop]
    have zl := W.zl
    refine ⟨?_, .inr ⟨rfl, n2, ⟨⟨W.n4, ?_, ?_, fun v hv => W.v v (mem_erase hv), fun z hz => W.z z (mem_erase hz), fun v hv => W.le v (mem_erase hv)⟩, ?_, fun z hz => W.z1 z (mem_erase hz)⟩⟩⟩
    · show [((vs.length - 1 : Nat) : Int)] = [(vs.length : Int) - 1]
      rw [Int.natCast_sub (by omega)]; rfl
    · show (vs.eraseIdx i).length ≤ 6
      rw [List.length_eraseIdx]; have := W.six; split <;> omega
    · show (zs.eraseIdx i).length = (vs.eraseIdx i).length
      rw [List.length_eraseIdx, List.length_eraseIdx, zl]
    · exact W.nd.sublist ((List.eraseIdx_sublist vs i).map _)
/-- a view has another table -/
theorem Wg.put (W : Wg n vs zs) {i : Nat} (hi : i < vs.length) {row : List Nat} (h : okTable (vs.getD i ⟨[], []⟩) row = true) : Wg n (vs.set i { vs.getD i ⟨[], []⟩ with table := row }) zs := by
  have ei : vs.getD i ⟨[], []⟩ = vs[i] := by rw [List.getD_eq_getElem?_getD, List.getElem?_eq_getElem hi]; rfl
  rw [ei] at h ⊢
  have hv := W.v vs[i] (List.getElem_mem hi)
  unfold okTable at h
  rw [Bool.and_eq_true, Bool.and_eq_true] at h
  obtain ⟨⟨h1, h2⟩, h3⟩ := h
  have h1 := of_decide_eq_true h1
  have h3 := of_decide_eq_true h3
  have old : ∀ v ∈ vs.set i { vs[i] with table := row }, v ∈ vs ∨ v = { vs[i] with table := row } := fun v hv => List.mem_or_eq_of_mem_set hv
  refine ⟨⟨W.n4, by rw [List.length_set]; exact W.six, by rw [List.length_set]; exact W.zl, fun v hv' => ?_, W.z, fun v hv' x hx => ?_⟩, ?_, W.z1⟩
  · rcases old v hv' with g | g
    · exact W.v v g
    · rw [g]
      exact ⟨hv.n4, hv.a, hv.q, hv.s3, h1.trans hv.ok.1, h3⟩
  · rcases old v hv' with g | g
    · exact W.le v g x hx
    · rw [g] at hx
      have := List.all_eq_true.mp h2 x hx
      exact of_decide_eq_true this
  · have e : (vs.set i { vs[i] with table := row }).map (fun (v : View) => Kp351.numOf v.qs) = vs.map fun (v : View) => Kp351.numOf v.qs := by
      rw [List.map_set]
      refine List.ext_getElem? fun j => ?_
      rw [List.getElem?_set]
      split
      · rename_i g
        subst g
        split
        · rw [List.getElem?_map, List.getElem?_eq_getElem hi]; rfl
        · rename_i g2; rw [List.length_map] at g2; exact absurd hi g2
      · rfl
    rw [e]; exact W.nd
theorem okTable_iff (W : Wg n vs zs) {i : Nat} (hi : i < vs.length) (row : List Nat) : (row.length ≠ 2 ^ (Kp351.viewAt ⟨n, vs⟩ i).qs.length ∨ (row.any fun v => decide (100 < v)) = true ∨ total row = 0) ↔ ¬ okTable (vs.getD i ⟨[], []⟩) row = true := by
  have ei : vs.getD i ⟨[], []⟩ = vs[i] := by rw [List.getD_eq_getElem?_getD, List.getElem?_eq_getElem hi]; rfl
  have hv := W.v vs[i] (List.getElem_mem hi)
  show (row.length ≠ 2 ^ (vs.getD i ⟨[], []⟩).qs.length ∨ _) ↔ _
  rw [ei]
  unfold okTable
  rw [Bool.and_eq_true, Bool.and_eq_true, decide_eq_true_iff, decide_eq_true_iff, hv.ok.1, List.all_eq_true, List.any_eq_true]
  constructor
  · rintro h ⟨⟨h1, h2⟩, h3⟩
    rcases h with g | ⟨x, hx, g⟩ | g
    · exact g h1
    · have := of_decide_eq_true (h2 x hx)
      have := of_decide_eq_true g
      omega
    · omega
  · intro h
    by_cases c1 : row.length = 2 ^ vs[i].qs.length
    · by_cases c2 : ∃ x, x ∈ row ∧ decide (100 < x) = true
      · exact .inr (.inl c2)
      · refine .inr (.inr ?_)
        apply Classical.byContradiction
        intro g
        refine h ⟨⟨c1, fun x hx => decide_eq_true ?_⟩, by omega⟩
        apply Classical.byContradiction
        intro g2
        exact c2 ⟨x, hx, decide_eq_true (by omega)⟩
    · exact .inl c1
theorem step_under {c : Kp351.Call} {e : Kp351.Desk} {a : Kp351.Ans} (t : Kp351.step (Option.some ⟨n, vs⟩) c = (Option.some e, a)) : Kp355.under (dk n vs zs) c = (Option.some ⟨e, zs⟩, ⟨a.num, a.nums⟩) := by
  unfold Kp355.under
  show (Option.some (⟨(Kp351.step (Option.some ⟨n, vs⟩) c).1.getD ⟨n, vs⟩, zs⟩ : Kp355.Desk), (⟨(Kp351.step (Option.some ⟨n, vs⟩) c).2.num, (Kp351.step (Option.some ⟨n, vs⟩) c).2.nums⟩ : Kp355.Ans)) = _
  rw [t]; rfl
theorem goes_table (n2 : 2 ≤ n) (W : Wg n vs zs) (i : Nat) (row : List Nat) : Goes (Kp355.step (Option.some (dk n vs zs)) (.table i row)) (fTable n vs zs i row) := by
  have t : Kp351.step (Option.some ⟨n, vs⟩) (.table i row) = if Kp351.isView ⟨n, vs⟩ i = false then (Option.some ⟨n, vs⟩, Kp351.say (-2)) else if row.length ≠ 2 ^ (Kp351.viewAt ⟨n, vs⟩ i).qs.length ∨ (row.any fun v => decide (100 < v)) = true ∨ total row = 0 then (Option.some ⟨n, vs⟩, Kp351.say (-22)) else
      (Option.some ⟨n, vs.set i { Kp351.viewAt ⟨n, vs⟩ i with table := row }⟩, Kp351.say 0) := rfl
  show Goes (Kp355.under (dk n vs zs) (.table i row)) _
  unfold fTable
  by_cases c : vs.length ≤ i
  · rw [if_pos ((isView_iff i).mpr c)] at t
    rw [if_pos c, step_under t]; exact ⟨rfl, keeps_ab n2 W⟩
  · rw [if_neg (fun g => c ((isView_iff i).mp g))] at t
    rw [if_neg c]
    by_cases c2 : okTable (vs.getD i ⟨[], []⟩) row = true
    · rw [if_neg (fun g => (okTable_iff W (by omega) row).mp g c2)] at t
      rw [if_pos c2, step_under t]
      exact ⟨rfl, .inr ⟨rfl, n2, W.put (by omega) c2⟩⟩
    · rw [if_pos ((okTable_iff W (by omega) row).mpr c2)] at t
      rw [if_neg c2, step_under t]; exact ⟨rfl, keeps_ab n2 W⟩
theorem goes_viewis (n2 : 2 ≤ n) (W : Wg n vs zs) (i : Nat) : Goes (Kp355.step (Option.some (dk n vs zs)) (.viewIs i)) (fTell n vs zs i) := by
  have t : Kp351.step (Option.some ⟨n, vs⟩) (.viewIs i) = (Option.some ⟨n, vs⟩, if Kp351.isView ⟨n, vs⟩ i = false then Kp351.say (-2) else ⟨(Kp351.numOf (Kp351.viewAt ⟨n, vs⟩ i).qs : Int), (Kp351.viewAt ⟨n, vs⟩ i).table.map fun (x : Nat) => (x : Int)⟩) := rfl
  show Goes (Kp355.under (dk n vs zs) (.viewIs i)) _
  unfold fTell
  by_cases c : vs.length ≤ i
  · rw [if_pos ((isView_iff i).mpr c)] at t
    rw [if_pos c, step_under t]; exact ⟨rfl, keeps_ab n2 W⟩
  · rw [if_neg (fun g => c ((isView_iff i).mp g))] at t
    rw [if_neg c, step_under t]; exact ⟨rfl, keeps_ab n2 W⟩
theorem seen_map {v : View} (h : v.table.length = 2 ^ v.qs.length) (x : Nat) : (Kp351.rows v.qs).map (fun c => if c = Kp351.rowOf x v.qs then min 100 (v.table.getD c 0 + 1) else v.table.getD c 0) = (seen1 x v).table := by
  unfold seen1 Kp351.rows
  have hr := Sh.rowOf_lt x v.qs
  refine List.ext_getElem? fun j => ?_
  show _ = (v.table.set (Kp351.rowOf x v.qs) (min (v.table.getD (Kp351.rowOf x v.qs) 0 + 1) 100))[j]?
  rw [List.getElem?_map, List.getElem?_set]
  by_cases hj : j < 2 ^ v.qs.length
  · rw [List.getElem?_range hj]
    by_cases c : Kp351.rowOf x v.qs = j
    · rw [if_pos c, if_pos (by rw [h]; exact hr)]
      show Option.some (if j = Kp351.rowOf x v.qs then _ else _) = _
      rw [if_pos c.symm, ← c, Nat.min_comm]
    · rw [if_neg c]
      show Option.some (if j = Kp351.rowOf x v.qs then _ else _) = _
      rw [if_neg (fun g => c g.symm), List.getD_eq_getElem?_getD, List.getElem?_eq_getElem (by rw [h]; exact hj)]; rfl
  · rw [List.getElem?_eq_none (by rw [List.length_range]; omega)]
    have : Kp351.rowOf x v.qs ≠ j := by omega
    rw [if_neg this, List.getElem?_eq_none (by rw [h]; omega)]; rfl
theorem total_pos {l : List Nat} {i : Nat} (hi : i < l.length) (h : 0 < l[i]) : 0 < total l := by
  induction l generalizing i with
  | nil => simp at hi
  | cons a l ih =>
    rw [Sh.total_cons]
    cases i with
    | zero => have : 0 < a := h; omega
    | succ i =>
      have := ih (i := i) (by simpa using hi) (by simpa using h)
      omega
theorem Vw.seen {v : View} (h : Wh.Vw n v) (x : Nat) : Wh.Vw n (seen1 x v) := by
  refine ⟨h.n4, h.a, h.q, h.s3, ?_, ?_⟩
  · show (v.table.set _ _).length = _
    rw [List.length_set]; exact h.ok.1
  · have hr : Kp351.rowOf x v.qs < v.table.length := by rw [h.ok.1]; exact Sh.rowOf_lt x v.qs
    refine total_pos (i := Kp351.rowOf x v.qs) (by show _ < (v.table.set _ _).length; rw [List.length_set]; exact hr) ?_
    show 0 < (v.table.set (Kp351.rowOf x v.qs) (min (v.table.getD (Kp351.rowOf x v.qs) 0 + 1) 100))[Kp351.rowOf x v.qs]'_
    rw [List.getElem_set_self]; omega
theorem goes_world (n2 : 2 ≤ n) (W : Wg n vs zs) (x : Nat) : Goes (Kp355.step (Option.some (dk n vs zs)) (.world x)) (fSee n vs zs x) := by
  have t : Kp351.step (Option.some ⟨n, vs⟩) (.world x) = if 2 ^ n ≤ x then (Option.some ⟨n, vs⟩, Kp351.say (-22)) else (Option.some ⟨n, vs.map fun v => { v with table := (Kp351.rows v.qs).map fun c => if c = Kp351.rowOf x v.qs then min 100 (v.table.getD c 0 + 1) else v.table.getD c 0 }⟩, Kp351.say (vs.length : Nat)) := rfl
  show Goes (Kp355.under (dk n vs zs) (.world x)) _
  unfold fSee
  by_cases c : 2 ^ n ≤ x
  · rw [if_pos c] at t
    rw [if_pos c, step_under t]; exact ⟨rfl, keeps_ab n2 W⟩
  · rw [if_neg c] at t
    have e : (vs.map fun v => { v with table := (Kp351.rows v.qs).map fun c => if c = Kp351.rowOf x v.qs then min 100 (v.table.getD c 0 + 1) else v.table.getD c 0 }) = vs.map (seen1 x) := by
      refine List.map_congr_left fun v hv => ?_
      rw [seen_map (W.v v hv).ok.1 x]; rfl
    rw [e] at t
    rw [if_neg c, step_under t]
    refine ⟨rfl, .inr ⟨rfl, n2, ⟨⟨W.n4, ?_, ?_, fun v hv => ?_, W.z, fun v hv y hy => ?_⟩, ?_, W.z1⟩⟩⟩
    · show (vs.map _).length ≤ 6
      rw [List.length_map]; exact W.six
    · show zs.length = (vs.map _).length
      rw [List.length_map]; exact W.zl
    · obtain ⟨u, hu, e⟩ := List.mem_map.mp hv
      rw [← e]
      exact Vw.seen (W.v u hu) x
    · obtain ⟨u, hu, e⟩ := List.mem_map.mp hv
      rw [← e] at hy
      rcases List.mem_or_eq_of_mem_set (show y ∈ u.table.set _ _ from hy) with g | g
      · exact W.le u hu y g
      · rw [g]; omega
    · show ((vs.map (seen1 x)).map fun (v : View) => Kp351.numOf v.qs).Nodup
      rw [List.map_map]; exact W.nd
theorem goes_trust (n2 : 2 ≤ n) (W : Wg n vs zs) (i t : Nat) : Goes (Kp355.step (Option.some (dk n vs zs)) (.trust i t)) (fTrust n vs zs i t) := by
  show Goes (if Kp351.isView ⟨n, vs⟩ i = false then (Option.some (dk n vs zs), Kp355.say (-2)) else if t < 1 ∨ 100 < t then (Option.some (dk n vs zs), Kp355.say (-22)) else (Option.some (dk n vs (zs.set i t)), Kp355.say (zs.getD i 0 : Nat))) _
  unfold fTrust
  by_cases c : vs.length ≤ i
  · rw [if_pos ((isView_iff i).mpr c), if_pos c]; exact ⟨rfl, keeps_ab n2 W⟩
  · rw [if_neg (fun g => c ((isView_iff i).mp g)), if_neg c]
    by_cases c2 : t < 1 ∨ 100 < t
    · rw [if_pos c2, if_pos c2]; exact ⟨rfl, keeps_ab n2 W⟩
    · rw [if_neg c2, if_neg c2]
      refine ⟨rfl, .inr ⟨rfl, n2, ⟨⟨W.n4, W.six, ?_, W.v, fun z hz => ?_, W.le⟩, W.nd, fun z hz => ?_⟩⟩⟩
      · show (zs.set i t).length = _
        rw [List.length_set]; exact W.zl
      · rcases List.mem_or_eq_of_mem_set hz with g | g
        · exact W.z z g
        · rw [g]; omega
      · rcases List.mem_or_eq_of_mem_set hz with g | g
        · exact W.z1 z g
        · rw [g]; omega
end
end Dv
end
section
set_option Elab.async false
set_option maxRecDepth 100000
set_option maxHeartbeats 4000000
set_option exponentiation.threshold 2000
namespace Dv
open PySem PySem.Spec PyProof.Rows L2 LamX NdefX MinK
open Kp351 (setOf View total)

/-! ### a call, by its place and its numbers -/
theorem nat_of {a : Int} (h : Kp355Neutral.natural a = true) : ∃ k : Nat, k < 2 ^ 32 ∧ a = (k : Int) := by
  unfold Kp355Neutral.natural at h
  rw [Bool.and_eq_true, decide_eq_true_iff, decide_eq_true_iff] at h
  exact ⟨a.toNat, by omega, by omega⟩
theorem nats_of : ∀ {l : List Int}, l.all Kp355Neutral.natural = true → ∃ ks : List Nat, l = ks.map (fun (x : Nat) => (x : Int)) ∧ l.map Int.toNat = ks
  | [], _ => ⟨[], rfl, rfl⟩
  | a :: l, h => by
    rw [List.all_cons, Bool.and_eq_true] at h
    obtain ⟨k, _, e⟩ := nat_of h.1
    obtain ⟨ks, e1, e2⟩ := nats_of h.2
    exact ⟨k :: ks, by rw [List.map_cons, ← e, ← e1], by rw [List.map_cons, e2, e]; rfl⟩
inductive Asked : Int → List Int → Kp355.Call → Prop
  | c0 (a : Nat) : a < 2 ^ 32 → Asked 0 [(a : Int)] (.begin_ a)
  | c1 (a : Nat) : a < 2 ^ 32 → Asked 1 [(a : Int)] (.view a)
  | c2 (a : Nat) : a < 2 ^ 32 → Asked 2 [(a : Int)] (.unview a)
  | c3 (a : Nat) (l : List Nat) : a < 2 ^ 32 → l.length ≤ 10 → Asked 3 ((a : Int) :: l.map fun (x : Nat) => (x : Int)) (.table a l)
  | c4 (a : Nat) : a < 2 ^ 32 → Asked 4 [(a : Int)] (.viewIs a)
  | c5 (a : Nat) : a < 2 ^ 32 → Asked 5 [(a : Int)] (.world a)
  | c6 (a b : Nat) : a < 2 ^ 32 → b < 2 ^ 32 → Asked 6 [(a : Int), (b : Int)] (.trust a b)
  | c7 (a b : Nat) : a < 2 ^ 32 → b < 2 ^ 32 → Asked 7 [(a : Int), (b : Int)] (.together a b)
  | c8 (a : Nat) : a < 2 ^ 32 → Asked 8 [(a : Int)] (.conflicts a)
  | c9 (a : Nat) : a < 2 ^ 32 → Asked 9 [(a : Int)] (.fewest a)
  | c10 (a : Nat) : a < 2 ^ 32 → Asked 10 [(a : Int)] (.cheapest a)
  | c11 (a : Nat) : a < 2 ^ 32 → Asked 11 [(a : Int)] (.ways a)
  | c12 (a : Nat) : a < 2 ^ 32 → Asked 12 [(a : Int)] (.never a)
  | c13 (a : Nat) : a < 2 ^ 32 → Asked 13 [(a : Int)] (.always a)
  | c14 (a b : Nat) : a < 2 ^ 32 → b < 2 ^ 32 → Asked 14 [(a : Int), (b : Int)] (.blame a b)
  | c15 (a b : Nat) : a < 2 ^ 32 → b < 2 ^ 32 → Asked 15 [(a : Int), (b : Int)] (.enough a b)
  | c16 (a b : Nat) (l : List Nat) : a < 2 ^ 32 → b < 2 ^ 32 → l.length ≤ 10 → Asked 16 ((a : Int) :: (b : Int) :: l.map fun (x : Nat) => (x : Int)) (.ifTable a b l)
  | c17 (a b c : Nat) : a < 2 ^ 32 → b < 2 ^ 32 → c < 2 ^ 32 → Asked 17 [(a : Int), (b : Int), (c : Int)] (.ifTrust a b c)
  | c18 (a : Nat) : a < 2 ^ 32 → Asked 18 [(a : Int)] (.kept a)
  | c19 (a : Nat) : a < 2 ^ 32 → Asked 19 [(a : Int)] (.cost a)
theorem asked_of {p : Int} {ns : List Int} (h : Kp355Neutral.asked1 [p :: ns] = true) : ∃ x, Kp355Neutral.callOf [p :: ns] = some x ∧ Asked p ns x := by
  unfold Kp355Neutral.asked1 at h
  split at h
  · rename_i a e
    cases e
    obtain ⟨a, ha, rfl⟩ := nat_of h
    exact ⟨_, rfl, .c0 a ha⟩
  · rename_i a e
    cases e
    obtain ⟨a, ha, rfl⟩ := nat_of h
    exact ⟨_, rfl, .c1 a ha⟩
  · rename_i a e
    cases e
    obtain ⟨a, ha, rfl⟩ := nat_of h
    exact ⟨_, rfl, .c2 a ha⟩
  · rename_i a l e
    cases e
    rw [Bool.and_eq_true, Bool.and_eq_true] at h
    obtain ⟨a, ha, rfl⟩ := nat_of h.1
    obtain ⟨ks, rfl, ek⟩ := nats_of h.2.1
    exact ⟨_, rfl, by rw [ek]; exact .c3 a ks ha (by have := of_decide_eq_true h.2.2; rw [List.length_map] at this; exact this)⟩
  · rename_i a e
    cases e
    obtain ⟨a, ha, rfl⟩ := nat_of h
    exact ⟨_, rfl, .c4 a ha⟩
  · rename_i a e
    cases e
    obtain ⟨a, ha, rfl⟩ := nat_of h
    exact ⟨_, rfl, .c5 a ha⟩
  · rename_i a b e
    cases e
    rw [Bool.and_eq_true] at h
    obtain ⟨a, ha, rfl⟩ := nat_of h.1
    obtain ⟨b, hb, rfl⟩ := nat_of h.2
    exact ⟨_, rfl, .c6 a b ha hb⟩
  · rename_i a b e
    cases e
    rw [Bool.and_eq_true] at h
    obtain ⟨a, ha, rfl⟩ := nat_of h.1
    obtain ⟨b, hb, rfl⟩ := nat_of h.2
    exact ⟨_, rfl, .c7 a b ha hb⟩
  · rename_i a e
    cases e
    obtain ⟨a, ha, rfl⟩ := nat_of h
    exact ⟨_, rfl, .c8 a ha⟩
  · rename_i a e
    cases e
    obtain ⟨a, ha, rfl⟩ := nat_of h
    exact ⟨_, rfl, .c9 a ha⟩
  · rename_i a e
    cases e
    obtain ⟨a, ha, rfl⟩ := nat_of h
    exact ⟨_, rfl, .c10 a ha⟩
  · rename_i a e
    cases e
    obtain ⟨a, ha, rfl⟩ := nat_of h
    exact ⟨_, rfl, .c11 a ha⟩
  · rename_i a e
    cases e
    obtain ⟨a, ha, rfl⟩ := nat_of h
    exact ⟨_, rfl, .c12 a ha⟩
  · rename_i a e
    cases e
    obtain ⟨a, ha, rfl⟩ := nat_of h
    exact ⟨_, rfl, .c13 a ha⟩
  · rename_i a b e
    cases e
    rw [Bool.and_eq_true] at h
    obtain ⟨a, ha, rfl⟩ := nat_of h.1
    obtain ⟨b, hb, rfl⟩ := nat_of h.2
    exact ⟨_, rfl, .c14 a b ha hb⟩
  · rename_i a b e
    cases e
    rw [Bool.and_eq_true] at h
    obtain ⟨a, ha, rfl⟩ := nat_of h.1
    obtain ⟨b, hb, rfl⟩ := nat_of h.2
    exact ⟨_, rfl, .c15 a b ha hb⟩
  · rename_i a b l e
    cases e
    rw [Bool.and_eq_true, Bool.and_eq_true, Bool.and_eq_true] at h
    obtain ⟨a, ha, rfl⟩ := nat_of h.1
    obtain ⟨b, hb, rfl⟩ := nat_of h.2.1
    obtain ⟨ks, rfl, ek⟩ := nats_of h.2.2.1
    exact ⟨_, rfl, by rw [ek]; exact .c16 a b ks ha hb (by have := of_decide_eq_true h.2.2.2; rw [List.length_map] at this; exact this)⟩
  · rename_i a b c e
    cases e
    rw [Bool.and_eq_true, Bool.and_eq_true] at h
    obtain ⟨a, ha, rfl⟩ := nat_of h.1
    obtain ⟨b, hb, rfl⟩ := nat_of h.2.1
    obtain ⟨c, hc, rfl⟩ := nat_of h.2.2
    exact ⟨_, rfl, .c17 a b c ha hb hc⟩
  · rename_i a e
    cases e
    obtain ⟨a, ha, rfl⟩ := nat_of h
    exact ⟨_, rfl, .c18 a ha⟩
  · rename_i a e
    cases e
    obtain ⟨a, ha, rfl⟩ := nat_of h
    exact ⟨_, rfl, .c19 a ha⟩
  · cases h
theorem neutral_step {st : Kp355.State} {p : Int} {ns : List Int} {x : Kp355.Call} (h : Kp355Neutral.callOf [p :: ns] = some x) : Kp355Neutral.step st [p :: ns] = ((Kp355.step st x).1, (Kp355.step st x).2.num :: (Kp355.step st x).2.nums) := by
  unfold Kp355Neutral.step
  rw [h]
theorem Asked.few {p : Int} {ns : List Int} {x : Kp355.Call} (h : Asked p ns x) : ns.length ≤ 12 := by
  cases h <;> simp <;> omega
/-- what is due before a begin that is answered 0 -/
theorem step_none {x : Kp355.Call} (h : ∀ q, x ≠ .begin_ q) : Kp355.step none x = (none, Kp355.say (-11)) := by
  cases x <;> first | rfl | exact absurd rfl (h _)

/-! ### a line of calls -/
theorem asked_len {c : List (List Int)} (h : Kp355Neutral.asked1 c = true) : c.length = 1 := by
  unfold Kp355Neutral.asked1 at h
  split at h <;> first | rfl | cases h
theorem calls_one {f : Nat} {p : Int} {r : List Int} {cs : List (List (List Int))} (h : PyWide.calls (f + 1) (p :: r) = some cs) (ask : cs.all Kp355Neutral.asked1 = true) :
    ∃ (ns u : List Int) (cs' : List (List (List Int))), r = (ns.length : Int) :: (ns ++ 0 :: u) ∧ cs = [p :: ns] :: cs' ∧ PyWide.calls f u = some cs' ∧ Kp355Neutral.asked1 [p :: ns] = true ∧ cs'.all Kp355Neutral.asked1 = true := by
  unfold PyWide.calls at h
  split at h
  · cases h
  · rename_i c t hc
    split at h
    · cases h
    · rename_i cs' hcs
      cases h
      rw [List.all_cons, Bool.and_eq_true] at ask
      cases r with
      | nil => cases hc
      | cons n r =>
        have key : ∀ x, PyFlat.row (n :: r) = x → PyWide.call (p :: n :: r) = (match x with
          | none => none
          | some (_, []) => none
          | some (ns, k :: t) => if 0 ≤ k then (match PyFlat.rows k.toNat t with
            | none => none
            | some (xs, u) => some ((p :: ns) :: xs, u)) else none) := by
          rintro _ rfl; rfl
        by_cases c0 : 0 ≤ n ∧ n.toNat ≤ r.length
        · rw [key (some (r.take n.toNat, r.drop n.toNat)) (if_pos c0)] at hc
          cases e : r.drop n.toNat with
          | nil => rw [e] at hc; cases hc
          | cons k u =>
            rw [e] at hc
            dsimp only at hc
            by_cases ck : 0 ≤ k
            · rw [if_pos ck] at hc
              cases er : PyFlat.rows k.toNat u with
              | none => rw [er] at hc; cases hc
              | some xu =>
                obtain ⟨xs, u2⟩ := xu
                rw [er] at hc
                cases hc
                -- one list of numbers alone
                have hx : xs = [] := by
                  cases xs with
                  | nil => rfl
                  | cons y ys =>
                    have g := asked_len ask.1
                    simp at g
                subst hx
                have k0 : k = 0 := by
                  cases ek : k.toNat with
                  | zero => omega
                  | succ m =>
                    rw [ek] at er
                    unfold PyFlat.rows at er
                    split at er
                    · cases er
                    · split at er <;> cases er
                subst k0
                have eu : u = t := by
                  have z : PyFlat.rows 0 u = some ([], t) := er
                  unfold PyFlat.rows at z
                  cases z; rfl
                rw [← eu] at hcs
                refine ⟨r.take n.toNat, u, cs', ?_, rfl, hcs, ask.1, ask.2⟩
                rw [← e, List.take_append_drop, List.length_take, Nat.min_eq_left c0.2]
                congr 1; omega
            · rw [if_neg ck] at hc; cases hc
        · rw [key none (if_neg c0)] at hc; cases hc
theorem calls_nil (f : Nat) : PyWide.calls f [] = some [] := by cases f <;> rfl

/-! ### the tables of code objects -/
def FreshT (H : Hp) (b : Addr) : Prop := ∀ o, H b = some o → ∃ ps, o = HO.tbl ps
def FrameT (ft ft' : List Addr) (H H' : Hp) : Prop := (∀ b o, H b = some o → b ∉ ft → (∀ ps, o ≠ HO.tbl ps) → H' b = some o) ∧ ∀ b ∈ ft', b ∈ ft ∨ FreshT H b
/-- the state is changed so, a new list answers, the tables may have grown -/
def MakesT (TT : List (Addr × Str)) (CS CV : Addr) (H : Hp) (a : Addr) (ft : List Addr) (r : R) (Q : VK) : Prop := ∀ (H' : Hp) (p : Addr) (ft' : List Addr), StA CS CV H' a r.n r.vs r.zs ft' → FrameT ft ft' H H' → FreshT H p → p ∉ ft' → H' p = some (.lst (aV r.ans)) → Tabs TT H' → Q (.ref p) H'
theorem StA.plain {CS CV : Addr} {H : Hp} {a : Addr} {n : Nat} {vs : List View} {zs : List Nat} {ft : List Addr} (h : StA CS CV H a n vs zs ft) {b : Addr} (hb : b ∈ ft) : ∃ o, H b = some o ∧ (∀ ps, o ≠ HO.tbl ps) ∧ ∀ phi, o ≠ HO.ext phi := by
  obtain ⟨dx, l, ps, ts, S, rfl⟩ := h
  rcases List.mem_cons.mp hb with q | q
  · exact ⟨_, by rw [q]; exact S.sa, (fun _ z => by cases z), (fun _ z => by cases z)⟩
  · rcases List.mem_cons.mp q with q | q
    · exact ⟨_, by rw [q]; exact S.sl, (fun _ z => by cases z), (fun _ z => by cases z)⟩
    · rcases List.mem_append.mp q with q | q
      · obtain ⟨i, hi, e⟩ := List.getElem_of_mem q
        obtain ⟨v, t, z, _, _, _, ⟨dx, h4⟩, _⟩ := S.V.byP (i := i) (p := b) (by rw [List.getElem?_eq_getElem hi, e])
        exact ⟨_, h4, (fun _ z => by cases z), (fun _ z => by cases z)⟩
      · obtain ⟨i, hi, e⟩ := List.getElem_of_mem q
        have hi' : i < vs.length := by rw [← S.V.tl]; exact hi
        obtain ⟨p', t, z, h1, h2, h3, h4⟩ := S.V.at_ i vs[i] (List.getElem?_eq_getElem hi')
        rw [List.getElem?_eq_getElem hi, e] at h2
        cases h2
        exact ⟨_, h4.2, (fun _ z => by cases z), (fun _ z => by cases z)⟩
theorem tabs_frame {TT : List (Addr × Str)} {CS CV : Addr} {H H' : Hp} {a : Addr} {n : Nat} {vs : List View} {zs : List Nat} {ft ft' : List Addr} (h : StA CS CV H a n vs zs ft) (t : Tabs TT H) (f : Frame ft ft' H H') : Tabs TT H' := fun p hp => by
  obtain ⟨ps, h1, h2, h3⟩ := t p hp
  have out : ∀ b o, H b = some o → ((∃ ps, o = HO.tbl ps) ∨ ∃ phi, o = HO.ext phi) → H' b = some o := fun b o e k => f.1 b o e fun hb => by
    obtain ⟨o', e', n1, n2⟩ := h.plain hb
    rw [e] at e'
    cases e'
    rcases k with ⟨ps, k⟩ | ⟨phi, k⟩
    · exact n1 _ k
    · exact n2 _ k
  refine ⟨ps, out _ _ h1 (.inl ⟨_, rfl⟩), h2, fun pos cv hc => ?_⟩
  obtain ⟨cd, e1, e2⟩ := h3 pos cv hc
  exact ⟨cd, e1, out _ _ e2 (.inr ⟨_, rfl⟩)⟩
/-- a call that makes no lambda -/
theorem MakesT.makes {TT : List (Addr × Str)} {CS CV : Addr} {H : Hp} {a : Addr} {n : Nat} {vs : List View} {zs : List Nat} {ft : List Addr} {r : R} {Q : VK} (h : StA CS CV H a n vs zs ft) (t : Tabs TT H) (m : MakesT TT CS CV H a ft r Q) : Makes CS CV H a ft r Q :=
  fun H' p ft' S f hp np e => m H' p ft' S ⟨fun b o e n _ => f.1 b o e n, fun b hb => (f.2 b hb).imp id fun z o e => by rw [z] at e; cases e⟩ (fun o e => by rw [hp] at e; cases e) np e (tabs_frame h t f)
theorem StA.ext {CS CV : Addr} {H H' : Hp} {a : Addr} {n : Nat} {vs : List View} {zs : List Nat} {ft : List Addr} (h : StA CS CV H a n vs zs ft) (s : ExtN H H') : StA CS CV H' a n vs zs ft := by
  have pl := fun b hb => StA.plain h (b := b) hb
  obtain ⟨dx, l, ps, ts, S, rfl⟩ := h
  refine ⟨dx, l, ps, ts, S.move fun b o e hb => ?_, rfl⟩
  obtain ⟨o', e', n1, _⟩ := pl b hb
  rw [e] at e'
  cases e'
  exact s b o e n1
/-- .. that asks alone -/
theorem MakesT.asked {TT : List (Addr × Str)} {CS CV : Addr} {H : Hp} {a : Addr} {n : Nat} {vs : List View} {zs : List Nat} {ft : List Addr} {ans : List Int} {Q : VK} (h : StA CS CV H a n vs zs ft) (m : MakesT TT CS CV H a ft ⟨n, vs, zs, ans⟩ Q) {H1 : Hp} (s : ExtN H H1) (t : Tabs TT H1) {p : Addr} (hp : H1 p = none) {xs : List V} (e : xs = aV ans) : Q (.ref p) (upd H1 p (.lst xs)) := by
  subst e
  have s1 : Same H1 (upd H1 p (.lst (aV ans))) := same_new (Same.refl H1) hp
  have fr : FreshT H p := fun o e => by
    by_cases c : ∃ ps, o = HO.tbl ps
    · exact c
    · have := s p o e (fun ps z => c ⟨ps, z⟩)
      rw [hp] at this; cases this
  have h1 := h.ext s
  refine m _ p ft (h1.same s1) ⟨fun b o e _ nt => s1 _ _ (s b o e nt), fun b hb => .inl hb⟩ fr (fun q => ?_) upd_same (t.ext s1)
  obtain ⟨o, ho⟩ := h1.tracked q
  rw [hp] at ho
  cases ho
end Dv
end
section
set_option Elab.async false
set_option maxRecDepth 100000
set_option maxHeartbeats 4000000
set_option exponentiation.threshold 2000
namespace Dv
open PySem PySem.Spec PyProof.Rows L2 LamX NdefX MinK
open Kp351 (setOf View total)

/-- a list that is handed in -/
def CaL (K : PySem.W.Frag) (H : Hp) (c : Addr) (xs : List V) : Prop := (∃ o, H c = some (.frz o (.lst xs))) ∨ ∀ H' : Hp, SqL K H' c xs
theorem CaL.seq {K : PySem.W.Frag} {H : Hp} {c : Addr} {xs : List V} (h : CaL K H c xs) : SqL K H c xs := by
  rcases h with ⟨o, e⟩ | h
  · exact .inl (.inr ⟨o, e⟩)
  · exact h H
theorem CaL.same {K : PySem.W.Frag} {H H' : Hp} {c : Addr} {xs : List V} (h : CaL K H c xs) (s : Same H H') : CaL K H' c xs := h.imp (fun ⟨o, e⟩ => ⟨o, s _ _ e⟩) id
theorem StA.kind {CS CV : Addr} {H : Hp} {a : Addr} {n : Nat} {vs : List View} {zs : List Nat} {ft : List Addr} (h : StA CS CV H a n vs zs ft) {b : Addr} (hb : b ∈ ft) : ∃ o, H b = some o ∧ ∀ x y, o ≠ HO.frz x y := by
  obtain ⟨dx, l, ps, ts, S, rfl⟩ := h
  rcases List.mem_cons.mp hb with q | q
  · exact ⟨_, by rw [q]; exact S.sa, (fun _ _ z => by cases z)⟩
  · rcases List.mem_cons.mp q with q | q
    · exact ⟨_, by rw [q]; exact S.sl, (fun _ _ z => by cases z)⟩
    · rcases List.mem_append.mp q with q | q
      · obtain ⟨i, hi, e⟩ := List.getElem_of_mem q
        obtain ⟨v, t, z, _, _, _, ⟨dx, h4⟩, _⟩ := S.V.byP (i := i) (p := b) (by rw [List.getElem?_eq_getElem hi, e])
        exact ⟨_, h4, (fun _ _ z => by cases z)⟩
      · obtain ⟨i, hi, e⟩ := List.getElem_of_mem q
        have hi' : i < vs.length := by rw [← S.V.tl]; exact hi
        obtain ⟨p', t, z, h1, h2, h3, h4⟩ := S.V.at_ i vs[i] (List.getElem?_eq_getElem hi')
        rw [List.getElem?_eq_getElem hi, e] at h2
        cases h2
        exact ⟨_, h4.2, (fun _ _ z => by cases z)⟩
theorem CaL.frame {K : PySem.W.Frag} {CS CV : Addr} {H H' : Hp} {a : Addr} {n : Nat} {vs : List View} {zs : List Nat} {ft ft' : List Addr} {c : Addr} {xs : List V} (h : CaL K H c xs) (S : StA CS CV H a n vs zs ft) (f : FrameT ft ft' H H') : CaL K H' c xs := by
  rcases h with ⟨o, e⟩ | h
  · refine .inl ⟨o, f.1 c _ e (fun hb => ?_) (fun ps z => by cases z)⟩
    obtain ⟨u, e2, ne⟩ := S.kind hb
    rw [e] at e2
    cases e2
    exact ne _ _ rfl
  · exact .inr h
/-- one call: what is due is made of the state, and answered -/
def spCallOn (TT : List (Addr × Str)) (CS CV : Addr) (Pl : Int → Nat → Prop) : Sp := fun us H Q _ => ∃ (a : Addr) (p : Int) (q : Addr) (st : Kp355.State) (n : Nat) (vs : List View) (zs : List Nat) (ft : List Addr) (ns : List Int) (x : Kp355.Call), us = [.ref a, .int p, .ref q] ∧ Pl p n ∧ H q = some (.lst (aV ns)) ∧ StA CS CV H a n vs zs ft ∧ q ∉ ft ∧ Asked p ns x ∧ Ab st n vs zs ∧ Tabs TT H ∧
  ∀ r, Goes (Kp355.step st x) r → MakesT TT CS CV H a ft r Q
def spAnswers (TT : List (Addr × Str)) (K : PySem.W.Frag) : Sp := fun us H Q _ => ∃ (c : Addr) (ls : List Int), us = [.ref c] ∧ CaL K H c (aV ls) ∧ PyKp355.answers_asked ls = true ∧ ls.length ≤ 1000 ∧ Tabs TT H ∧
  ∀ (H' : Hp) (p : Addr), H' p = some (.lst (aV (PyKp355.answers ls))) → Q (.ref p) H'
theorem big {n : Nat} (h : n ≤ 10000000) : n < sizeLine := Nat.lt_of_le_of_lt h (by decide)
theorem aV_app (l m : List Int) : aV (l ++ m) = aV l ++ aV m := by unfold aV; rw [List.map_append]

theorem StA.wr {CS CV : Addr} {H : Hp} {a : Addr} {n : Nat} {vs : List View} {zs : List Nat} {ft : List Addr} (h : StA CS CV H a n vs zs ft) {g : Addr} (ng : g ∉ ft) (o : HO) : StA CS CV (upd H g o) a n vs zs ft := by
  obtain ⟨dx, l, ps, ts, S, rfl⟩ := h
  exact ⟨dx, l, ps, ts, S.move fun b o e hb => by rw [upd_ne (fun q => ng (by rw [← q]; exact hb))]; exact e, rfl⟩
theorem tabs_wr {TT : List (Addr × Str)} {H : Hp} {g : Addr} {xs ys : List V} (t : Tabs TT H) (hg : H g = some (.lst xs)) : Tabs TT (upd H g (.lst ys)) := fun p hp => by
  obtain ⟨ps, h1, h2, h3⟩ := t p hp
  refine ⟨ps, by rw [upd_ne (ne_of h1 hg (by intro z; cases z))]; exact h1, h2, fun pos cv hc => ?_⟩
  obtain ⟨cd, e1, e2⟩ := h3 pos cv hc
  exact ⟨cd, e1, by rw [upd_ne (ne_of e2 hg (by intro z; cases z))]; exact e2⟩
theorem CaL.wr {K : PySem.W.Frag} {H : Hp} {c g : Addr} {xs ys zs : List V} (h : CaL K H c xs) (hg : H g = some (.lst ys)) : CaL K (upd H g (.lst zs)) c xs := by
  rcases h with ⟨o, e⟩ | h
  · exact .inl ⟨o, by rw [upd_ne (ne_of e hg (by intro z; cases z))]; exact e⟩
  · exact .inr h
theorem told_cons (a : List Int) (l : List (List Int)) : PyFlat.told (a :: l) = ((a.length : Int) :: a) ++ PyFlat.told l := by
  unfold PyFlat.told
  rw [List.flatMap_cons]

section
variable {P : Program} {w : World} {K : PySem.W.Frag} {mg : Str → Option Value} {base : Heap} {CS CV : Addr} {TT : List (Addr × Str)}
abbrev s_answers : Stmt := top 78
theorem sc_answers : FnScope ["calls", "state", "given", "at", "behind", "answer"] ["calls"] (defScope s_answers) := ⟨rfl, rfl, rfl, by decide +kernel, rfl, by decide +kernel, by decide +kernel⟩
theorem ok_answers {f f1 f2 : Addr} {fd fd1 fd2 : FuncData} (F : Fun K "answers" "answers" s_answers f fd) (T : Txt K mg CS CV) (M_State : Mak P w K mg base "State" 1 ["self"] (spStateInit CS) CS f1 fd1)
    (c_answer_call : Cal P w K mg base "answer_call" 13 ["state", "call", "numbers"] (spCallOn TT CS CV fun _ _ => True) f2 fd2) : FnOk P w K mg base CX0 14 f fd ["calls"] (spAnswers TT K) := by
  refine F.ok sc_answers (fun vs H Q E h => ?_) (fun cdv A outer s H vs Q E hr h => ?_)
  · obtain ⟨c, ls, rfl, _⟩ := h; rfl
  obtain ⟨c, ls, rfl, hc, ask, l1000, hT, k⟩ := h
  refine ⟨_, (pss_cons (ps_set (i := 1) sc_answers.nd rfl (Or.inl rfl) (pe_make0 M_State.made M_State.ok (hr.mono (by decide)) rfl M_State.mg M_State.b .nil pass0))
        (pss_cons (ps_set (i := 2) sc_answers.nd rfl (Or.inl rfl) (pe_lst pa_nil))
        (pss_cons (ps_set (i := 3) sc_answers.nd rfl (Or.inl rfl) pe_int)
        (pss_cons (ps_while PassesOwn.never (pt_cmpR op_lt (pv 3) (pe_callB call_len_seq (by rfl) T.len (by decide +kernel) (pa_cons (pv 0) pa_nil)) (nomark _)) (pss_cons (ps_set (i := 4) sc_answers.nd rfl (Or.inl rfl) (pe_op op_add (pe_op op_add (pv 3) pe_int) (pe_ix (r := rIxL K) ix_list (pv 0) (pe_op op_add (pv 3) pe_int) (fun _ _ => rfl))))
          (pss_cons (ps_set (i := 5) sc_answers.nd rfl (Or.inl rfl) (pe_call c_answer_call.ok (hr.mono (by decide)) rfl c_answer_call.mg c_answer_call.kp c_answer_call.b .nil pass0 (pa_cons (pv 1) (pa_cons (pe_ix (r := rIxL K) ix_list (pv 0) (pv 3) (fun _ _ => rfl)) (pa_cons (pe_slice sl_list (pv 0) (po_some (pe_op op_add (pv 3) pe_int)) (po_some (pv 4))) pa_nil)))))
          (pss_cons (ps_expr (pe_bm PySem.F.plainAttrs_list PySem.F.slot_list_append PySem.F.type_list_append mt_append (pv 2) (pa_cons (pe_callB call_len_seq (by rfl) T.len (by decide +kernel) (pa_cons (pv 5) pa_nil)) pa_nil)))
          (pss_cons (ps_expr (pe_bm PySem.F.plainAttrs_list PySem.F.slot_list_extend PySem.F.type_list_extend mt_extend (pv 2) (pa_cons (pv 5) pa_nil)))
          (pss_one (ps_set (i := 3) sc_answers.nd rfl (Or.inl rfl) (pe_op op_add (pv 4) pe_int))))))))
        (pss_one (ps_ret (pv 2))))))), ?_⟩
  -- what is asked
  obtain ⟨cs0, e0, as0, sh0⟩ : ∃ cs, PyWide.calls ls.length ls = some cs ∧ cs.all Kp355Neutral.asked1 = true ∧ (PyKp355.answers ls).length ≤ 10000000 := by
    unfold PyKp355.answers_asked PyKp355.calls at ask
    cases e : PyWide.calls ls.length ls with
    | none => rw [e] at ask; cases ask
    | some cs =>
      rw [e] at ask
      simp only [Bool.and_eq_true] at ask
      have a1 := ask.1.2
      unfold Kp355Neutral.asked at a1
      simp only [Bool.and_eq_true] at a1
      exact ⟨cs, rfl, a1.2.2, of_decide_eq_true ask.2⟩
  have ans0 : PyKp355.answers ls = PyFlat.told (PyFlat.played Kp355Neutral.step Kp355Neutral.start cs0) := by
    unfold PyKp355.answers PyKp355.calls
    rw [e0]
  -- state = State()
  intro x dx nx ndx nex
  refine ⟨x, dx, rfl, upd_same, fun H1 l nl hx hl kp => ⟨rfl, ?_⟩⟩
  have s1 : Same H H1 := Same.made nx ndx kp
  have nlx : l ≠ x := fun g => by rw [g, upd_same] at nl; cases nl
  have SA1 : StA CS CV H1 x 0 [] [] (foot x l [] []) := ⟨dx, l, [], [], ⟨hx, hl, by simp, ⟨rfl, rfl, rfl, List.nodup_nil, List.nodup_nil, fun i v e => by simp at e⟩⟩, rfl⟩
  -- given = [], at = 0
  refine ⟨Nat.zero_le _, fun g hg => ?_⟩
  have s2 : Same H1 (upd H1 g (.lst [])) := same_new (Same.refl H1) hg
  have s12 := s1.trans s2
  refine ⟨fun m σ H' => ∃ (i : Nat) (st : Kp355.State) (n : Nat) (vs : List View) (zs : List Nat) (ft : List Addr) (fu : Nat) (cs : List (List (List Int))) (giv : List Int) (u4 u5 : Option V), m = ls.length - i ∧ σ = [some (.ref c), some (.ref x), some (.ref g), some (.int (i : Int)), u4, u5] ∧ StA CS CV H' x n vs zs ft ∧ Ab st n vs zs ∧ Tabs TT H' ∧ H' g = some (.lst (aV giv)) ∧ g ∉ ft ∧ CaL K H' c (aV ls) ∧ i ≤ ls.length ∧ PyWide.calls fu (ls.drop i) = some cs ∧ cs.all Kp355Neutral.asked1 = true ∧ PyKp355.answers ls = giv ++ PyFlat.told (PyFlat.played Kp355Neutral.step st cs),
    ⟨ls.length, 0, none, 0, [], [], _, ls.length, cs0, [], none, none, rfl, rfl, SA1.same s2, .inl ⟨rfl, rfl, rfl, rfl⟩, hT.ext s12, upd_same, fun hb => ?_, hc.same s12, Nat.zero_le _, e0, as0, ans0⟩, ?_⟩
  · obtain ⟨o, ho⟩ := SA1.tracked hb
    rw [hg] at ho; cases ho
  rintro m σ H2 ⟨i, st, n, vs, zs, ft, fu, cs, giv, u4, u5, rfl, rfl, SA, AB, T2, hg2, ng, hc2, il, ec, as, an⟩
  have lenc : (aV ls).length = ls.length := aV_len ls
  refine ⟨_, rfl, _, rfl, c, _, rfl, .inl hc2.seq, _, _, rfl, rfl, _, rfl, ?_⟩
  refine ite2 (fun cc => ?_) (fun cc => ?_)
  · have hi : i < ls.length := by have := of_decide_eq_true cc; rw [lenc] at this; omega
    obtain ⟨p, r, edr⟩ : ∃ p r, ls.drop i = p :: r := ⟨ls[i], ls.drop (i + 1), by rw [List.drop_eq_getElem_cons hi]⟩
    rw [edr] at ec
    obtain ⟨fu', rfl⟩ : ∃ f, fu = f + 1 := by
      cases fu with
      | zero => cases ec
      | succ f => exact ⟨f, rfl⟩
    obtain ⟨ns, u, cs', er, ecs, ec', a1, as'⟩ := calls_one ec as
    obtain ⟨x', ex', AS⟩ := asked_of a1
    have few := AS.few
    rw [er] at edr
    have at_ : ∀ j, ls[i + j]? = (p :: (ns.length : Int) :: (ns ++ 0 :: u))[j]? := fun j => by rw [← edr, List.getElem?_drop]
    have g0 : ls[i]? = some p := at_ 0
    have g1 : ls[i + 1]? = some (ns.length : Int) := at_ 1
    have dl : ls.length = i + (ns.length + 3 + u.length) := by
      have := congrArg List.length edr
      rw [List.length_drop] at this
      simp at this
      omega
    have d2 : ls.drop (i + 2) = ns ++ 0 :: u := by
      rw [← List.drop_drop, edr]; rfl
    have d3 : ls.drop (i + 2 + ns.length + 1) = u := by
      rw [show i + 2 + ns.length + 1 = (i + 2) + (ns.length + 1) by omega, ← List.drop_drop, d2, ← List.drop_drop, List.drop_left]
      rfl
    have atv : ∀ {j : Nat} {z : Int}, ls[j]? = some z → atI (aV ls) (j : Int) = some (V.int z) := fun {j z} e => atI_nat (by unfold aV; rw [List.getElem?_map, e]; rfl)
    refine ⟨fun σ' H' => ∃ (st' : Kp355.State) (n' : Nat) (vs' : List View) (zs' : List Nat) (ft' : List Addr) (giv' : List Int) (u4 u5 : Option V), σ' = [some (.ref c), some (.ref x), some (.ref g), some (.int ((i + 2 + ns.length + 1 : Nat) : Int)), u4, u5] ∧ StA CS CV H' x n' vs' zs' ft' ∧ Ab st' n' vs' zs' ∧ Tabs TT H' ∧ H' g = some (.lst (aV giv')) ∧ g ∉ ft' ∧ CaL K H' c (aV ls) ∧ PyKp355.answers ls = giv' ++ PyFlat.told (PyFlat.played Kp355Neutral.step st' cs'),
      fun σ' H' ⟨st', n', vs', zs', ft', giv', w4, w5, h1, h2, h3, h4, h5, h6, h7, h8⟩ => ⟨_, by omega, i + 2 + ns.length + 1, st', n', vs', zs', ft', fu', cs', giv', w4, w5, rfl, h1, h2, h3, h4, h5, h6, h7, by omega, by rw [d3]; exact ec', as', h8⟩, ?_⟩
    -- behind = at + 2 + calls[at + 1]
    refine ⟨_, rfl, _, _, rfl, rfl, _, rfl, _, rfl, _, _, rfl, rfl, c, _, _, _, rfl, rfl, hc2.seq, by rw [show (i : Int) + 1 = ((i + 1 : Nat) : Int) by omega]; exact atv g1, _, _, rfl, rfl, ?_⟩
    -- answer = answer_call(state, calls[at], calls[at + 2:behind])
    refine ⟨_, rfl, _, rfl, _, rfl, c, _, _, _, rfl, rfl, hc2.seq, atv g0, _, rfl, _, rfl, _, _, rfl, rfl, _, rfl, _, rfl, _, rfl, c, _, rfl, hc2.seq, fun q hq => ?_⟩
    have ecut : cutV (aV ls) (some ((i : Int) + 2)) (some ((i : Int) + 2 + (ns.length : Int))) = aV ns := by
      unfold cutV
      rw [show (i : Int) + 2 = ((i + 2 : Nat) : Int) by omega, show ((i + 2 : Nat) : Int) + (ns.length : Int) = ((i + 2 + ns.length : Nat) : Int) by omega, HT.sIx_nat, HT.sIx_nat, lenc, Nat.min_eq_left (by omega), Nat.min_eq_left (by omega)]
      unfold aV
      rw [← List.map_drop, d2, ← List.map_take, show i + 2 + ns.length - (i + 2) = ns.length by omega, List.take_left]
    rw [ecut]
    have sq : Same H2 (upd H2 q (.lst (aV ns))) := same_new (Same.refl H2) hq
    have nq : q ∉ ft := fun hb => by
      obtain ⟨o, ho⟩ := SA.tracked hb
      rw [hq] at ho; cases ho
    refine ⟨x, p, q, st, n, vs, zs, ft, ns, x', rfl, trivial, upd_same, SA.same sq, nq, AS, AB, T2.ext sq, fun r G H3 pa ft' S3 F3 fp np e3 T3 => ?_⟩
    have hgq := sq _ _ hg2
    have hg3 : H3 g = some (.lst (aV giv)) := F3.1 g _ hgq ng (fun ps z => by cases z)
    have ng3 : g ∉ ft' := fun hb => by
      rcases F3.2 g hb with z | z
      · exact ng z
      · obtain ⟨ps, z⟩ := z _ hgq
        cases z
    have npg : pa ≠ g := fun z => by
      obtain ⟨ps, z⟩ := fp (.lst (aV giv)) (by rw [z]; exact hgq)
      cases z
    have hc3 : CaL K H3 c (aV ls) := (hc2.same sq).frame (SA.same sq) F3
    have ns2 := neutral_step (st := st) ex'
    have ransEq : r.ans = (Kp355Neutral.step st [p :: ns]).2 := by rw [ns2]; exact G.1.symm
    have an3 : PyKp355.answers ls = (giv ++ [(r.ans.length : Int)] ++ r.ans) ++ PyFlat.told (PyFlat.played Kp355Neutral.step (Kp355Neutral.step st [p :: ns]).1 cs') := by
      rw [an, ecs, ransEq]
      show giv ++ PyFlat.told ((Kp355Neutral.step st [p :: ns]).2 :: PyFlat.played Kp355Neutral.step (Kp355Neutral.step st [p :: ns]).1 cs') = _
      rw [told_cons]
      simp
    have lens : giv.length + 1 + r.ans.length ≤ 10000000 := by
      have := congrArg List.length an3
      rw [List.length_append, List.length_append, List.length_append] at this
      simp at this
      omega
    -- given.append(len(answer))
    refine ⟨_, rfl, .inl ⟨rfl, _, SqL.of hg3⟩, _, rfl, pa, _, rfl, .inl (SqL.of e3), g, _, _, rfl, rfl, hg3, by rw [aV_len]; exact big (by omega), ?_⟩
    -- given.extend(answer)
    refine ⟨_, rfl, .inl ⟨rfl, _, SqL.of upd_same⟩, _, rfl, g, pa, _, _, rfl, rfl, upd_same, (upd_ne npg).trans e3, by rw [List.length_append, aV_len, aV_len]; exact Nat.le_of_lt (big (by simpa using lens)), ?_⟩
    -- at = behind + 1
    refine ⟨_, rfl, _, _, rfl, rfl, ?_⟩
    refine ⟨(Kp355Neutral.step st [p :: ns]).1, r.n, r.vs, r.zs, ft', giv ++ [(r.ans.length : Int)] ++ r.ans, some (.int ((i : Int) + 2 + (ns.length : Int))), some (.ref pa), ?_, (S3.wr ng3 _).wr ng3 _, ?_, tabs_wr (tabs_wr T3 hg3) upd_same, ?_, ng3, (hc3.wr hg3).wr upd_same, an3⟩
    · have ei : ((i + 2 + ns.length + 1 : Nat) : Int) = (i : Int) + 2 + (ns.length : Int) + 1 := by omega
      rw [ei]; rfl
    · rw [ns2]; exact G.2
    · rw [upd_same, aV_app, aV_app, aV_len]; rfl
  · have hi : i = ls.length := by
      have : ¬ ((i : Int) < ((aV ls).length : Nat)) := fun g => cc (decide_eq_true g)
      rw [lenc] at this; omega
    refine ⟨_, rfl, ?_⟩
    rw [hi, List.drop_length] at ec
    rw [calls_nil] at ec
    cases ec
    have an' : PyKp355.answers ls = giv := an.trans (List.append_nil giv)
    exact k H2 g (by rw [an']; exact hg2)
end
end Dv
end
section
set_option Elab.async false
set_option maxRecDepth 100000
set_option maxHeartbeats 4000000
set_option exponentiation.threshold 2000
namespace Dv
open PySem PySem.Spec PyProof.Rows L2 LamX NdefX MinK
open Kp351 (setOf View total)

def PlC (p : Int) (n : Nat) : Prop := 1 ≤ p ∧ p ≤ 6 ∧ n ≠ 0
def PlQ (p : Int) (n : Nat) : Prop := 7 ≤ p ∧ n ≠ 0
theorem int_eq {p q : Int} : decide (V.int p = V.int q) = true ↔ p = q := ⟨fun h => V.int.inj (of_decide_eq_true h), fun h => decide_eq_true (by rw [h])⟩
theorem aV0 {a : Int} {l : List Int} : atI (aV (a :: l)) 0 = some (V.int a) := atI_nat (j := 0) rfl
theorem aV1 {a b : Int} {l : List Int} : atI (aV (a :: b :: l)) 1 = some (V.int b) := atI_nat (j := 1) rfl
theorem aV2 {a b c : Int} {l : List Int} : atI (aV (a :: b :: c :: l)) 2 = some (V.int c) := atI_nat (j := 2) rfl

section
variable {P : Program} {w : World} {K : PySem.W.Frag} {mg : Str → Option Value} {base : Heap} {CS CV : Addr} {TT : List (Addr × Str)}
abbrev s_answer_call : Stmt := top 79
theorem sc_answer_call : FnScope ["state", "call", "numbers"] ["state", "call", "numbers"] (defScope s_answer_call) := ⟨rfl, rfl, rfl, by decide +kernel, rfl, by decide +kernel, by decide +kernel⟩
theorem ok_answer_call {f f1 f2 f3 : Addr} {fd fd1 fd2 fd3 : FuncData} (F : Fun K "answer_call" "answer_call" s_answer_call f fd) (T : Txt K mg CS CV) (c_begin : Cal P w K mg base "begin" 1 ["state", "questions"] (spC1 CS CV fBegin) f1 fd1)
    (c_answer_change : Cal P w K mg base "answer_change" 11 ["state", "call", "numbers"] (spCallOn TT CS CV PlC) f2 fd2) (c_answer_question : Cal P w K mg base "answer_question" 12 ["state", "call", "numbers"] (spCallOn TT CS CV PlQ) f3 fd3) :
    FnOk P w K mg base CX0 13 f fd ["state", "call", "numbers"] (spCallOn TT CS CV fun _ _ => True) := by
  refine F.ok sc_answer_call (fun vs H Q E h => ?_) (fun cdv A outer s H vs Q E hr h => ?_)
  · obtain ⟨a, p, q, st, n, vs, zs, ft, ns, x, rfl, _⟩ := h; rfl
  obtain ⟨a, p, q, st, n, vs, zs, ft, ns, x, rfl, _, hq, SA, nq, AS, AB, hT, k⟩ := h
  refine ⟨_, (pss_cons (ps_if (pt_cmpR op_eq (pv 1) pe_int (nomark _)) (pss_one (ps_ret (pe_call c_begin.ok (hr.mono (by decide)) rfl c_begin.mg c_begin.kp c_begin.b .nil pass0 (pa_cons (pv 0) (pa_cons (pe_ix (r := rIxL K) ix_list (pv 2) pe_int (fun _ _ => rfl)) pa_nil))))) pss_nil)
        (pss_cons (ps_if (pt_cmpR op_eq (pe_fld (pv 0) rfl) pe_int (nomark _)) (pss_one (ps_ret (pe_lst (pa_cons (pe_glob (v := .int (-11)) rfl T.g_NOT_BEGUN.choose_spec ⟨_, rfl⟩) pa_nil)))) pss_nil)
        (pss_cons (ps_if (pt_cmpR op_le (pv 1) pe_int (nomark _)) (pss_one (ps_ret (pe_call c_answer_change.ok (hr.mono (by decide)) rfl c_answer_change.mg c_answer_change.kp c_answer_change.b .nil pass0 (pa_cons (pv 0) (pa_cons (pv 1) (pa_cons (pv 2) pa_nil)))))) pss_nil)
        (pss_one (ps_ret (pe_call c_answer_question.ok (hr.mono (by decide)) rfl c_answer_question.mg c_answer_question.kp c_answer_question.b .nil pass0 (pa_cons (pv 0) (pa_cons (pv 1) (pa_cons (pv 2) pa_nil))))))))), ?_⟩
  refine ⟨_, rfl, rfl, _, rfl, ?_⟩
  refine ite2 (fun c => ?_) (fun c => ?_)
  · have e := int_eq.mp c
    subst e
    cases AS with
    | c0 b hb =>
      refine ⟨_, rfl, _, rfl, q, _, _, _, rfl, rfl, SqL.of hq, aV0, ?_⟩
      exact ⟨a, n, vs, zs, ft, b, rfl, SA, AB.w.toWf, hb, (k _ (goes_begin AB b)).makes SA hT⟩
  have p0 : p ≠ 0 := fun e => c (int_eq.mpr e)
  have nb : ∀ b, x ≠ .begin_ b := fun b e => by
    subst e
    cases AS
    exact p0 rfl
  obtain ⟨dx, l, ps, ts, S, eft⟩ := id SA
  refine ⟨_, rfl, a, CS, dx, _, _, rfl, S.sa, T.clS, T.sQ, rfl, rfl, _, rfl, ?_⟩
  refine ite2 (fun c2 => ?_) (fun c2 => ?_)
  · have n0 : n = 0 := by have := int_eq.mp c2; omega
    have sn := AB.none.mp n0
    subst sn
    have r := k ⟨n, vs, zs, [-11]⟩ ⟨by rw [step_none nb]; rfl, by rw [step_none nb]; exact AB⟩
    refine ⟨by show 1 ≤ sizeLine; decide, fun pa hpa => ?_⟩
    exact r.asked SA (ExtN.refl H) hT hpa rfl
  have n0 : n ≠ 0 := fun e => c2 (int_eq.mpr (by rw [e]; rfl))
  refine ⟨_, rfl, _, _, rfl, rfl, _, rfl, ?_⟩
  refine ite2 (fun c3 => ?_) (fun c3 => ?_)
  · have p6 := of_decide_eq_true c3
    have p1 : 1 ≤ p := by cases AS <;> omega
    exact ⟨_, rfl, _, rfl, _, rfl, a, p, q, st, n, vs, zs, ft, ns, x, rfl, ⟨p1, p6, n0⟩, hq, SA, nq, AS, AB, hT, k⟩
  · have p7 : 7 ≤ p := by
      have : ¬ p ≤ 6 := fun g => c3 (decide_eq_true g)
      omega
    exact ⟨_, rfl, _, rfl, _, rfl, a, p, q, st, n, vs, zs, ft, ns, x, rfl, ⟨p7, n0⟩, hq, SA, nq, AS, AB, hT, k⟩
abbrev s_answer_change : Stmt := top 80
theorem sc_answer_change : FnScope ["state", "call", "numbers"] ["state", "call", "numbers"] (defScope s_answer_change) := ⟨rfl, rfl, rfl, by decide +kernel, rfl, by decide +kernel, by decide +kernel⟩
theorem ok_answer_change {f f1 f2 f3 f4 f5 f6 : Addr} {fd fd1 fd2 fd3 fd4 fd5 fd6 : FuncData} (F : Fun K "answer_change" "answer_change" s_answer_change f fd) (T : Txt K mg CS CV)
    (c_add_view : Cal P w K mg base "add_view" 4 ["state", "asked"] (spC1 CS CV fAdd) f1 fd1) (c_drop_view : Cal P w K mg base "drop_view" 1 ["state", "place"] (spC1 CS CV fDrop) f2 fd2)
    (c_put_table : Cal P w K mg base "put_table" 2 ["state", "place", "row"] (spCT CS CV) f3 fd3) (c_tell_view : Cal P w K mg base "tell_view" 1 ["state", "place"] (spC1 CS CV fTell) f4 fd4)
    (c_see_world : Cal P w K mg base "see_world" 3 ["state", "world"] (spC1 CS CV fSee) f5 fd5) (c_put_trust : Cal P w K mg base "put_trust" 2 ["state", "place", "trust"] (spC2 CS CV fTrust) f6 fd6) :
    FnOk P w K mg base CX0 11 f fd ["state", "call", "numbers"] (spCallOn TT CS CV PlC) := by
  refine F.ok sc_answer_change (fun vs H Q E h => ?_) (fun cdv A outer s H vs Q E hr h => ?_)
  · obtain ⟨a, p, q, st, n, vs, zs, ft, ns, x, rfl, _⟩ := h; rfl
  obtain ⟨a, p, q, st, n, vs, zs, ft, ns, x, rfl, ⟨p1, p6, n0⟩, hq, SA, nq, AS, AB, hT, k⟩ := h
  refine ⟨_, (pss_cons (ps_if (pt_cmpR op_eq (pv 1) pe_int (nomark _)) (pss_one (ps_ret (pe_call c_add_view.ok (hr.mono (by decide)) rfl c_add_view.mg c_add_view.kp c_add_view.b .nil pass0 (pa_cons (pv 0) (pa_cons (pe_ix (r := rIxL K) ix_list (pv 2) pe_int (fun _ _ => rfl)) pa_nil))))) pss_nil)
        (pss_cons (ps_if (pt_cmpR op_eq (pv 1) pe_int (nomark _)) (pss_one (ps_ret (pe_call c_drop_view.ok (hr.mono (by decide)) rfl c_drop_view.mg c_drop_view.kp c_drop_view.b .nil pass0 (pa_cons (pv 0) (pa_cons (pe_ix (r := rIxL K) ix_list (pv 2) pe_int (fun _ _ => rfl)) pa_nil))))) pss_nil)
        (pss_cons (ps_if (pt_cmpR op_eq (pv 1) pe_int (nomark _)) (pss_one (ps_ret (pe_call c_put_table.ok (hr.mono (by decide)) rfl c_put_table.mg c_put_table.kp c_put_table.b .nil pass0 (pa_cons (pv 0) (pa_cons (pe_ix (r := rIxL K) ix_list (pv 2) pe_int (fun _ _ => rfl)) (pa_cons (pe_slice sl_list (pv 2) (po_some pe_int) po_none) pa_nil)))))) pss_nil)
        (pss_cons (ps_if (pt_cmpR op_eq (pv 1) pe_int (nomark _)) (pss_one (ps_ret (pe_call c_tell_view.ok (hr.mono (by decide)) rfl c_tell_view.mg c_tell_view.kp c_tell_view.b .nil pass0 (pa_cons (pv 0) (pa_cons (pe_ix (r := rIxL K) ix_list (pv 2) pe_int (fun _ _ => rfl)) pa_nil))))) pss_nil)
        (pss_cons (ps_if (pt_cmpR op_eq (pv 1) pe_int (nomark _)) (pss_one (ps_ret (pe_call c_see_world.ok (hr.mono (by decide)) rfl c_see_world.mg c_see_world.kp c_see_world.b .nil pass0 (pa_cons (pv 0) (pa_cons (pe_ix (r := rIxL K) ix_list (pv 2) pe_int (fun _ _ => rfl)) pa_nil))))) pss_nil)
        (pss_one (ps_ret (pe_call c_put_trust.ok (hr.mono (by decide)) rfl c_put_trust.mg c_put_trust.kp c_put_trust.b .nil pass0 (pa_cons (pv 0) (pa_cons (pe_ix (r := rIxL K) ix_list (pv 2) pe_int (fun _ _ => rfl)) (pa_cons (pe_ix (r := rIxL K) ix_list (pv 2) pe_int (fun _ _ => rfl)) pa_nil))))))))))), ?_⟩
  obtain ⟨rfl, n2, W⟩ := AB.some n0
  have Wf := W.toWf
  have no : ∀ {a b : Int}, a ≠ b → ¬ decide (V.int a = V.int b) = true := fun h g => h (int_eq.mp g)
  refine ⟨_, rfl, rfl, _, rfl, ?_⟩
  cases AS with
  | c1 b hb =>
    refine iteT ?_
    refine ⟨_, rfl, _, rfl, q, _, _, _, rfl, rfl, SqL.of hq, aV0, ?_⟩
    exact ⟨a, n, vs, zs, ft, b, rfl, SA, Wf, hb, (k _ (goes_view n2 W b)).makes SA hT⟩
  | c2 b hb =>
    refine iteF ?_
    refine ⟨_, rfl, rfl, _, rfl, iteT ?_⟩
    refine ⟨_, rfl, _, rfl, q, _, _, _, rfl, rfl, SqL.of hq, aV0, ?_⟩
    exact ⟨a, n, vs, zs, ft, b, rfl, SA, Wf, hb, (k _ (goes_unview n2 W b)).makes SA hT⟩
  | c3 b row hb hrow =>
    refine iteF ?_
    refine ⟨_, rfl, rfl, _, rfl, iteF ?_⟩
    refine ⟨_, rfl, rfl, _, rfl, iteT ?_⟩
    refine ⟨_, rfl, _, rfl, q, _, _, _, rfl, rfl, SqL.of hq, aV0, _, rfl, _, rfl, q, _, rfl, SqL.of hq, fun q2 hq2 => ?_⟩
    have ecut : cutV (aV ((b : Int) :: row.map fun (x : Nat) => (x : Int))) (some 1) none = nV row := by
      unfold cutV
      rw [show (1 : Int) = ((1 : Nat) : Int) by rfl, HT.sIx_nat, HT.sIx_none, nV_ints]
      unfold aV
      simp
      exact List.take_of_length_le (by simp)
    rw [ecut]
    have s2 : Same H (upd H q2 (.lst (nV row))) := same_new (Same.refl H) hq2
    have nq2 : q2 ∉ ft := fun hb => by
      obtain ⟨o, ho⟩ := SA.tracked hb
      rw [hq2] at ho; cases ho
    have m := (k _ (goes_table n2 W b row)).makes SA hT
    refine ⟨a, q2, n, vs, zs, ft, b, row, rfl, upd_same, SA.same s2, nq2, Wf, hb, by omega, ?_⟩
    intro H' pa ft' S' F' hpa npa epa
    refine m H' pa ft' S' ⟨fun b o e nb => F'.1 _ _ (s2 _ _ e) nb, fun b hb => (F'.2 b hb).imp id fun z => s2.free z⟩ (s2.free hpa) npa epa
  | c4 b hb =>
    refine iteF ?_
    refine ⟨_, rfl, rfl, _, rfl, iteF ?_⟩
    refine ⟨_, rfl, rfl, _, rfl, iteF ?_⟩
    refine ⟨_, rfl, rfl, _, rfl, iteT ?_⟩
    refine ⟨_, rfl, _, rfl, q, _, _, _, rfl, rfl, SqL.of hq, aV0, ?_⟩
    exact ⟨a, n, vs, zs, ft, b, rfl, SA, Wf, hb, (k _ (goes_viewis n2 W b)).makes SA hT⟩
  | c5 b hb =>
    refine iteF ?_
    refine ⟨_, rfl, rfl, _, rfl, iteF ?_⟩
    refine ⟨_, rfl, rfl, _, rfl, iteF ?_⟩
    refine ⟨_, rfl, rfl, _, rfl, iteF ?_⟩
    refine ⟨_, rfl, rfl, _, rfl, iteT ?_⟩
    refine ⟨_, rfl, _, rfl, q, _, _, _, rfl, rfl, SqL.of hq, aV0, ?_⟩
    exact ⟨a, n, vs, zs, ft, b, rfl, SA, Wf, hb, (k _ (goes_world n2 W b)).makes SA hT⟩
  | c6 b d hb hd =>
    refine iteF ?_
    refine ⟨_, rfl, rfl, _, rfl, iteF ?_⟩
    refine ⟨_, rfl, rfl, _, rfl, iteF ?_⟩
    refine ⟨_, rfl, rfl, _, rfl, iteF ?_⟩
    refine ⟨_, rfl, rfl, _, rfl, iteF ?_⟩
    refine ⟨_, rfl, _, rfl, q, _, _, _, rfl, rfl, SqL.of hq, aV0, _, rfl, q, _, _, _, rfl, rfl, SqL.of hq, aV1, ?_⟩
    exact ⟨a, n, vs, zs, ft, b, d, rfl, SA, Wf, hb, hd, (k _ (goes_trust n2 W b d)).makes SA hT⟩
  | _ => omega
end
end Dv
end
section
set_option Elab.async false
set_option maxRecDepth 100000
set_option maxHeartbeats 4000000
set_option exponentiation.threshold 2000
namespace Dv
open PySem PySem.Spec PyProof.Rows L2 LamX NdefX MinK
open Kp351 (setOf View numOf total)

/-! ### what it's enough to leave out, and whom to doubt -/
theorem range_pick (P : Nat → Bool) (j : Nat) : (List.range (j + 1)).filter P = (List.range j).filter P ++ (if P j = true then [j] else []) := by
  rw [List.range_succ, List.filter_append]
  congr 1
  by_cases c : P j = true
  · rw [if_pos c, List.filter_cons, if_pos c]; rfl
  · rw [if_neg c, List.filter_cons, if_neg c]; rfl
theorem take_pick (P : Nat → Bool) {l : List Nat} {j x : Nat} (h : l[j]? = some x) : (l.take (j + 1)).filter P = (l.take j).filter P ++ (if P x = true then [x] else []) := by
  rw [take_snoc h, List.filter_append]
  congr 1
  by_cases c : P x = true
  · rw [if_pos c, List.filter_cons, if_pos c]; rfl
  · rw [if_neg c, List.filter_cons, if_neg c]; rfl
theorem pick_len {P : Nat → Bool} {m : Nat} (h : m ≤ 1000) : (nV ((List.range m).filter P)).length < sizeLine := by
  rw [nV_len]
  refine small (Nat.le_trans (List.length_filter_le _ _) ?_)
  rw [List.length_range]; omega
theorem pick_len2 {P : Nat → Bool} {l : List Nat} {m : Nat} (h : l.length ≤ 1000) : (nV ((l.take m).filter P)).length < sizeLine := by
  rw [nV_len]
  refine small (Nat.le_trans (List.length_filter_le _ _) ?_)
  rw [List.length_take]; omega
theorem few_of {P : Nat → Bool} {n : Nat} {vs : List View} {zs : List Nat} (W : Wg n vs zs) : ((Kp355.sets (dk n vs zs)).filter P).length ≤ 64 := by
  refine Nat.le_trans (List.length_filter_le _ _) ?_
  unfold Kp355.sets
  rw [List.length_range]; exact pow6 W.six
theorem pow_1 (c : Nat) : 1 ≤ 2 ^ c := Nat.pow_pos (by omega)
def spOthers (CS CV : Addr) : Sp := fun us H Q _ => ∃ (a : Addr) (n : Nat) (vs : List View) (zs : List Nat) (ft : List Addr) (s : Nat), us = [.ref a, .int s] ∧ StA CS CV H a n vs zs ft ∧ Wf n vs zs ∧ s < 2 ^ vs.length ∧
  Q (.int (2 ^ vs.length - 1 - s : Nat)) H
def spEnough (CS CV : Addr) : Sp := fun us H Q _ => ∃ (a : Addr) (n : Nat) (vs : List View) (zs : List Nat) (ft : List Addr) (k s : Nat), us = [.ref a, .int k, .int s] ∧ StA CS CV H a n vs zs ft ∧ Wg n vs zs ∧ k ≤ 2 ∧ s < 2 ^ vs.length ∧
  ∀ H', Same H H' → Q (.bl (Kp355.enough (dk n vs zs) k s)) H'
def holdIn (ss : List Nat) (i : Nat) : Nat := (ss.filter fun s => s.testBit i).length
def spHold : Sp := fun us H Q _ => ∃ (p : Addr) (ss : List Nat) (i : Nat), us = [.ref p, .int i] ∧ H p = some (.lst (nV ss)) ∧ ss.length ≤ 1000 ∧ ∀ H', Same H H' → Q (.int (holdIn ss i : Nat)) H'
/-- without any one of them it isn't enough -/
def leastOf (d : Kp355.Desk) (k s : Nat) : Bool := (setOf (Kp355.count d) s).all fun i => !Kp355.enough d k (s - 2 ^ i)
theorem ways_of (d : Kp355.Desk) (k : Nat) : Kp355.ways d k = (Db.enoughs d k).filter (leastOf d k) := by
  unfold Db.enoughs
  rw [List.filter_filter]
  unfold Kp355.ways Kp355.sets
  refine List.filter_congr fun s _ => ?_
  rw [Bool.and_comm]; rfl
theorem in_enoughs {d : Kp355.Desk} {k x : Nat} (h : x < 2 ^ Kp355.count d) : ((Db.enoughs d k).any fun y => y == x) = Kp355.enough d k x := by
  unfold Db.enoughs
  rw [Bool.eq_iff_iff, List.any_eq_true]
  constructor
  · rintro ⟨y, hy, e⟩
    have e := eq_of_beq e
    subst e
    exact (List.mem_filter.mp hy).2
  · intro g
    exact ⟨x, List.mem_filter.mpr ⟨List.mem_range.mpr h, g⟩, beq_self_eq_true x⟩
theorem none_hold (ss : List Nat) (i : Nat) : (holdIn ss i = 0) ↔ (ss.all fun s => !s.testBit i) = true := by
  unfold holdIn
  rw [List.length_eq_zero_iff, List.filter_eq_nil_iff, List.all_eq_true]
  constructor
  · intro h s hs
    have := h s hs
    cases e : s.testBit i with
    | false => rfl
    | true => exact absurd e this
  · intro h s hs e
    have := h s hs
    rw [e] at this; cases this
theorem all_hold (ss : List Nat) (i : Nat) : (holdIn ss i = ss.length) ↔ (ss.all fun s => s.testBit i) = true := by
  unfold holdIn
  rw [List.length_filter_eq_length_iff, List.all_eq_true]

section
variable {P : Program} {w : World} {K : PySem.W.Frag} {mg : Str → Option Value} {base : Heap} {CS CV : Addr}
abbrev s_others_of : Stmt := top 48
theorem sc_others_of : FnScope ["state", "number"] ["state", "number"] (defScope s_others_of) := ⟨rfl, rfl, rfl, by decide +kernel, rfl, by decide +kernel, by decide +kernel⟩
theorem ok_others_of {f : Addr} {fd : FuncData} (F : Fun K "others_of" "others_of" s_others_of f fd) (T : Txt K mg CS CV) : FnOk P w K mg base CX0 1 f fd ["state", "number"] (spOthers CS CV) := by
  refine F.ok sc_others_of (fun vs H Q E h => ?_) (fun cdv A outer s H vs Q E hr h => ?_)
  · obtain ⟨a, n, vs, zs, ft, k, rfl, _⟩ := h; rfl
  obtain ⟨a, n, vs, zs, ft, s, rfl, SA, W, hs, k⟩ := h
  refine ⟨_, (pss_one (ps_ret (pe_op op_sub (pe_op op_sub (pe_op op_shl pe_int (pe_callB call_len_seq (by rfl) T.len (by decide +kernel) (pa_cons (pe_fld (pv 0) rfl) pa_nil))) pe_int) (pv 1)))), ?_⟩
  obtain ⟨dx, l, ps, ts, S, eft⟩ := id SA
  have six := W.six
  refine ⟨_, rfl, a, CS, dx, _, _, rfl, S.sa, T.clS, T.sV, rfl, l, _, rfl, .inl (SqL.of S.sl), _, _, rfl, rfl, ⟨by omega, by rw [List.length_map, S.V.pl]; omega, by decide⟩, _, _, rfl, rfl, _, rfl, _, _, rfl, rfl, ?_⟩
  have e : (1 : Int) * 2 ^ (((List.map V.ref ps).length : Nat) : Int).toNat - 1 - (s : Int) = ((2 ^ vs.length - 1 - s : Nat) : Int) := by
    rw [List.length_map, S.V.pl, shl_pow]
    have := pow_1 vs.length
    omega
  rw [← e] at k
  exact k
abbrev s_is_enough : Stmt := top 49
theorem sc_is_enough : FnScope ["state", "kind", "number"] ["state", "kind", "number"] (defScope s_is_enough) := ⟨rfl, rfl, rfl, by decide +kernel, rfl, by decide +kernel, by decide +kernel⟩
theorem ok_is_enough {f f1 f2 f3 : Addr} {fd fd1 fd2 fd3 : FuncData} (F : Fun K "is_enough" "is_enough" s_is_enough f fd) (T : Txt K mg CS CV) (c_can_be_together : Cal P w K mg base "can_be_together" 5 ["kind", "questions", "views"] (spCan CV) f1 fd1)
    (c_chosen : Cal P w K mg base "chosen" 2 ["state", "number"] (spChosen CS CV) f2 fd2) (c_others_of : Cal P w K mg base "others_of" 1 ["state", "number"] (spOthers CS CV) f3 fd3) : FnOk P w K mg base CX0 6 f fd ["state", "kind", "number"] (spEnough CS CV) := by
  refine F.ok sc_is_enough (fun vs H Q E h => ?_) (fun cdv A outer s H vs Q E hr h => ?_)
  · obtain ⟨a, n, vs, zs, ft, k, s, rfl, _⟩ := h; rfl
  obtain ⟨a, n, vs, zs, ft, kd, s, rfl, SA, W, k2, hs, k⟩ := h
  refine ⟨_, (pss_one (ps_ret (pe_call c_can_be_together.ok (hr.mono (by decide)) rfl c_can_be_together.mg c_can_be_together.kp c_can_be_together.b .nil pass0 (pa_cons (pv 1) (pa_cons (pe_fld (pv 0) rfl) (pa_cons (pe_call c_chosen.ok (hr.mono (by decide)) rfl c_chosen.mg c_chosen.kp c_chosen.b .nil pass0 (pa_cons (pv 0) (pa_cons (pe_call c_others_of.ok (hr.mono (by decide)) rfl c_others_of.mg c_others_of.kp c_others_of.b .nil pass0 (pa_cons (pv 0) (pa_cons (pv 2) pa_nil))) pa_nil))) pa_nil)))))), ?_⟩
  obtain ⟨dx, l, ps, ts, S, eft⟩ := id SA
  have six := W.six
  have p64 := pow6 six
  have rl : 2 ^ vs.length - 1 - s < 2 ^ vs.length := by omega
  refine ⟨_, rfl, _, rfl, a, CS, dx, _, _, rfl, S.sa, T.clS, T.sQ, rfl, _, rfl, _, rfl, _, rfl, a, n, vs, zs, ft, s, rfl, SA, W.toWf, hs, ?_⟩
  refine ⟨a, n, vs, zs, ft, _, rfl, SA, by omega, fun j hj => mem6 six rl hj, fun H1 q qs s1 hq hl RV => ?_⟩
  refine ⟨kd, q, qs, n, _, rfl, by omega, hl, RV, chosen_vws W.toWf rl, fun H2 b s2 hb => ?_⟩
  rw [chosen_sel W.toWf rl] at hb
  have eb : b = Kp355.enough (dk n vs zs) kd s := Bool.eq_iff_iff.mpr (hb.trans (Db.tog_iff W.dd kd _).symm)
  rw [eb]
  exact k H2 (s1.trans s2)
abbrev s_enough_sets : Stmt := top 50
theorem sc_enough_sets : FnScope ["state", "kind", "known", "number"] ["state", "kind"] (defScope s_enough_sets) := ⟨rfl, rfl, rfl, by decide +kernel, rfl, by decide +kernel, by decide +kernel⟩
theorem ok_enough_sets {f f1 f2 : Addr} {fd fd1 fd2 : FuncData} (F : Fun K "enough_sets" "enough_sets" s_enough_sets f fd) (T : Txt K mg CS CV) (c_together_by_set : Cal P w K mg base "together_by_set" 6 ["state", "kind"] (spBySet CS CV) f1 fd1)
    (c_others_of : Cal P w K mg base "others_of" 1 ["state", "number"] (spOthers CS CV) f2 fd2) : FnOk P w K mg base CX0 7 f fd ["state", "kind"] (spList CS CV Db.enoughs) := by
  refine F.ok sc_enough_sets (fun vs H Q E h => ?_) (fun cdv A outer s H vs Q E hr h => ?_)
  · obtain ⟨a, n, vs, zs, ft, k, rfl, _⟩ := h; rfl
  obtain ⟨a, n, vs, zs, ft, kd, rfl, SA, W, k2, k⟩ := h
  refine ⟨_, (pss_cons (ps_set (i := 2) sc_enough_sets.nd rfl (Or.inr rfl) (pe_call c_together_by_set.ok (hr.mono (by decide)) rfl c_together_by_set.mg c_together_by_set.kp c_together_by_set.b .nil pass0 (pa_cons (pv 0) (pa_cons (pv 1) pa_nil))))
        (pss_one (ps_ret (pe_lc (own := [("number", 3)]) (g := gName 3) rfl sc_enough_sets.nd (pi_range1 rfl T.range (pa_cons (pe_callB call_len_seq (by rfl) T.len (by decide +kernel) (pa_cons (pv 2) pa_nil)) pa_nil)) (blkOk_by (N := ["state", "kind", "known", "number"]) (sc := defScope s_enough_sets) (by decide +kernel)) (fun _ _ _ _ _ => by exact pg_name (i := 3) sc_enough_sets.nd rfl (Or.inl rfl)) (fun _ _ _ _ _ => by exact pts_one (pt_val (pe_ix (r := rIxL K) ix_list (pv 2) (pe_call c_others_of.ok (hr.mono (by decide)) rfl c_others_of.mg c_others_of.kp c_others_of.b .nil pass0 (pa_cons (pv 0) (pa_cons (pv 3) pa_nil))) (fun _ _ => rfl)))) (fun _ _ _ _ _ => by exact (pv 3)))))), ?_⟩
  have p64 := pow6 W.six
  have pp := pow_1 vs.length
  refine ⟨_, rfl, _, rfl, a, n, vs, zs, ft, kd, rfl, SA, W, k2, fun H1 p s1 hp hl => ?_⟩
  have len : (bV ((List.range (2 ^ vs.length)).map (Kp355.together (dk n vs zs) kd))).length = 2 ^ vs.length := by unfold bV; rw [List.length_map, List.length_map, List.length_range]
  have pI : ((2 ^ vs.length : Nat) : Int) ≤ 64 := Int.ofNat_le.mpr p64
  have p0 := Int.natCast_nonneg (2 ^ vs.length)
  refine ⟨_, rfl, p, _, rfl, .inl (SqL.of hl), _, rfl, ?_, ?_, fun D hD => ?_⟩
  · rw [len]; omega
  · rw [len]; omega
  rw [len, Int.toNat_natCast]
  refine lc_it walk_nat (PvN H1 D fun j => nV ((List.range j).filter (Kp355.enough (dk n vs zs) kd))) (pvn_start hD rfl) (fun _ _ _ _ => trivial) ?_ ?_
  · rintro j x H2 H3 hj pv ⟨rfl, rfl⟩
    refine ⟨rfl, ?_⟩
    have hl3 := pv.1 _ _ hl
    refine ⟨_, rfl, _, rfl, _, rfl, a, n, vs, zs, ft, j, rfl, SA.same (s1.trans pv.1), W.toWf, hj, p, _, _, _, rfl, rfl, SqL.of hl3, bV_at (by rw [List.length_map, List.length_range]; omega), _, rfl, ?_⟩
    rw [range_map_get _ _ _ _ (by omega)]
    have en : Kp355.together (dk n vs zs) kd (2 ^ vs.length - 1 - j) = Kp355.enough (dk n vs zs) kd j := rfl
    rw [en]
    refine ite2 (fun c => ?_) (fun c => ?_)
    · refine ⟨_, rfl, pvn_next hD pv (Same.refl _) ?_ (pick_len (by omega))⟩
      rw [range_pick, if_pos c]; exact nV_snoc _ _
    · refine pvn_skip pv (Same.refl _) ?_
      rw [range_pick, if_neg c, List.append_nil]
  · rintro H2 pv
    exact k H2 D (s1.trans pv.1) (s1.free hD) pv.2
abbrev s_ways_out : Stmt := top 51
theorem sc_ways_out : FnScope ["state", "kind", "enough", "number", "place"] ["state", "kind"] (defScope s_ways_out) := ⟨rfl, rfl, rfl, by decide +kernel, rfl, by decide +kernel, by decide +kernel⟩
theorem ok_ways_out {f f1 f2 : Addr} {fd fd1 fd2 : FuncData} (F : Fun K "ways_out" "ways_out" s_ways_out f fd) (T : Txt K mg CS CV) (c_enough_sets : Cal P w K mg base "enough_sets" 7 ["state", "kind"] (spList CS CV Db.enoughs) f1 fd1)
    (c_members : Cal P w K mg base "members" 1 ["number"] spMembers f2 fd2) : FnOk P w K mg base CX0 8 f fd ["state", "kind"] (spList CS CV Kp355.ways) := by
  refine F.ok sc_ways_out (fun vs H Q E h => ?_) (fun cdv A outer s H vs Q E hr h => ?_)
  · obtain ⟨a, n, vs, zs, ft, k, rfl, _⟩ := h; rfl
  obtain ⟨a, n, vs, zs, ft, kd, rfl, SA, W, k2, k⟩ := h
  refine ⟨_, (pss_cons (ps_set (i := 2) sc_ways_out.nd rfl (Or.inr rfl) (pe_call c_enough_sets.ok (hr.mono (by decide)) rfl c_enough_sets.mg c_enough_sets.kp c_enough_sets.b .nil pass0 (pa_cons (pv 0) (pa_cons (pv 1) pa_nil))))
        (pss_one (ps_ret (pe_lc (own := [("number", 3)]) (g := gName 3) rfl sc_ways_out.nd (pi_list (pv 2)) (blkOk_by (N := ["state", "kind", "enough", "number", "place"]) (sc := defScope s_ways_out) (by decide +kernel)) (fun _ _ _ _ _ => by exact pg_name (i := 3) sc_ways_out.nd rfl (Or.inr rfl)) (fun _ _ _ _ _ => by exact pts_one (pt_not (pt_val (pe_callB (r := rAny K) (cr_any rfl) (by rfl) T.any (by decide +kernel) (pa_cons (pe_lc (wi := iList K _) (own := [("place", 4)]) (g := gName 4) (tt := tYes) rfl sc_ways_out.nd (pi_list (pe_call c_members.ok (hr.mono (by decide)) rfl c_members.mg c_members.kp c_members.b .nil pass0 (pa_cons (pv 3) pa_nil))) (blkOk_by (N := ["state", "kind", "enough", "number", "place"]) (sc := relS _ (defScope s_ways_out)) (by decide +kernel)) (fun _ _ _ _ _ => by exact pg_name (i := 4) sc_ways_out.nd rfl (Or.inl rfl)) (fun _ _ _ _ _ => pts_nil) (fun _ _ _ _ _ => by exact (pe_cmpR (r := rIn K false) op_in_seq (pe_op op_sub (pv 3) (pe_op op_shl pe_int (pv 4))) (pv 2) (by rfl)))) pa_nil))))) (fun _ _ _ _ _ => by exact (pv 3)))))), ?_⟩
  have p64 := pow6 W.six
  refine ⟨_, rfl, _, rfl, a, n, vs, zs, ft, kd, rfl, SA, W, k2, fun H1 p s1 hp hl => ?_⟩
  have elt : ∀ s ∈ Db.enoughs (dk n vs zs) kd, s < 2 ^ vs.length := fun s h => List.mem_range.mp (List.mem_filter.mp h).1
  have few : (Db.enoughs (dk n vs zs) kd).length ≤ 64 := few_of W
  refine ⟨_, rfl, p, rfl, ⟨_, SqL.of hl⟩, fun D hD => ?_⟩
  refine lc_it walk_list (PvN H1 D fun j => nV (((Db.enoughs (dk n vs zs) kd).take j).filter (leastOf (dk n vs zs) kd))) (pvn_start hD rfl) (fun j H2 _ pv => SqL.of (pv.1 _ _ hl)) ?_ ?_
  · rintro j x H2 H3 hj pv ⟨rfl, hx⟩
    obtain ⟨s, hs, rfl⟩ := nV_at hx
    have sl := elt s (List.mem_of_getElem? hs)
    refine ⟨rfl, ?_⟩
    refine ⟨_, rfl, s, rfl, by omega, fun H4 m s4 hm hlm => ?_⟩
    refine ⟨m, rfl, ⟨_, SqL.of hlm⟩, fun D2 hD2 => ?_⟩
    refine lc_it walk_list (PvN H4 D2 fun i => bV (((mem s).take i).map fun i => Kp355.enough (dk n vs zs) kd (s - 2 ^ i))) (pvn_start hD2 rfl) (fun j H5 _ pv => SqL.of (pv.1 _ _ hlm)) ?_ ?_
    · rintro i x H5 H6 hi pv5 ⟨rfl, hx⟩
      obtain ⟨y, hy, rfl⟩ := nV_at hx
      have my := List.mem_of_getElem? hy
      have y6 := mem6 W.six sl my
      have six := W.six
      have b := Db.less_lt s (by omega) y (by omega) (mem_bit my)
      refine ⟨rfl, ?_⟩
      refine ⟨_, rfl, _, rfl, _, _, rfl, rfl, ⟨by omega, by omega, by decide⟩, _, _, rfl, rfl, _, rfl, p, _, rfl, .inl (SqL.of (pv5.1 _ _ (s4 _ _ (pv.1 _ _ hl)))), rfl, nV_flat _, ?_⟩
      have e : (s : Int) - 1 * 2 ^ (y : Int).toNat = ((s - 2 ^ y : Nat) : Int) := by rw [shl_pow]; omega
      have ein : (if false = true then !inV (V.int ((s : Int) - 1 * 2 ^ (y : Int).toNat)) (nV (Db.enoughs (dk n vs zs) kd)) else inV (V.int ((s : Int) - 1 * 2 ^ (y : Int).toNat)) (nV (Db.enoughs (dk n vs zs) kd))) = Kp355.enough (dk n vs zs) kd (s - 2 ^ y) := by
        rw [if_neg Bool.false_ne_true, e, inV_nV, in_enoughs (show s - 2 ^ y < 2 ^ vs.length by omega)]
      rw [ein]
      refine pvn_next hD2 pv5 (Same.refl _) ?_ (by unfold bV; rw [List.length_map, List.length_map, List.length_take]; exact small (by have := mem_len s; omega))
      show bV (((mem s).take (i + 1)).map _) = _
      rw [take_snoc hy, List.map_append]
      exact bV_snoc _ _
    · rintro H5 pv5
      have e2 : H5 D2 = some (.lst (((mem s).map fun i => Kp355.enough (dk n vs zs) kd (s - 2 ^ i)).map V.bl)) := by
        have h := pv5.2
        rw [nV_len] at h
        have h : H5 D2 = some (.lst (bV (((mem s).take (mem s).length).map fun i => Kp355.enough (dk n vs zs) kd (s - 2 ^ i)))) := h
        rw [take_all] at h
        exact h
      refine ⟨D2, _, rfl, SqL.of e2, _, rfl, ?_⟩
      have el : leastOf (dk n vs zs) kd s = !(((mem s).map fun i => Kp355.enough (dk n vs zs) kd (s - 2 ^ i)).any id) := by
        unfold leastOf
        rw [mem_sel W.toWf sl, List.any_map, List.not_any_eq_all_not]; rfl
      cases ea : ((mem s).map fun i => Kp355.enough (dk n vs zs) kd (s - 2 ^ i)).any id with
      | true =>
        refine pvn_skip pv (s4.trans pv5.1) ?_
        rw [take_pick _ hs, el, ea]; simp
      | false =>
        refine ⟨_, rfl, pvn_next hD pv (s4.trans pv5.1) ?_ (pick_len2 (by omega))⟩
        rw [take_pick _ hs, el, ea]; exact nV_snoc _ _
  · rintro H2 pv
    refine k H2 D (s1.trans pv.1) (s1.free hD) ?_
    have h := pv.2
    rw [nV_len] at h
    have h : H2 D = some (.lst (nV (((Db.enoughs (dk n vs zs) kd).take (Db.enoughs (dk n vs zs) kd).length).filter (leastOf (dk n vs zs) kd)))) := h
    rw [take_all, ← ways_of] at h
    exact h
abbrev s_how_many_hold : Stmt := top 55
theorem sc_how_many_hold : FnScope ["sets", "place", "number"] ["sets", "place"] (defScope s_how_many_hold) := ⟨rfl, rfl, rfl, by decide +kernel, rfl, by decide +kernel, by decide +kernel⟩
theorem ok_how_many_hold {f : Addr} {fd : FuncData} (F : Fun K "how_many_hold" "how_many_hold" s_how_many_hold f fd) (T : Txt K mg CS CV) : FnOk P w K mg base CX0 1 f fd ["sets", "place"] spHold := by
  refine F.ok sc_how_many_hold (fun vs H Q E h => ?_) (fun cdv A outer s H vs Q E hr h => ?_)
  · obtain ⟨p, ss, i, rfl, _⟩ := h; rfl
  obtain ⟨p, ss, i, rfl, hp, hs, k⟩ := h
  refine ⟨_, (pss_one (ps_ret (pe_callB call_len_seq (by rfl) T.len (by decide +kernel) (pa_cons (pe_lc (own := [("number", 2)]) (g := gName 2) rfl sc_how_many_hold.nd (pi_list (pv 0)) (blkOk_by (N := ["sets", "place", "number"]) (sc := defScope s_how_many_hold) (by decide +kernel)) (fun _ _ _ _ _ => by exact pg_name (i := 2) sc_how_many_hold.nd rfl (Or.inl rfl)) (fun _ _ _ _ _ => by exact pts_one (pt_cmpR op_eq (pe_op op_and (pe_op op_shr (pv 2) (pv 1)) pe_int) pe_int (nomark _))) (fun _ _ _ _ _ => by exact (pv 2))) pa_nil)))), ?_⟩
  refine ⟨_, rfl, p, rfl, ⟨_, SqL.of hp⟩, fun D hD => ?_⟩
  refine lc_it walk_list (PvN H D fun j => nV ((ss.take j).filter fun s => s.testBit i)) (pvn_start hD rfl) (fun j H2 _ pv => SqL.of (pv.1 _ _ hp)) ?_ ?_
  · rintro j x H2 H3 hj pv ⟨rfl, hx⟩
    obtain ⟨y, hy, rfl⟩ := nV_at hx
    refine ⟨rfl, ?_⟩
    refine ⟨_, rfl, _, rfl, _, _, rfl, rfl, by omega, _, _, rfl, rfl, rfl, _, rfl, ?_⟩
    refine ite2 (fun c => ?_) (fun c => ?_)
    · have b : y.testBit i = true := (shr_bit y i).mp (by have := of_decide_eq_true c; exact V.int.inj this)
      refine ⟨_, rfl, pvn_next hD pv (Same.refl _) ?_ (pick_len2 (by omega))⟩
      rw [take_pick _ hy, if_pos b]; exact nV_snoc _ _
    · have b : ¬ y.testBit i = true := fun q => c (decide_eq_true (congrArg V.int ((shr_bit y i).mpr q)))
      refine pvn_skip pv (Same.refl _) ?_
      rw [take_pick _ hy, if_neg b, List.append_nil]
  · rintro H2 pv
    have h := pv.2
    rw [nV_len] at h
    have h : H2 D = some (.lst (nV ((ss.take ss.length).filter fun s => s.testBit i))) := h
    rw [take_all] at h
    refine ⟨D, _, rfl, .inl (SqL.of h), ?_⟩
    rw [nV_len]
    exact k H2 pv.1
abbrev s_never_doubted : Stmt := top 56
theorem sc_never_doubted : FnScope ["state", "kind", "quarrels", "place"] ["state", "kind"] (defScope s_never_doubted) := ⟨rfl, rfl, rfl, by decide +kernel, rfl, by decide +kernel, by decide +kernel⟩
theorem ok_never_doubted {f f1 f2 : Addr} {fd fd1 fd2 : FuncData} (F : Fun K "never_doubted" "never_doubted" s_never_doubted f fd) (T : Txt K mg CS CV) (c_conflicts : Cal P w K mg base "conflicts" 7 ["state", "kind"] (spList CS CV Kp355.conflicts) f1 fd1)
    (c_how_many_hold : Cal P w K mg base "how_many_hold" 1 ["sets", "place"] spHold f2 fd2) : FnOk P w K mg base CX0 8 f fd ["state", "kind"] (spList CS CV Kp355.never) := by
  refine F.ok sc_never_doubted (fun vs H Q E h => ?_) (fun cdv A outer s H vs Q E hr h => ?_)
  · obtain ⟨a, n, vs, zs, ft, k, rfl, _⟩ := h; rfl
  obtain ⟨a, n, vs, zs, ft, kd, rfl, SA, W, k2, k⟩ := h
  refine ⟨_, (pss_cons (ps_set (i := 2) sc_never_doubted.nd rfl (Or.inr rfl) (pe_call c_conflicts.ok (hr.mono (by decide)) rfl c_conflicts.mg c_conflicts.kp c_conflicts.b .nil pass0 (pa_cons (pv 0) (pa_cons (pv 1) pa_nil))))
        (pss_one (ps_ret (pe_lc (own := [("place", 3)]) (g := gName 3) rfl sc_never_doubted.nd (pi_range1 rfl T.range (pa_cons (pe_callB call_len_seq (by rfl) T.len (by decide +kernel) (pa_cons (pe_fld (pv 0) rfl) pa_nil)) pa_nil)) (blkOk_by (N := ["state", "kind", "quarrels", "place"]) (sc := defScope s_never_doubted) (by decide +kernel)) (fun _ _ _ _ _ => by exact pg_name (i := 3) sc_never_doubted.nd rfl (Or.inl rfl)) (fun _ _ _ _ _ => by exact pts_one (pt_cmpR op_eq (pe_call c_how_many_hold.ok (hr.mono (by decide)) rfl c_how_many_hold.mg c_how_many_hold.kp c_how_many_hold.b .nil pass0 (pa_cons (pv 2) (pa_cons (pv 3) pa_nil))) pe_int (nomark _))) (fun _ _ _ _ _ => by exact (pv 3)))))), ?_⟩
  have six := W.six
  refine ⟨_, rfl, _, rfl, a, n, vs, zs, ft, kd, rfl, SA, W, k2, fun H1 p s1 hp hl => ?_⟩
  obtain ⟨dx, l, ps, ts, S, eft⟩ := SA.same s1
  have few : (Kp355.conflicts (dk n vs zs) kd).length ≤ 64 := few_of W
  refine ⟨_, rfl, a, CS, dx, _, _, rfl, S.sa, T.clS, T.sV, rfl, l, _, rfl, .inl (SqL.of S.sl), _, rfl, ?_, ?_, fun D hD => ?_⟩
  · omega
  · rw [List.length_map, S.V.pl]; omega
  rw [List.length_map, S.V.pl, Int.toNat_natCast]
  refine lc_it walk_nat (PvN H1 D fun j => nV ((List.range j).filter fun i => (Kp355.conflicts (dk n vs zs) kd).all fun s => !s.testBit i)) (pvn_start hD rfl) (fun _ _ _ _ => trivial) ?_ ?_
  · rintro j x H2 H3 hj pv ⟨rfl, rfl⟩
    refine ⟨rfl, ?_⟩
    refine ⟨_, rfl, _, rfl, p, _, j, rfl, pv.1 _ _ hl, by omega, fun H5 s5 => ⟨rfl, _, rfl, ?_⟩⟩
    refine ite2 (fun c => ?_) (fun c => ?_)
    · have b := (none_hold (Kp355.conflicts (dk n vs zs) kd) j).mp (by have := V.int.inj (of_decide_eq_true c); omega)
      refine ⟨_, rfl, pvn_next hD pv s5 ?_ (pick_len (by omega))⟩
      rw [range_pick, if_pos b]; exact nV_snoc _ _
    · have b : ¬ ((Kp355.conflicts (dk n vs zs) kd).all fun s => !s.testBit j) = true := fun g => c (decide_eq_true (congrArg V.int (by rw [(none_hold _ _).mpr g]; rfl)))
      refine pvn_skip pv s5 ?_
      rw [range_pick, if_neg b, List.append_nil]
  · rintro H2 pv
    exact k H2 D (s1.trans pv.1) (s1.free hD) pv.2
abbrev s_always_doubted : Stmt := top 57
theorem sc_always_doubted : FnScope ["state", "kind", "outs", "place"] ["state", "kind"] (defScope s_always_doubted) := ⟨rfl, rfl, rfl, by decide +kernel, rfl, by decide +kernel, by decide +kernel⟩
theorem ok_always_doubted {f f1 f2 : Addr} {fd fd1 fd2 : FuncData} (F : Fun K "always_doubted" "always_doubted" s_always_doubted f fd) (T : Txt K mg CS CV) (c_ways_out : Cal P w K mg base "ways_out" 8 ["state", "kind"] (spList CS CV Kp355.ways) f1 fd1)
    (c_how_many_hold : Cal P w K mg base "how_many_hold" 1 ["sets", "place"] spHold f2 fd2) : FnOk P w K mg base CX0 9 f fd ["state", "kind"] (spList CS CV Kp355.always) := by
  refine F.ok sc_always_doubted (fun vs H Q E h => ?_) (fun cdv A outer s H vs Q E hr h => ?_)
  · obtain ⟨a, n, vs, zs, ft, k, rfl, _⟩ := h; rfl
  obtain ⟨a, n, vs, zs, ft, kd, rfl, SA, W, k2, k⟩ := h
  refine ⟨_, (pss_cons (ps_set (i := 2) sc_always_doubted.nd rfl (Or.inr rfl) (pe_call c_ways_out.ok (hr.mono (by decide)) rfl c_ways_out.mg c_ways_out.kp c_ways_out.b .nil pass0 (pa_cons (pv 0) (pa_cons (pv 1) pa_nil))))
        (pss_one (ps_ret (pe_lc (own := [("place", 3)]) (g := gName 3) rfl sc_always_doubted.nd (pi_range1 rfl T.range (pa_cons (pe_callB call_len_seq (by rfl) T.len (by decide +kernel) (pa_cons (pe_fld (pv 0) rfl) pa_nil)) pa_nil)) (blkOk_by (N := ["state", "kind", "outs", "place"]) (sc := defScope s_always_doubted) (by decide +kernel)) (fun _ _ _ _ _ => by exact pg_name (i := 3) sc_always_doubted.nd rfl (Or.inl rfl)) (fun _ _ _ _ _ => by exact pts_one (pt_cmpR op_eq (pe_call c_how_many_hold.ok (hr.mono (by decide)) rfl c_how_many_hold.mg c_how_many_hold.kp c_how_many_hold.b .nil pass0 (pa_cons (pv 2) (pa_cons (pv 3) pa_nil))) (pe_callB (r := rLenK K) call_len_seq (by rfl) T.len (by decide +kernel) (pa_cons (pv 2) pa_nil)) (nomark _))) (fun _ _ _ _ _ => by exact (pv 3)))))), ?_⟩
  have six := W.six
  refine ⟨_, rfl, _, rfl, a, n, vs, zs, ft, kd, rfl, SA, W, k2, fun H1 p s1 hp hl => ?_⟩
  obtain ⟨dx, l, ps, ts, S, eft⟩ := SA.same s1
  have few : (Kp355.ways (dk n vs zs) kd).length ≤ 64 := few_of W
  refine ⟨_, rfl, a, CS, dx, _, _, rfl, S.sa, T.clS, T.sV, rfl, l, _, rfl, .inl (SqL.of S.sl), _, rfl, ?_, ?_, fun D hD => ?_⟩
  · omega
  · rw [List.length_map, S.V.pl]; omega
  rw [List.length_map, S.V.pl, Int.toNat_natCast]
  refine lc_it walk_nat (PvN H1 D fun j => nV ((List.range j).filter fun i => (Kp355.ways (dk n vs zs) kd).all fun s => s.testBit i)) (pvn_start hD rfl) (fun _ _ _ _ => trivial) ?_ ?_
  · rintro j x H2 H3 hj pv ⟨rfl, rfl⟩
    refine ⟨rfl, ?_⟩
    refine ⟨_, rfl, _, rfl, p, _, j, rfl, pv.1 _ _ hl, by omega, fun H5 s5 => ⟨_, rfl, p, _, rfl, .inl (SqL.of (s5 _ _ (pv.1 _ _ hl))), rfl, _, rfl, ?_⟩⟩
    rw [nV_len]
    refine ite2 (fun c => ?_) (fun c => ?_)
    · have b := (all_hold (Kp355.ways (dk n vs zs) kd) j).mp (by have := V.int.inj (of_decide_eq_true c); omega)
      refine ⟨_, rfl, pvn_next hD pv s5 ?_ (pick_len (by omega))⟩
      rw [range_pick, if_pos b]; exact nV_snoc _ _
    · have b : ¬ ((Kp355.ways (dk n vs zs) kd).all fun s => s.testBit j) = true := fun g => c (decide_eq_true (congrArg V.int (by rw [(all_hold _ _).mpr g])))
      refine pvn_skip pv s5 ?_
      rw [range_pick, if_neg b, List.append_nil]
  · rintro H2 pv
    exact k H2 D (s1.trans pv.1) (s1.free hD) pv.2
abbrev s_fewest : Stmt := top 52
theorem sc_fewest : FnScope ["state", "kind"] ["state", "kind"] (defScope s_fewest) := ⟨rfl, rfl, rfl, by decide +kernel, rfl, by decide +kernel, by decide +kernel⟩
theorem ok_fewest {f c PT f1 f2 : Addr} {fd fd1 fd2 : FuncData} {TT : List (Addr × Str)} (F : FunC K "fewest" "fewest" s_fewest f fd c) (T : Txt K mg CS CV) (hTB : TabB base mg c PT) (hmT : (PT, (envOfC "fewest" (defScope s_fewest) 0 f (.ref c)).qual ++ "<lambda>") ∈ TT)
    (huT : ∀ p ∈ TT, p.1 = PT → p.2 = (envOfC "fewest" (defScope s_fewest) 0 f (.ref c)).qual ++ "<lambda>") (c_members : Cal P w K mg base "members" 1 ["number"] spMembers f1 fd1)
    (c_enough_sets : Cal P w K mg base "enough_sets" 7 ["state", "kind"] (spList CS CV Db.enoughs) f2 fd2) : FnOk P w K mg base CX0 8 f fd ["state", "kind"] (spBest TT CS CV Kp355.fewest) := by
  refine F.ok sc_fewest (fun vs H Q E h => ?_) (fun A outer s H vs Q E hr h => ?_)
  · obtain ⟨a, n, vs, zs, ft, k, rfl, _⟩ := h; rfl
  obtain ⟨a, n, vs, zs, ft, kd, rfl, SA, W, k2, hT, k⟩ := h
  refine ⟨_, (pss_one (ps_ret (pe_minLam (T := TT) (N := ["number"]) (fr := []) (js := []) (tb := (tTup (tCons (tCB (rLenK K) (tCons (tCall spMembers [] (fun _ _ _ => False) (tCons (tVar 0) tNil)) tNil)) (tCons (tVar 0) tNil)))) (k := 4) rfl T.min rfl (pe_call c_enough_sets.ok (hr.mono (by decide)) rfl c_enough_sets.mg c_enough_sets.kp c_enough_sets.b .nil pass0 (pa_cons (pv 0) (pa_cons (pv 1) pa_nil))) hTB rfl hmT huT (hr.mono (by decide)) (nscope_by (by decide +kernel)) (ndef_free (sc := defScope s_fewest) (fr := []) (by decide +kernel)) (ndef_fr (sc := defScope s_fewest) (by decide +kernel)) rfl rfl (fun _ _ _ _ _ us hl => match us, hl with | [_], _ => rfl) (fun _ _ _ _ _ _ _ hr => by exact (pe_tup (pa_cons (pe_callB call_len_seq (by rfl) T.len (by decide +kernel) (pa_cons (pe_call c_members.ok (hr.mono (by decide)) rfl c_members.mg c_members.kp c_members.b .nil pass0 (pa_cons (pv 0) pa_nil)) pa_nil)) (pa_cons (pv 0) pa_nil))))))), ?_⟩
  have p64 := pow6 W.six
  have pp := pow_1 vs.length
  refine ⟨_, rfl, _, rfl, a, n, vs, zs, ft, kd, rfl, SA, W, k2, fun H2 D s2 hD hD2 => ?_⟩
  have elt : ∀ s ∈ Db.enoughs (dk n vs zs) kd, s < 2 ^ vs.length := fun s h => List.mem_range.mp (List.mem_filter.mp h).1
  have ne : 0 < (Db.enoughs (dk n vs zs) kd).length := List.length_pos_of_mem (List.mem_filter.mpr ⟨List.mem_range.mpr (show 2 ^ vs.length - 1 < 2 ^ vs.length by omega), Db.enough_all W.dd kd⟩)
  refine ⟨hT.ext s2, fun H3 eN T3 => ?_⟩
  refine ⟨D, _, Db.keysF (dk n vs zs) kd, rfl, SqL.of (eN _ _ hD2 (fun ps => by intro z; cases z)), by rw [nV_len]; exact ne, fun i y H4 hy s4 => ?_, fun y H4 hy s4 => ?_⟩
  · obtain ⟨x, hx, rfl⟩ := nV_at hy
    have ex : (Db.enoughs (dk n vs zs) kd).getD i 0 = x := getD_at hx
    have xl := elt x (List.mem_of_getElem? hx)
    refine ⟨_, rfl, x, rfl, by omega, fun H5 m s5 hm hlm => ?_⟩
    refine ⟨m, _, rfl, .inl (SqL.of hlm), _, rfl, by show 2 ≤ sizeLine; decide, fun t ht => ⟨s5.trans (same_new (Same.refl _) ht), t, rfl, SqT.of ?_⟩⟩
    rw [upd_same, nV_len, size_mem W.toWf xl]
    unfold Db.keysF
    rw [ex]; rfl
  · rw [nV_len] at hy
    obtain ⟨x, hx, rfl⟩ := nV_at hy
    have fe := Db.fewest_best W.dd kd
    rw [getD_at hx] at fe
    have k' := k H4 (ExtN.trans (ExtN.trans (ExtN.of s2) eN) (ExtN.of s4)) (T3.ext s4)
    rw [fe] at k'
    exact k'
abbrev s_cheapest : Stmt := top 53
theorem sc_cheapest : FnScope ["state", "kind"] ["state", "kind"] (defScope s_cheapest) := ⟨rfl, rfl, rfl, by decide +kernel, rfl, by decide +kernel, by decide +kernel⟩
theorem ok_cheapest {f c PT f1 f2 f3 : Addr} {fd fd1 fd2 fd3 : FuncData} {TT : List (Addr × Str)} (F : FunC K "cheapest" "cheapest" s_cheapest f fd c) (T : Txt K mg CS CV) (hTB : TabB base mg c PT) (hmT : (PT, (envOfC "cheapest" (defScope s_cheapest) 0 f (.ref c)).qual ++ "<lambda>") ∈ TT)
    (huT : ∀ p ∈ TT, p.1 = PT → p.2 = (envOfC "cheapest" (defScope s_cheapest) 0 f (.ref c)).qual ++ "<lambda>") (c_members : Cal P w K mg base "members" 1 ["number"] spMembers f1 fd1)
    (c_enough_sets : Cal P w K mg base "enough_sets" 7 ["state", "kind"] (spList CS CV Db.enoughs) f2 fd2) (c_trust_of : Cal P w K mg base "trust_of" 3 ["state", "number"] (spTrustOf CS CV) f3 fd3) : FnOk P w K mg base CX0 8 f fd ["state", "kind"] (spBest TT CS CV Kp355.cheapest) := by
  refine F.ok sc_cheapest (fun vs H Q E h => ?_) (fun A outer s H vs Q E hr h => ?_)
  · obtain ⟨a, n, vs, zs, ft, k, rfl, _⟩ := h; rfl
  obtain ⟨a, n, vs, zs, ft, kd, rfl, SA, W, k2, hT, k⟩ := h
  refine ⟨_, (pss_one (ps_ret (pe_minLam (T := TT) (N := ["number", "state"]) (fr := ["state"]) (js := [0]) (tb := (tTup (tCons (tCall (spTrustOf CS CV) [] (fun _ _ _ => False) (tCons (tVar 1) (tCons (tVar 0) tNil))) (tCons (tCB (rLenK K) (tCons (tCall spMembers [] (fun _ _ _ => False) (tCons (tVar 0) tNil)) tNil)) (tCons (tVar 0) tNil))))) (k := 4) rfl T.min rfl (pe_call c_enough_sets.ok (hr.mono (by decide)) rfl c_enough_sets.mg c_enough_sets.kp c_enough_sets.b .nil pass0 (pa_cons (pv 0) (pa_cons (pv 1) pa_nil))) hTB rfl hmT huT (hr.mono (by decide)) (nscope_by (by decide +kernel)) (ndef_free (sc := defScope s_cheapest) (fr := ["state"]) (by decide +kernel)) (ndef_fr (sc := defScope s_cheapest) (by decide +kernel)) rfl rfl (fun _ _ _ _ _ us hl => match us, hl with | [_], _ => rfl) (fun _ _ _ _ _ _ _ hr => by exact (pe_tup (pa_cons (pe_call c_trust_of.ok (hr.mono (by decide)) rfl c_trust_of.mg c_trust_of.kp c_trust_of.b .nil pass0 (pa_cons (pv 1) (pa_cons (pv 0) pa_nil))) (pa_cons (pe_callB call_len_seq (by rfl) T.len (by decide +kernel) (pa_cons (pe_call c_members.ok (hr.mono (by decide)) rfl c_members.mg c_members.kp c_members.b .nil pass0 (pa_cons (pv 0) pa_nil)) pa_nil)) (pa_cons (pv 0) pa_nil)))))))), ?_⟩
  have p64 := pow6 W.six
  have pp := pow_1 vs.length
  refine ⟨_, rfl, _, rfl, a, n, vs, zs, ft, kd, rfl, SA, W, k2, fun H2 D s2 hD hD2 => ?_⟩
  have elt : ∀ s ∈ Db.enoughs (dk n vs zs) kd, s < 2 ^ vs.length := fun s h => List.mem_range.mp (List.mem_filter.mp h).1
  have ne : 0 < (Db.enoughs (dk n vs zs) kd).length := List.length_pos_of_mem (List.mem_filter.mpr ⟨List.mem_range.mpr (show 2 ^ vs.length - 1 < 2 ^ vs.length by omega), Db.enough_all W.dd kd⟩)
  have tr : ∀ i, i < Kp355.count (dk n vs zs) → 1 ≤ (dk n vs zs).trust.getD i 0 := fun i hi => by
    have hi : i < vs.length := hi
    have h2 : i < zs.length := by rw [W.zl]; exact hi
    show 1 ≤ zs.getD i 0
    rw [List.getD_eq_getElem?_getD, List.getElem?_eq_getElem h2]
    exact W.z1 _ (List.getElem_mem h2)
  refine ⟨hT.ext s2, fun H3 eN T3 => ?_⟩
  have SA3 := (SA.same s2).ext eN
  refine ⟨D, _, Db.keysC (dk n vs zs) kd, rfl, SqL.of (eN _ _ hD2 (fun ps => by intro z; cases z)), by rw [nV_len]; exact ne, fun i y H4 hy s4 => ?_, fun y H4 hy s4 => ?_⟩
  · obtain ⟨x, hx, rfl⟩ := nV_at hy
    have ex : (Db.enoughs (dk n vs zs) kd).getD i 0 = x := getD_at hx
    have xl := elt x (List.mem_of_getElem? hx)
    refine ⟨_, rfl, _, rfl, a, n, vs, zs, ft, x, rfl, SA3.same s4, W, xl, fun H5 s5 => ?_⟩
    refine ⟨_, rfl, x, rfl, by omega, fun H6 m s6 hm hlm => ?_⟩
    refine ⟨m, _, rfl, .inl (SqL.of hlm), _, rfl, by show 3 ≤ sizeLine; decide, fun t ht => ⟨(s5.trans s6).trans (same_new (Same.refl _) ht), t, rfl, SqT.of ?_⟩⟩
    rw [upd_same, nV_len, size_mem W.toWf xl]
    unfold Db.keysC
    rw [ex]; rfl
  · rw [nV_len] at hy
    obtain ⟨x, hx, rfl⟩ := nV_at hy
    have fe := Db.cheapest_best W.dd tr kd
    rw [getD_at hx] at fe
    have k' := k H4 (ExtN.trans (ExtN.trans (ExtN.of s2) eN) (ExtN.of s4)) (T3.ext s4)
    rw [fe] at k'
    exact k'
end
end Dv
end
section
set_option Elab.async false
set_option maxRecDepth 100000
set_option maxHeartbeats 4000000
set_option exponentiation.threshold 2000
namespace Dv
open PySem PySem.Spec PyProof.Rows L2 LamX NdefX MinK
open Kp351 (setOf View total)

/-! ### what is due of each question, by the specification -/
/-- what is due of a question -/
def ansOf (d : Kp355.Desk) (c : Kp355.Call) : List Int := (Kp355.step (some d) c).2.num :: (Kp355.step (some d) c).2.nums
theorem kind_no (d : Kp355.Desk) {k : Nat} (h : 2 < k) (a : Kp355.Ans) : (Kp355.ofKind (some d) k a).2 = Kp355.say (-22) := by unfold Kp355.ofKind; rw [if_pos h]
theorem kind_yes (d : Kp355.Desk) {k : Nat} (h : ¬ 2 < k) (a : Kp355.Ans) : (Kp355.ofKind (some d) k a).2 = a := by unfold Kp355.ofKind; rw [if_neg h]
theorem nV_aV (l : List Nat) : nV l = aV (l.map fun (x : Nat) => (x : Int)) := by unfold nV aV; rw [List.map_map]; rfl
def iN (l : List Nat) : List Int := l.map fun (x : Nat) => (x : Int)
theorem aV_iN (l : List Nat) : aV (iN l) = nV l := (nV_aV l).symm
/-- a row that is told with its length -/
def counted (l : List Nat) : List Int := (l.length : Int) :: iN l
/-- a set that is told with its size and its trust -/
def told3 (d : Kp355.Desk) (s : Nat) : List Int := [(s : Int), (Kp355.size d s : Int), (Kp355.costOf d s : Int)]
section
variable {n : Nat} {vs : List View} {zs : List Nat}
theorem isSet_iff (i : Nat) : Kp355.isSet (dk n vs zs) i = false ↔ 2 ^ vs.length ≤ i := by
  unfold Kp355.isSet
  rw [decide_eq_false_iff_not]
  exact Nat.not_lt
/-- a question leaves all as it is -/
theorem goes_ask {st : Kp355.State} {c : Kp355.Call} {a : Kp355.Ans} (h : Ab st n vs zs) (e : Kp355.step st c = (st, a)) : Goes (Kp355.step st c) ⟨n, vs, zs, a.num :: a.nums⟩ := by
  rw [e]; exact ⟨rfl, h⟩
theorem due_kind {c : Kp355.Call} {k : Nat} {a : Kp355.Ans} (e : Kp355.step (some (dk n vs zs)) c = Kp355.ofKind (some (dk n vs zs)) k a) : ansOf (dk n vs zs) c = if 2 < k then [-22] else a.num :: a.nums := by
  unfold ansOf
  rw [e]
  by_cases h : 2 < k
  · rw [kind_no _ h, if_pos h]; rfl
  · rw [kind_yes _ h, if_neg h]
theorem due_row {c : Kp355.Call} {k : Nat} {l : List Nat} (e : Kp355.step (some (dk n vs zs)) c = Kp355.ofKind (some (dk n vs zs)) k (Kp355.row l)) : ansOf (dk n vs zs) c = if 2 < k then [-22] else counted l := due_kind e
theorem due_set {c : Kp355.Call} {k s : Nat} (e : Kp355.step (some (dk n vs zs)) c = Kp355.ofKind (some (dk n vs zs)) k (Kp355.setAns (dk n vs zs) s)) : ansOf (dk n vs zs) c = if 2 < k then [-22] else told3 (dk n vs zs) s := due_kind e
theorem due_conflicts (k : Nat) : ansOf (dk n vs zs) (.conflicts k) = if 2 < k then [-22] else counted (Kp355.conflicts (dk n vs zs) k) := due_row rfl
theorem due_fewest (k : Nat) : ansOf (dk n vs zs) (.fewest k) = if 2 < k then [-22] else told3 (dk n vs zs) (Kp355.fewest (dk n vs zs) k) := due_set rfl
theorem due_cheapest (k : Nat) : ansOf (dk n vs zs) (.cheapest k) = if 2 < k then [-22] else told3 (dk n vs zs) (Kp355.cheapest (dk n vs zs) k) := due_set rfl
theorem due_ways (k : Nat) : ansOf (dk n vs zs) (.ways k) = if 2 < k then [-22] else counted (Kp355.ways (dk n vs zs) k) := due_row rfl
theorem due_never (k : Nat) : ansOf (dk n vs zs) (.never k) = if 2 < k then [-22] else counted (Kp355.never (dk n vs zs) k) := due_row rfl
theorem due_always (k : Nat) : ansOf (dk n vs zs) (.always k) = if 2 < k then [-22] else counted (Kp355.always (dk n vs zs) k) := due_row rfl
theorem due_kept (k : Nat) : ansOf (dk n vs zs) (.kept k) = if 2 < k then [-22] else counted (setOf vs.length (2 ^ vs.length - 1 - Kp355.fewest (dk n vs zs) k)) := due_row rfl
theorem due_blame (k i : Nat) : ansOf (dk n vs zs) (.blame k i) = if 2 < k then [-22] else if vs.length ≤ i then [-2] else [(Kp355.blame (dk n vs zs) k i : Int)] := by
  have e : Kp355.step (some (dk n vs zs)) (.blame k i) = (some (dk n vs zs), if 2 < k then Kp355.say (-22) else if Kp351.isView ⟨n, vs⟩ i = false then Kp355.say (-2) else Kp355.say (Kp355.blame (dk n vs zs) k i : Nat)) := rfl
  unfold ansOf
  rw [e]
  by_cases h : 2 < k
  · rw [if_pos h, if_pos h]; rfl
  · rw [if_neg h, if_neg h]
    by_cases g : vs.length ≤ i
    · rw [if_pos g, if_pos ((isView_iff i).mpr g)]; rfl
    · rw [if_neg g, if_neg (fun q => g ((isView_iff i).mp q))]; rfl
theorem due_enough (k s : Nat) : ansOf (dk n vs zs) (.enough k s) = if 2 < k ∨ 2 ^ vs.length ≤ s then [-22] else if Kp355.enough (dk n vs zs) k s = true then [1] else [0] := by
  have e : Kp355.step (some (dk n vs zs)) (.enough k s) = (some (dk n vs zs), if 2 < k ∨ Kp355.isSet (dk n vs zs) s = false then Kp355.say (-22) else Kp355.yes (Kp355.enough (dk n vs zs) k s)) := rfl
  unfold ansOf
  rw [e]
  by_cases c : 2 < k ∨ 2 ^ vs.length ≤ s
  · rw [if_pos c, if_pos (c.imp id (isSet_iff s).mpr)]; rfl
  · rw [if_neg c, if_neg (fun g => c (g.imp id (isSet_iff s).mp))]
    cases Kp355.enough (dk n vs zs) k s <;> rfl
theorem due_together (k s : Nat) : ansOf (dk n vs zs) (.together k s) = if 2 < k ∨ 2 ^ vs.length ≤ s then [-22] else if Kp355.together (dk n vs zs) k s = true then [1] else [0] := by
  have e : Kp355.step (some (dk n vs zs)) (.together k s) = (some (dk n vs zs), if 2 < k ∨ Kp355.isSet (dk n vs zs) s = false then Kp355.say (-22) else Kp355.yes (Kp355.together (dk n vs zs) k s)) := rfl
  unfold ansOf
  rw [e]
  by_cases c : 2 < k ∨ 2 ^ vs.length ≤ s
  · rw [if_pos c, if_pos (c.imp id (isSet_iff s).mpr)]; rfl
  · rw [if_neg c, if_neg (fun g => c (g.imp id (isSet_iff s).mp))]
    cases Kp355.together (dk n vs zs) k s <;> rfl
theorem due_cost (s : Nat) : ansOf (dk n vs zs) (.cost s) = if 2 ^ vs.length ≤ s then [-22] else [(Kp355.costOf (dk n vs zs) s : Int)] := by
  have e : Kp355.step (some (dk n vs zs)) (.cost s) = (some (dk n vs zs), if Kp355.isSet (dk n vs zs) s = false then Kp355.say (-22) else Kp355.say (Kp355.costOf (dk n vs zs) s : Nat)) := rfl
  unfold ansOf
  rw [e]
  by_cases c : 2 ^ vs.length ≤ s
  · rw [if_pos c, if_pos ((isSet_iff s).mpr c)]; rfl
  · rw [if_neg c, if_neg (fun g => c ((isSet_iff s).mp g))]; rfl
/-- the views, if one had another table -/
def vsIf (vs : List View) (i : Nat) (row : List Nat) : List View := vs.set i { vs.getD i ⟨[], []⟩ with table := row }
theorem due_iftable (W : Wg n vs zs) (k i : Nat) (row : List Nat) : ansOf (dk n vs zs) (.ifTable k i row) = if 2 < k then [-22] else if vs.length ≤ i then [-2] else if okTable (vs.getD i ⟨[], []⟩) row = true then
    told3 (dk n (vsIf vs i row) zs) (Kp355.fewest (dk n (vsIf vs i row) zs) k) else [-22] := by
  have e : Kp355.step (some (dk n vs zs)) (.ifTable k i row) = (some (dk n vs zs), if 2 < k then Kp355.say (-22) else if Kp351.isView ⟨n, vs⟩ i = false then Kp355.say (-2) else if row.length ≠ 2 ^ (Kp351.viewAt ⟨n, vs⟩ i).qs.length ∨ (row.any fun v => decide (100 < v)) = true ∨ total row = 0 then Kp355.say (-22) else
      Kp355.setAns (dk n (vsIf vs i row) zs) (Kp355.fewest (dk n (vsIf vs i row) zs) k)) := rfl
  unfold ansOf
  rw [e]
  by_cases h : 2 < k
  · rw [if_pos h, if_pos h]; rfl
  · rw [if_neg h, if_neg h]
    by_cases g : vs.length ≤ i
    · rw [if_pos g, if_pos ((isView_iff i).mpr g)]; rfl
    · rw [if_neg g, if_neg (fun q => g ((isView_iff i).mp q))]
      by_cases t : okTable (vs.getD i ⟨[], []⟩) row = true
      · rw [if_pos t, if_neg (fun q => (okTable_iff W (by omega) row).mp q t)]; rfl
      · rw [if_neg t, if_pos ((okTable_iff W (by omega) row).mpr t)]; rfl
theorem due_iftrust (k i t : Nat) : ansOf (dk n vs zs) (.ifTrust k i t) = if 2 < k then [-22] else if vs.length ≤ i then [-2] else if t < 1 ∨ 100 < t then [-22] else
    told3 (dk n vs (zs.set i t)) (Kp355.cheapest (dk n vs (zs.set i t)) k) := by
  have e : Kp355.step (some (dk n vs zs)) (.ifTrust k i t) = (some (dk n vs zs), if 2 < k then Kp355.say (-22) else if Kp351.isView ⟨n, vs⟩ i = false then Kp355.say (-2) else if t < 1 ∨ 100 < t then Kp355.say (-22) else
      Kp355.setAns (dk n vs (zs.set i t)) (Kp355.cheapest (dk n vs (zs.set i t)) k)) := rfl
  unfold ansOf
  rw [e]
  by_cases h : 2 < k
  · rw [if_pos h, if_pos h]; rfl
  · rw [if_neg h, if_neg h]
    by_cases g : vs.length ≤ i
    · rw [if_pos g, if_pos ((isView_iff i).mpr g)]; rfl
    · rw [if_neg g, if_neg (fun q => g ((isView_iff i).mp q))]
      by_cases u : t < 1 ∨ 100 < t
      · rw [if_pos u, if_pos u]; rfl
      · rw [if_neg u, if_neg u]; rfl
/-- views with another trust -/
theorem Wg.trust (W : Wg n vs zs) {i t : Nat} (h : 1 ≤ t ∧ t ≤ 100) : Wg n vs (zs.set i t) := by
  refine ⟨⟨W.n4, W.six, ?_, W.v, fun z hz => ?_, W.le⟩, W.nd, fun z hz => ?_⟩
  · rw [List.length_set]; exact W.zl
  · rcases List.mem_or_eq_of_mem_set hz with g | g
    · exact W.z z g
    · rw [g]; omega
  · rcases List.mem_or_eq_of_mem_set hz with g | g
    · exact W.z1 z g
    · rw [g]; exact h.1
/-- all questions leave the state -/
theorem goes_question (n2 : 2 ≤ n) (W : Wg n vs zs) {p : Int} {ns : List Int} {x : Kp355.Call} (h : Asked p ns x) (h7 : 7 ≤ p) : Goes (Kp355.step (some (dk n vs zs)) x) ⟨n, vs, zs, ansOf (dk n vs zs) x⟩ := by
  have key : ∀ a, Kp355.step (some (dk n vs zs)) x = (some (dk n vs zs), a) → Goes (Kp355.step (some (dk n vs zs)) x) ⟨n, vs, zs, ansOf (dk n vs zs) x⟩ := fun a e => by
    unfold ansOf
    rw [e]
    exact ⟨rfl, keeps_ab n2 W⟩
  cases h <;> first | (exact key _ rfl) | omega
end
end Dv
end
section
set_option Elab.async false
set_option maxRecDepth 100000
set_option maxHeartbeats 4000000
set_option exponentiation.threshold 2000
namespace Dv
open PySem PySem.Spec PyProof.Rows L2 LamX NdefX MinK
open Kp351 (setOf View total)

/-! ### the questions, one by one -/
/-- a new list answers, all stands, the tables may have grown -/
def Tells (TT : List (Addr × Str)) (H : Hp) (ans : List Int) (Q : VK) : Prop := ∀ (H' : Hp) (p : Addr), ExtN H H' → Tabs TT H' → FreshT H p → H' p = some (.lst (aV ans)) → Q (.ref p) H'
theorem fresh_ext {H H1 : Hp} (s : ExtN H H1) {p : Addr} (f : FreshT H1 p) : FreshT H p := fun o e => by
  by_cases c : ∃ ps, o = HO.tbl ps
  · exact c
  · exact f o (s p o e fun ps z => c ⟨ps, z⟩)
theorem fresh_none {H : Hp} {p : Addr} (h : H p = none) : FreshT H p := fun o e => by rw [h] at e; cases e
section
variable {TT : List (Addr × Str)} {CS CV : Addr} {H H1 : Hp} {a : Addr} {n : Nat} {vs : List View} {zs : List Nat} {ft : List Addr} {ans : List Int} {Q : VK}
theorem MakesT.tells (m : MakesT TT CS CV H a ft ⟨n, vs, zs, ans⟩ Q) (SA : StA CS CV H a n vs zs ft) : Tells TT H ans Q := fun H' p s T fr e =>
  m H' p ft (SA.ext s) ⟨fun b o e _ nt => s b o e nt, fun b hb => .inl hb⟩ fr (fun q => by
    obtain ⟨o, ho, nt, _⟩ := SA.plain q
    obtain ⟨ps, z⟩ := fr o ho
    exact nt ps z) e T
theorem Tells.later (m : Tells TT H ans Q) (s : ExtN H H1) : Tells TT H1 ans Q := fun H' p s' T fr e => m H' p (s.trans s') T (fresh_ext s fr) e
theorem Tells.gives (m : Tells TT H ans Q) (s : ExtN H H1) (t : Tabs TT H1) : GivesNew H1 Q (aV ans) := fun H' p s' hp e => m H' p (s.trans (ExtN.of s')) (t.ext s') (fresh_ext s (fresh_none hp)) e
theorem Tells.new (m : Tells TT H ans Q) (s : ExtN H H1) (t : Tabs TT H1) {p : Addr} (hp : H1 p = none) {xs : List V} (e : xs = aV ans) : Q (.ref p) (upd H1 p (.lst xs)) := by
  subst e
  exact m.gives s t _ p (same_new (Same.refl H1) hp) hp upd_same
end
def spA1 (TT : List (Addr × Str)) (CS CV : Addr) (f : Kp355.Desk → Nat → List Int) : Sp := fun us H Q _ => ∃ (a : Addr) (n : Nat) (vs : List View) (zs : List Nat) (ft : List Addr) (k : Nat), us = [.ref a, .int k] ∧ StA CS CV H a n vs zs ft ∧ Wg n vs zs ∧ k ≤ 2 ∧ Tabs TT H ∧ Tells TT H (f (dk n vs zs) k) Q
def spA2 (TT : List (Addr × Str)) (CS CV : Addr) (f : Kp355.Desk → Nat → Nat → List Int) : Sp := fun us H Q _ => ∃ (a : Addr) (n : Nat) (vs : List View) (zs : List Nat) (ft : List Addr) (k i : Nat), us = [.ref a, .int k, .int i] ∧ StA CS CV H a n vs zs ft ∧ Wg n vs zs ∧ k ≤ 2 ∧ Tabs TT H ∧ Tells TT H (f (dk n vs zs) k i) Q
def spA3 (TT : List (Addr × Str)) (CS CV : Addr) (f : Kp355.Desk → Nat → Nat → Nat → List Int) : Sp := fun us H Q _ => ∃ (a : Addr) (n : Nat) (vs : List View) (zs : List Nat) (ft : List Addr) (k i j : Nat), us = [.ref a, .int k, .int i, .int j] ∧ StA CS CV H a n vs zs ft ∧ Wg n vs zs ∧ k ≤ 2 ∧ Tabs TT H ∧ Tells TT H (f (dk n vs zs) k i j) Q
def spAT (TT : List (Addr × Str)) (CS CV : Addr) (f : Kp355.Desk → Nat → Nat → List Nat → List Int) : Sp := fun us H Q _ => ∃ (a q : Addr) (n : Nat) (vs : List View) (zs : List Nat) (ft : List Addr) (k i : Nat) (row : List Nat), us = [.ref a, .int k, .int i, .ref q] ∧ H q = some (.lst (nV row)) ∧ StA CS CV H a n vs zs ft ∧ Wg n vs zs ∧ k ≤ 2 ∧ Tabs TT H ∧ Tells TT H (f (dk n vs zs) k i row) Q
def spA0 (TT : List (Addr × Str)) (CS CV : Addr) (f : Kp355.Desk → Nat → List Int) : Sp := fun us H Q _ => ∃ (a : Addr) (n : Nat) (vs : List View) (zs : List Nat) (ft : List Addr) (s : Nat), us = [.ref a, .int s] ∧ StA CS CV H a n vs zs ft ∧ Wg n vs zs ∧ Tabs TT H ∧ Tells TT H (f (dk n vs zs) s) Q

def spIsSet (CS CV : Addr) : Sp := fun us H Q _ => ∃ (a : Addr) (n : Nat) (vs : List View) (zs : List Nat) (ft : List Addr) (s : Nat), us = [.ref a, .int s] ∧ StA CS CV H a n vs zs ft ∧ Wf n vs zs ∧ Q (.bl (decide (s < 2 ^ vs.length))) H
def spYes : Sp := fun us H Q _ => ∃ b : Bool, us = [.bl b] ∧ GivesNew H Q (aV (if b = true then [1] else [0]))
def spCounted : Sp := fun us H Q _ => ∃ (q : Addr) (l : List Nat), us = [.ref q] ∧ H q = some (.lst (nV l)) ∧ l.length ≤ 1000 ∧ GivesNew H Q (aV (counted l))
def spTold (CS CV : Addr) : Sp := fun us H Q _ => ∃ (a : Addr) (n : Nat) (vs : List View) (zs : List Nat) (ft : List Addr) (s : Nat), us = [.ref a, .int s] ∧ StA CS CV H a n vs zs ft ∧ Wg n vs zs ∧ s < 2 ^ vs.length ∧ GivesNew H Q (aV (told3 (dk n vs zs) s))

section
variable {P : Program} {w : World} {K : PySem.W.Frag} {mg : Str → Option Value} {base : Heap} {CS CV : Addr} {TT : List (Addr × Str)}
abbrev s_is_set_of_views : Stmt := top 59
theorem sc_is_set_of_views : FnScope ["state", "number"] ["state", "number"] (defScope s_is_set_of_views) := ⟨rfl, rfl, rfl, by decide +kernel, rfl, by decide +kernel, by decide +kernel⟩
theorem ok_is_set_of_views {f : Addr} {fd : FuncData} (F : Fun K "is_set_of_views" "is_set_of_views" s_is_set_of_views f fd) (T : Txt K mg CS CV) : FnOk P w K mg base CX0 1 f fd ["state", "number"] (spIsSet CS CV) := by
  refine F.ok sc_is_set_of_views (fun vs H Q E h => ?_) (fun cdv A outer s H vs Q E hr h => ?_)
  · obtain ⟨a, n, vs, zs, ft, k, rfl, _⟩ := h; rfl
  obtain ⟨a, n, vs, zs, ft, s, rfl, SA, W, k⟩ := h
  refine ⟨_, (pss_one (ps_ret (pe_cmpR op_lt (pv 1) (pe_op op_shl pe_int (pe_callB call_len_seq (by rfl) T.len (by decide +kernel) (pa_cons (pe_fld (pv 0) rfl) pa_nil))) (nomark _)))), ?_⟩
  obtain ⟨dx, l, ps, ts, S, eft⟩ := id SA
  have six := W.six
  refine ⟨_, rfl, _, rfl, a, CS, dx, _, _, rfl, S.sa, T.clS, T.sV, rfl, l, _, rfl, .inl (SqL.of S.sl), _, _, rfl, rfl, ⟨by omega, by rw [List.length_map, S.V.pl]; omega, by decide⟩, _, _, rfl, rfl, ?_⟩
  have e : decide (s < 2 ^ vs.length) = decide ((s : Int) < (1 : Int) * 2 ^ (((List.map V.ref ps).length : Nat) : Int).toNat) := by
    rw [List.length_map, S.V.pl, shl_pow, Bool.eq_iff_iff, decide_eq_true_iff, decide_eq_true_iff]; omega
  rw [e] at k
  exact k
abbrev s_yes_or_no : Stmt := top 60
theorem sc_yes_or_no : FnScope ["holds"] ["holds"] (defScope s_yes_or_no) := ⟨rfl, rfl, rfl, by decide +kernel, rfl, by decide +kernel, by decide +kernel⟩
theorem ok_yes_or_no {f : Addr} {fd : FuncData} (F : Fun K "yes_or_no" "yes_or_no" s_yes_or_no f fd) : FnOk P w K mg base CX0 1 f fd ["holds"] spYes := by
  refine F.ok sc_yes_or_no (fun vs H Q E h => ?_) (fun cdv A outer s H vs Q E hr h => ?_)
  · obtain ⟨b, rfl, _⟩ := h; rfl
  obtain ⟨b, rfl, k⟩ := h
  refine ⟨_, (pss_one (ps_ret (pe_lst (pa_cons (pe_ifExp (pt_val (pv 0)) pe_int pe_int) pa_nil)))), ?_⟩
  refine ⟨_, rfl, _, rfl, ?_⟩
  cases b with
  | true => exact ⟨by show 1 ≤ sizeLine; decide, fun p hp => k _ p (same_new (Same.refl H) hp) hp upd_same⟩
  | false => exact ⟨by show 1 ≤ sizeLine; decide, fun p hp => k _ p (same_new (Same.refl H) hp) hp upd_same⟩
abbrev s_counted : Stmt := top 61
theorem sc_counted : FnScope ["found"] ["found"] (defScope s_counted) := ⟨rfl, rfl, rfl, by decide +kernel, rfl, by decide +kernel, by decide +kernel⟩
theorem ok_counted {f : Addr} {fd : FuncData} (F : Fun K "counted" "counted" s_counted f fd) (T : Txt K mg CS CV) : FnOk P w K mg base CX0 1 f fd ["found"] spCounted := by
  refine F.ok sc_counted (fun vs H Q E h => ?_) (fun cdv A outer s H vs Q E hr h => ?_)
  · obtain ⟨q, l, rfl, _⟩ := h; rfl
  obtain ⟨q, l, rfl, hq, hl, k⟩ := h
  refine ⟨_, (pss_one (ps_ret (pe_op op_cat (pe_lst (pa_cons (pe_callB call_len_seq (by rfl) T.len (by decide +kernel) (pa_cons (pv 0) pa_nil)) pa_nil)) (pv 0)))), ?_⟩
  refine ⟨_, rfl, q, _, rfl, .inl (SqL.of hq), by show 1 ≤ sizeLine; decide, fun p hp => ?_⟩
  have s1 : Same H (upd H p (.lst [V.int ((nV l).length : Nat)])) := same_new (Same.refl H) hp
  refine ⟨_, rfl, p, q, _, _, rfl, rfl, upd_same, s1 _ _ hq, ?_, fun t ht => ?_⟩
  · rw [nV_len]; simp; exact Nat.le_of_lt (small (by omega))
  · refine k _ t (s1.trans (same_new (Same.refl _) ht)) (s1.free ht) ?_
    rw [upd_same, nV_len]
    unfold counted
    rw [← aV_iN]; rfl
abbrev s_doubt_told : Stmt := top 62
theorem sc_doubt_told : FnScope ["state", "number"] ["state", "number"] (defScope s_doubt_told) := ⟨rfl, rfl, rfl, by decide +kernel, rfl, by decide +kernel, by decide +kernel⟩
theorem ok_doubt_told {f f1 f2 : Addr} {fd fd1 fd2 : FuncData} (F : Fun K "doubt_told" "doubt_told" s_doubt_told f fd) (T : Txt K mg CS CV) (c_members : Cal P w K mg base "members" 1 ["number"] spMembers f1 fd1)
    (c_trust_of : Cal P w K mg base "trust_of" 3 ["state", "number"] (spTrustOf CS CV) f2 fd2) : FnOk P w K mg base CX0 4 f fd ["state", "number"] (spTold CS CV) := by
  refine F.ok sc_doubt_told (fun vs H Q E h => ?_) (fun cdv A outer s H vs Q E hr h => ?_)
  · obtain ⟨a, n, vs, zs, ft, k, rfl, _⟩ := h; rfl
  obtain ⟨a, n, vs, zs, ft, s, rfl, SA, W, hs, k⟩ := h
  refine ⟨_, (pss_one (ps_ret (pe_lst (pa_cons (pv 1) (pa_cons (pe_callB call_len_seq (by rfl) T.len (by decide +kernel) (pa_cons (pe_call c_members.ok (hr.mono (by decide)) rfl c_members.mg c_members.kp c_members.b .nil pass0 (pa_cons (pv 1) pa_nil)) pa_nil)) (pa_cons (pe_call c_trust_of.ok (hr.mono (by decide)) rfl c_trust_of.mg c_trust_of.kp c_trust_of.b .nil pass0 (pa_cons (pv 0) (pa_cons (pv 1) pa_nil))) pa_nil)))))), ?_⟩
  have p64 := pow6 W.six
  refine ⟨_, rfl, _, rfl, _, rfl, by omega, fun H2 q s2 hq hl => ?_⟩
  refine ⟨q, _, rfl, .inl (SqL.of hl), _, rfl, _, rfl, a, n, vs, zs, ft, _, rfl, SA.same s2, W, hs, fun H3 s3 => ?_⟩
  have s23 := s2.trans s3
  refine ⟨by show 3 ≤ sizeLine; decide, fun p hp => k _ p (s23.trans (same_new (Same.refl _) hp)) (s23.free hp) ?_⟩
  rw [upd_same, nV_len, size_mem W.toWf hs]; rfl
end
end Dv
end
section
set_option Elab.async false
set_option maxRecDepth 100000
set_option maxHeartbeats 4000000
set_option exponentiation.threshold 2000
namespace Dv
open PySem PySem.Spec PyProof.Rows L2 LamX NdefX MinK
open Kp351 (setOf View total)

/-! ### what each question answers -/
def aRow (g : Kp355.Desk → Nat → List Nat) (d : Kp355.Desk) (k : Nat) : List Int := counted (g d k)
def aSet (g : Kp355.Desk → Nat → Nat) (d : Kp355.Desk) (k : Nat) : List Int := told3 d (g d k)
def keptOf (d : Kp355.Desk) (k : Nat) : List Nat := setOf (Kp355.count d) (2 ^ Kp355.count d - 1 - Kp355.fewest d k)
def aYes (g : Kp355.Desk → Nat → Nat → Bool) (d : Kp355.Desk) (k s : Nat) : List Int := if 2 ^ Kp355.count d ≤ s then [-22] else if g d k s = true then [1] else [0]
def aBlame (d : Kp355.Desk) (k i : Nat) : List Int := if Kp355.count d ≤ i then [-2] else [(Kp355.blame d k i : Int)]
def aCost (d : Kp355.Desk) (s : Nat) : List Int := if 2 ^ Kp355.count d ≤ s then [-22] else [(Kp355.costOf d s : Int)]
def aIfTable (d : Kp355.Desk) (k i : Nat) (row : List Nat) : List Int := if Kp355.count d ≤ i then [-2] else if okTable (d.desk.views.getD i ⟨[], []⟩) row = true then aSet Kp355.fewest (dk d.desk.n (vsIf d.desk.views i row) d.trust) k else [-22]
def aIfTrust (d : Kp355.Desk) (k i t : Nat) : List Int := if Kp355.count d ≤ i then [-2] else if t < 1 ∨ 100 < t then [-22] else aSet Kp355.cheapest (dk d.desk.n d.desk.views (d.trust.set i t)) k
theorem set_self {α : Type} {m : List α} {i : Nat} {x : α} (hx : m[i]? = some x) : m.set i x = m := by
  apply List.ext_getElem?
  intro j
  rw [List.getElem?_set]
  by_cases g : i = j
  · rw [if_pos g]; subst g; rw [if_pos (lt_of_at hx)]; exact hx.symm
  · rw [if_neg g]
theorem few64 {n : Nat} {vs : List View} {zs : List Nat} (W : Wg n vs zs) (c : Nat) : (setOf vs.length c).length ≤ 64 := Nat.le_trans (setOf_len _ _) (by have := W.six; omega)

section
variable {P : Program} {w : World} {K : PySem.W.Frag} {mg : Str → Option Value} {base : Heap} {CS CV : Addr} {TT : List (Addr × Str)}
abbrev s_ask_together : Stmt := top 63
theorem sc_ask_together : FnScope ["state", "kind", "number"] ["state", "kind", "number"] (defScope s_ask_together) := ⟨rfl, rfl, rfl, by decide +kernel, rfl, by decide +kernel, by decide +kernel⟩
theorem ok_ask_together {f f1 f2 f3 f4 : Addr} {fd fd1 fd2 fd3 fd4 : FuncData} (F : Fun K "ask_together" "ask_together" s_ask_together f fd) (T : Txt K mg CS CV) (c_can_be_together : Cal P w K mg base "can_be_together" 5 ["kind", "questions", "views"] (spCan CV) f1 fd1)
    (c_chosen : Cal P w K mg base "chosen" 2 ["state", "number"] (spChosen CS CV) f2 fd2) (c_is_set_of_views : Cal P w K mg base "is_set_of_views" 1 ["state", "number"] (spIsSet CS CV) f3 fd3) (c_yes_or_no : Cal P w K mg base "yes_or_no" 1 ["holds"] spYes f4 fd4) :
    FnOk P w K mg base CX0 6 f fd ["state", "kind", "number"] (spA2 TT CS CV (aYes Kp355.together)) := by
  refine F.ok sc_ask_together (fun vs H Q E h => ?_) (fun cdv A outer s H vs Q E hr h => ?_)
  · obtain ⟨a, n, vs, zs, ft, k, i, rfl, _⟩ := h; rfl
  obtain ⟨a, n, vs, zs, ft, kd, i, rfl, SA, W, k2, hT, m⟩ := h
  refine ⟨_, (pss_cons (ps_if (pt_not (pt_val (pe_call c_is_set_of_views.ok (hr.mono (by decide)) rfl c_is_set_of_views.mg c_is_set_of_views.kp c_is_set_of_views.b .nil pass0 (pa_cons (pv 0) (pa_cons (pv 2) pa_nil))))) (pss_one (ps_ret (pe_lst (pa_cons (pe_glob (v := .int (-22)) rfl T.g_WRONG.choose_spec ⟨_, rfl⟩) pa_nil)))) pss_nil)
        (pss_one (ps_ret (pe_call c_yes_or_no.ok (hr.mono (by decide)) rfl c_yes_or_no.mg c_yes_or_no.kp c_yes_or_no.b .nil pass0 (pa_cons (pe_call c_can_be_together.ok (hr.mono (by decide)) rfl c_can_be_together.mg c_can_be_together.kp c_can_be_together.b .nil pass0 (pa_cons (pv 1) (pa_cons (pe_fld (pv 0) rfl) (pa_cons (pe_call c_chosen.ok (hr.mono (by decide)) rfl c_chosen.mg c_chosen.kp c_chosen.b .nil pass0 (pa_cons (pv 0) (pa_cons (pv 2) pa_nil))) pa_nil)))) pa_nil))))), ?_⟩
  obtain ⟨dx, l, ps, ts, S, eft⟩ := id SA
  have six := W.six
  have p64 := pow6 six
  have m : Tells TT H (if 2 ^ vs.length ≤ i then [-22] else if Kp355.together (dk n vs zs) kd i = true then [1] else [0]) Q := m
  refine ⟨_, rfl, _, rfl, a, n, vs, zs, ft, i, rfl, SA, W.toWf, _, rfl, ?_⟩
  by_cases c : i < 2 ^ vs.length
  · rw [decide_eq_true c]
    rw [if_neg (by omega)] at m
    refine ⟨_, rfl, _, rfl, a, CS, dx, _, _, rfl, S.sa, T.clS, T.sQ, rfl, _, rfl, _, rfl, a, n, vs, zs, ft, i, rfl, SA, by omega, fun j hj => mem6 six c hj, fun H1 q qs s1 hq hl RV => ?_⟩
    refine ⟨kd, q, qs, n, _, rfl, k2, hl, RV, chosen_vws W.toWf c, fun H2 b s2 hb => ?_⟩
    rw [chosen_sel W.toWf c] at hb
    have eb : b = Kp355.together (dk n vs zs) kd i := Bool.eq_iff_iff.mpr (hb.trans (Db.tog_iff W.dd kd i).symm)
    have s12 := s1.trans s2
    rw [← eb] at m
    exact ⟨b, rfl, m.gives (ExtN.of s12) (hT.ext s12)⟩
  · rw [decide_eq_false c]
    rw [if_pos (by omega)] at m
    exact ⟨by show 1 ≤ sizeLine; decide, fun p hp => m.new (ExtN.refl H) hT hp rfl⟩
abbrev s_ask_enough : Stmt := top 71
theorem sc_ask_enough : FnScope ["state", "kind", "number"] ["state", "kind", "number"] (defScope s_ask_enough) := ⟨rfl, rfl, rfl, by decide +kernel, rfl, by decide +kernel, by decide +kernel⟩
theorem ok_ask_enough {f f1 f3 f4 : Addr} {fd fd1 fd3 fd4 : FuncData} (F : Fun K "ask_enough" "ask_enough" s_ask_enough f fd) (T : Txt K mg CS CV) (c_is_enough : Cal P w K mg base "is_enough" 6 ["state", "kind", "number"] (spEnough CS CV) f1 fd1)
    (c_is_set_of_views : Cal P w K mg base "is_set_of_views" 1 ["state", "number"] (spIsSet CS CV) f3 fd3) (c_yes_or_no : Cal P w K mg base "yes_or_no" 1 ["holds"] spYes f4 fd4) :
    FnOk P w K mg base CX0 7 f fd ["state", "kind", "number"] (spA2 TT CS CV (aYes Kp355.enough)) := by
  refine F.ok sc_ask_enough (fun vs H Q E h => ?_) (fun cdv A outer s H vs Q E hr h => ?_)
  · obtain ⟨a, n, vs, zs, ft, k, i, rfl, _⟩ := h; rfl
  obtain ⟨a, n, vs, zs, ft, kd, i, rfl, SA, W, k2, hT, m⟩ := h
  refine ⟨_, (pss_cons (ps_if (pt_not (pt_val (pe_call c_is_set_of_views.ok (hr.mono (by decide)) rfl c_is_set_of_views.mg c_is_set_of_views.kp c_is_set_of_views.b .nil pass0 (pa_cons (pv 0) (pa_cons (pv 2) pa_nil))))) (pss_one (ps_ret (pe_lst (pa_cons (pe_glob (v := .int (-22)) rfl T.g_WRONG.choose_spec ⟨_, rfl⟩) pa_nil)))) pss_nil)
        (pss_one (ps_ret (pe_call c_yes_or_no.ok (hr.mono (by decide)) rfl c_yes_or_no.mg c_yes_or_no.kp c_yes_or_no.b .nil pass0 (pa_cons (pe_call c_is_enough.ok (hr.mono (by decide)) rfl c_is_enough.mg c_is_enough.kp c_is_enough.b .nil pass0 (pa_cons (pv 0) (pa_cons (pv 1) (pa_cons (pv 2) pa_nil)))) pa_nil))))), ?_⟩
  have m : Tells TT H (if 2 ^ vs.length ≤ i then [-22] else if Kp355.enough (dk n vs zs) kd i = true then [1] else [0]) Q := m
  refine ⟨_, rfl, _, rfl, a, n, vs, zs, ft, i, rfl, SA, W.toWf, _, rfl, ?_⟩
  by_cases c : i < 2 ^ vs.length
  · rw [decide_eq_true c]
    rw [if_neg (by omega)] at m
    refine ⟨_, rfl, _, rfl, _, rfl, a, n, vs, zs, ft, kd, i, rfl, SA, W, k2, c, fun H1 s1 => ?_⟩
    exact ⟨_, rfl, m.gives (ExtN.of s1) (hT.ext s1)⟩
  · rw [decide_eq_false c]
    rw [if_pos (by omega)] at m
    exact ⟨by show 1 ≤ sizeLine; decide, fun p hp => m.new (ExtN.refl H) hT hp rfl⟩
abbrev s_ask_cost : Stmt := top 75
theorem sc_ask_cost : FnScope ["state", "number"] ["state", "number"] (defScope s_ask_cost) := ⟨rfl, rfl, rfl, by decide +kernel, rfl, by decide +kernel, by decide +kernel⟩
theorem ok_ask_cost {f f1 f3 : Addr} {fd fd1 fd3 : FuncData} (F : Fun K "ask_cost" "ask_cost" s_ask_cost f fd) (T : Txt K mg CS CV) (c_trust_of : Cal P w K mg base "trust_of" 3 ["state", "number"] (spTrustOf CS CV) f1 fd1)
    (c_is_set_of_views : Cal P w K mg base "is_set_of_views" 1 ["state", "number"] (spIsSet CS CV) f3 fd3) :
    FnOk P w K mg base CX0 4 f fd ["state", "number"] (spA0 TT CS CV aCost) := by
  refine F.ok sc_ask_cost (fun vs H Q E h => ?_) (fun cdv A outer s H vs Q E hr h => ?_)
  · obtain ⟨a, n, vs, zs, ft, i, rfl, _⟩ := h; rfl
  obtain ⟨a, n, vs, zs, ft, i, rfl, SA, W, hT, m⟩ := h
  refine ⟨_, (pss_cons (ps_if (pt_not (pt_val (pe_call c_is_set_of_views.ok (hr.mono (by decide)) rfl c_is_set_of_views.mg c_is_set_of_views.kp c_is_set_of_views.b .nil pass0 (pa_cons (pv 0) (pa_cons (pv 1) pa_nil))))) (pss_one (ps_ret (pe_lst (pa_cons (pe_glob (v := .int (-22)) rfl T.g_WRONG.choose_spec ⟨_, rfl⟩) pa_nil)))) pss_nil)
        (pss_one (ps_ret (pe_lst (pa_cons (pe_call c_trust_of.ok (hr.mono (by decide)) rfl c_trust_of.mg c_trust_of.kp c_trust_of.b .nil pass0 (pa_cons (pv 0) (pa_cons (pv 1) pa_nil))) pa_nil))))), ?_⟩
  have m : Tells TT H (if 2 ^ vs.length ≤ i then [-22] else [(Kp355.costOf (dk n vs zs) i : Int)]) Q := m
  refine ⟨_, rfl, _, rfl, a, n, vs, zs, ft, i, rfl, SA, W.toWf, _, rfl, ?_⟩
  by_cases c : i < 2 ^ vs.length
  · rw [decide_eq_true c]
    rw [if_neg (by omega)] at m
    refine ⟨_, rfl, _, rfl, a, n, vs, zs, ft, i, rfl, SA, W, c, fun H1 s1 => ?_⟩
    exact ⟨by show 1 ≤ sizeLine; decide, fun p hp => m.new (ExtN.of s1) (hT.ext s1) hp rfl⟩
  · rw [decide_eq_false c]
    rw [if_pos (by omega)] at m
    exact ⟨by show 1 ≤ sizeLine; decide, fun p hp => m.new (ExtN.refl H) hT hp rfl⟩
abbrev s_ask_blame : Stmt := top 70
theorem sc_ask_blame : FnScope ["state", "kind", "place"] ["state", "kind", "place"] (defScope s_ask_blame) := ⟨rfl, rfl, rfl, by decide +kernel, rfl, by decide +kernel, by decide +kernel⟩
theorem ok_ask_blame {f f1 f3 : Addr} {fd fd1 fd3 : FuncData} (F : Fun K "ask_blame" "ask_blame" s_ask_blame f fd) (T : Txt K mg CS CV) (c_conflicts : Cal P w K mg base "conflicts" 7 ["state", "kind"] (spList CS CV Kp355.conflicts) f1 fd1)
    (c_how_many_hold : Cal P w K mg base "how_many_hold" 1 ["sets", "place"] spHold f3 fd3) :
    FnOk P w K mg base CX0 8 f fd ["state", "kind", "place"] (spA2 TT CS CV aBlame) := by
  refine F.ok sc_ask_blame (fun vs H Q E h => ?_) (fun cdv A outer s H vs Q E hr h => ?_)
  · obtain ⟨a, n, vs, zs, ft, k, i, rfl, _⟩ := h; rfl
  obtain ⟨a, n, vs, zs, ft, kd, i, rfl, SA, W, k2, hT, m⟩ := h
  refine ⟨_, (pss_cons (ps_if (pt_cmpR op_ge (pv 2) (pe_callB call_len_seq (by rfl) T.len (by decide +kernel) (pa_cons (pe_fld (pv 0) rfl) pa_nil)) (nomark _)) (pss_one (ps_ret (pe_lst (pa_cons (pe_glob (v := .int (-2)) rfl T.g_NO_VIEW.choose_spec ⟨_, rfl⟩) pa_nil)))) pss_nil)
        (pss_one (ps_ret (pe_lst (pa_cons (pe_call c_how_many_hold.ok (hr.mono (by decide)) rfl c_how_many_hold.mg c_how_many_hold.kp c_how_many_hold.b .nil pass0 (pa_cons (pe_call c_conflicts.ok (hr.mono (by decide)) rfl c_conflicts.mg c_conflicts.kp c_conflicts.b .nil pass0 (pa_cons (pv 0) (pa_cons (pv 1) pa_nil))) (pa_cons (pv 2) pa_nil))) pa_nil))))), ?_⟩
  obtain ⟨dx, l, ps, ts, S, eft⟩ := id SA
  have m : Tells TT H (if vs.length ≤ i then [-2] else [(Kp355.blame (dk n vs zs) kd i : Int)]) Q := m
  refine ⟨_, rfl, _, rfl, a, CS, dx, _, _, rfl, S.sa, T.clS, T.sV, rfl, l, _, rfl, .inl (SqL.of S.sl), _, _, rfl, rfl, _, rfl, ?_⟩
  rw [List.length_map, S.V.pl]
  refine ite2 (fun c => ?_) (fun c => ?_)
  · rw [if_pos (by have := of_decide_eq_true c; omega)] at m
    exact ⟨by show 1 ≤ sizeLine; decide, fun p hp => m.new (ExtN.refl H) hT hp rfl⟩
  rw [if_neg (fun g => c (decide_eq_true (by omega)))] at m
  have few : (Kp355.conflicts (dk n vs zs) kd).length ≤ 64 := few_of W
  refine ⟨_, rfl, _, rfl, a, n, vs, zs, ft, kd, rfl, SA, W, k2, fun H1 p s1 hp hl => ?_⟩
  refine ⟨_, rfl, p, _, i, rfl, hl, by omega, fun H2 s2 => ?_⟩
  have s12 := s1.trans s2
  exact ⟨by show 1 ≤ sizeLine; decide, fun p hp => m.new (ExtN.of s12) (hT.ext s12) hp rfl⟩
abbrev s_ask_conflicts : Stmt := top 64
theorem sc_ask_conflicts : FnScope ["state", "kind"] ["state", "kind"] (defScope s_ask_conflicts) := ⟨rfl, rfl, rfl, by decide +kernel, rfl, by decide +kernel, by decide +kernel⟩
theorem ok_ask_conflicts {f f1 f2 : Addr} {fd fd1 fd2 : FuncData} (F : Fun K "ask_conflicts" "ask_conflicts" s_ask_conflicts f fd) (c_conflicts : Cal P w K mg base "conflicts" 7 ["state", "kind"] (spList CS CV Kp355.conflicts) f1 fd1)
    (c_counted : Cal P w K mg base "counted" 1 ["found"] spCounted f2 fd2) : FnOk P w K mg base CX0 8 f fd ["state", "kind"] (spA1 TT CS CV (aRow Kp355.conflicts)) := by
  refine F.ok sc_ask_conflicts (fun vs H Q E h => ?_) (fun cdv A outer s H vs Q E hr h => ?_)
  · obtain ⟨a, n, vs, zs, ft, k, rfl, _⟩ := h; rfl
  obtain ⟨a, n, vs, zs, ft, kd, rfl, SA, W, k2, hT, m⟩ := h
  refine ⟨_, (pss_one (ps_ret (pe_call c_counted.ok (hr.mono (by decide)) rfl c_counted.mg c_counted.kp c_counted.b .nil pass0 (pa_cons (pe_call c_conflicts.ok (hr.mono (by decide)) rfl c_conflicts.mg c_conflicts.kp c_conflicts.b .nil pass0 (pa_cons (pv 0) (pa_cons (pv 1) pa_nil))) pa_nil)))), ?_⟩
  have few : (Kp355.conflicts (dk n vs zs) kd).length ≤ 64 := few_of W
  refine ⟨_, rfl, _, rfl, a, n, vs, zs, ft, kd, rfl, SA, W, k2, fun H1 p s1 hp hl => ?_⟩
  exact ⟨p, _, rfl, hl, by omega, m.gives (ExtN.of s1) (hT.ext s1)⟩
abbrev s_ask_ways : Stmt := top 67
theorem sc_ask_ways : FnScope ["state", "kind"] ["state", "kind"] (defScope s_ask_ways) := ⟨rfl, rfl, rfl, by decide +kernel, rfl, by decide +kernel, by decide +kernel⟩
theorem ok_ask_ways {f f1 f2 : Addr} {fd fd1 fd2 : FuncData} (F : Fun K "ask_ways" "ask_ways" s_ask_ways f fd) (c_ways_out : Cal P w K mg base "ways_out" 8 ["state", "kind"] (spList CS CV Kp355.ways) f1 fd1)
    (c_counted : Cal P w K mg base "counted" 1 ["found"] spCounted f2 fd2) : FnOk P w K mg base CX0 9 f fd ["state", "kind"] (spA1 TT CS CV (aRow Kp355.ways)) := by
  refine F.ok sc_ask_ways (fun vs H Q E h => ?_) (fun cdv A outer s H vs Q E hr h => ?_)
  · obtain ⟨a, n, vs, zs, ft, k, rfl, _⟩ := h; rfl
  obtain ⟨a, n, vs, zs, ft, kd, rfl, SA, W, k2, hT, m⟩ := h
  refine ⟨_, (pss_one (ps_ret (pe_call c_counted.ok (hr.mono (by decide)) rfl c_counted.mg c_counted.kp c_counted.b .nil pass0 (pa_cons (pe_call c_ways_out.ok (hr.mono (by decide)) rfl c_ways_out.mg c_ways_out.kp c_ways_out.b .nil pass0 (pa_cons (pv 0) (pa_cons (pv 1) pa_nil))) pa_nil)))), ?_⟩
  have few : (Kp355.ways (dk n vs zs) kd).length ≤ 64 := few_of W
  refine ⟨_, rfl, _, rfl, a, n, vs, zs, ft, kd, rfl, SA, W, k2, fun H1 p s1 hp hl => ?_⟩
  exact ⟨p, _, rfl, hl, by omega, m.gives (ExtN.of s1) (hT.ext s1)⟩
theorem few_i {n : Nat} {vs : List View} {zs : List Nat} (W : Wg n vs zs) (g : Nat → Bool) : ((List.range (Kp355.count (dk n vs zs))).filter g).length ≤ 64 := by
  refine Nat.le_trans (List.length_filter_le _ _) ?_
  rw [List.length_range]
  have six := W.six
  show vs.length ≤ 64
  omega
abbrev s_ask_never : Stmt := top 68
theorem sc_ask_never : FnScope ["state", "kind"] ["state", "kind"] (defScope s_ask_never) := ⟨rfl, rfl, rfl, by decide +kernel, rfl, by decide +kernel, by decide +kernel⟩
theorem ok_ask_never {f f1 f2 : Addr} {fd fd1 fd2 : FuncData} (F : Fun K "ask_never" "ask_never" s_ask_never f fd) (c_never_doubted : Cal P w K mg base "never_doubted" 8 ["state", "kind"] (spList CS CV Kp355.never) f1 fd1)
    (c_counted : Cal P w K mg base "counted" 1 ["found"] spCounted f2 fd2) : FnOk P w K mg base CX0 9 f fd ["state", "kind"] (spA1 TT CS CV (aRow Kp355.never)) := by
  refine F.ok sc_ask_never (fun vs H Q E h => ?_) (fun cdv A outer s H vs Q E hr h => ?_)
  · obtain ⟨a, n, vs, zs, ft, k, rfl, _⟩ := h; rfl
  obtain ⟨a, n, vs, zs, ft, kd, rfl, SA, W, k2, hT, m⟩ := h
  refine ⟨_, (pss_one (ps_ret (pe_call c_counted.ok (hr.mono (by decide)) rfl c_counted.mg c_counted.kp c_counted.b .nil pass0 (pa_cons (pe_call c_never_doubted.ok (hr.mono (by decide)) rfl c_never_doubted.mg c_never_doubted.kp c_never_doubted.b .nil pass0 (pa_cons (pv 0) (pa_cons (pv 1) pa_nil))) pa_nil)))), ?_⟩
  have few : (Kp355.never (dk n vs zs) kd).length ≤ 64 := few_i W _
  refine ⟨_, rfl, _, rfl, a, n, vs, zs, ft, kd, rfl, SA, W, k2, fun H1 p s1 hp hl => ?_⟩
  exact ⟨p, _, rfl, hl, by omega, m.gives (ExtN.of s1) (hT.ext s1)⟩
abbrev s_ask_always : Stmt := top 69
theorem sc_ask_always : FnScope ["state", "kind"] ["state", "kind"] (defScope s_ask_always) := ⟨rfl, rfl, rfl, by decide +kernel, rfl, by decide +kernel, by decide +kernel⟩
theorem ok_ask_always {f f1 f2 : Addr} {fd fd1 fd2 : FuncData} (F : Fun K "ask_always" "ask_always" s_ask_always f fd) (c_always_doubted : Cal P w K mg base "always_doubted" 9 ["state", "kind"] (spList CS CV Kp355.always) f1 fd1)
    (c_counted : Cal P w K mg base "counted" 1 ["found"] spCounted f2 fd2) : FnOk P w K mg base CX0 10 f fd ["state", "kind"] (spA1 TT CS CV (aRow Kp355.always)) := by
  refine F.ok sc_ask_always (fun vs H Q E h => ?_) (fun cdv A outer s H vs Q E hr h => ?_)
  · obtain ⟨a, n, vs, zs, ft, k, rfl, _⟩ := h; rfl
  obtain ⟨a, n, vs, zs, ft, kd, rfl, SA, W, k2, hT, m⟩ := h
  refine ⟨_, (pss_one (ps_ret (pe_call c_counted.ok (hr.mono (by decide)) rfl c_counted.mg c_counted.kp c_counted.b .nil pass0 (pa_cons (pe_call c_always_doubted.ok (hr.mono (by decide)) rfl c_always_doubted.mg c_always_doubted.kp c_always_doubted.b .nil pass0 (pa_cons (pv 0) (pa_cons (pv 1) pa_nil))) pa_nil)))), ?_⟩
  have few : (Kp355.always (dk n vs zs) kd).length ≤ 64 := few_i W _
  refine ⟨_, rfl, _, rfl, a, n, vs, zs, ft, kd, rfl, SA, W, k2, fun H1 p s1 hp hl => ?_⟩
  exact ⟨p, _, rfl, hl, by omega, m.gives (ExtN.of s1) (hT.ext s1)⟩
abbrev s_ask_kept : Stmt := top 74
theorem sc_ask_kept : FnScope ["state", "kind"] ["state", "kind"] (defScope s_ask_kept) := ⟨rfl, rfl, rfl, by decide +kernel, rfl, by decide +kernel, by decide +kernel⟩
theorem ok_ask_kept {f f1 f2 f3 f4 : Addr} {fd fd1 fd2 fd3 fd4 : FuncData} (F : Fun K "ask_kept" "ask_kept" s_ask_kept f fd) (T : Txt K mg CS CV) (c_fewest : Cal P w K mg base "fewest" 8 ["state", "kind"] (spBest TT CS CV Kp355.fewest) f1 fd1)
    (c_counted : Cal P w K mg base "counted" 1 ["found"] spCounted f2 fd2) (c_members : Cal P w K mg base "members" 1 ["number"] spMembers f3 fd3) (c_others_of : Cal P w K mg base "others_of" 1 ["state", "number"] (spOthers CS CV) f4 fd4) :
    FnOk P w K mg base CX0 9 f fd ["state", "kind"] (spA1 TT CS CV (aRow keptOf)) := by
  refine F.ok sc_ask_kept (fun vs H Q E h => ?_) (fun cdv A outer s H vs Q E hr h => ?_)
  · obtain ⟨a, n, vs, zs, ft, k, rfl, _⟩ := h; rfl
  obtain ⟨a, n, vs, zs, ft, kd, rfl, SA, W, k2, hT, m⟩ := h
  refine ⟨_, (pss_one (ps_ret (pe_call c_counted.ok (hr.mono (by decide)) rfl c_counted.mg c_counted.kp c_counted.b .nil pass0 (pa_cons (pe_call c_members.ok (hr.mono (by decide)) rfl c_members.mg c_members.kp c_members.b .nil pass0 (pa_cons (pe_call c_others_of.ok (hr.mono (by decide)) rfl c_others_of.mg c_others_of.kp c_others_of.b .nil pass0 (pa_cons (pv 0) (pa_cons (pe_call c_fewest.ok (hr.mono (by decide)) rfl c_fewest.mg c_fewest.kp c_fewest.b .nil pass0 (pa_cons (pv 0) (pa_cons (pv 1) pa_nil))) pa_nil))) pa_nil)) pa_nil)))), ?_⟩
  have p64 := pow6 W.six
  have fl : Kp355.fewest (dk n vs zs) kd < 2 ^ vs.length := Db.fewest_lt _ _
  refine ⟨_, rfl, _, rfl, _, rfl, a, n, vs, zs, ft, kd, rfl, SA, W, k2, hT, fun H1 e1 T1 => ?_⟩
  refine ⟨a, n, vs, zs, ft, _, rfl, SA.ext e1, W.toWf, fl, ?_⟩
  refine ⟨_, rfl, by omega, fun H2 p s2 hp hl => ?_⟩
  have em : mem (2 ^ vs.length - 1 - Kp355.fewest (dk n vs zs) kd) = keptOf (dk n vs zs) kd := mem_sel W.toWf (by omega)
  rw [em] at hl
  have few : (keptOf (dk n vs zs) kd).length ≤ 64 := few64 W _
  exact ⟨p, _, rfl, hl, by omega, m.gives (e1.trans (ExtN.of s2)) (T1.ext s2)⟩
abbrev s_ask_fewest : Stmt := top 65
theorem sc_ask_fewest : FnScope ["state", "kind"] ["state", "kind"] (defScope s_ask_fewest) := ⟨rfl, rfl, rfl, by decide +kernel, rfl, by decide +kernel, by decide +kernel⟩
theorem ok_ask_fewest {f f1 f2 : Addr} {fd fd1 fd2 : FuncData} (F : Fun K "ask_fewest" "ask_fewest" s_ask_fewest f fd) (T : Txt K mg CS CV) (c_fewest : Cal P w K mg base "fewest" 8 ["state", "kind"] (spBest TT CS CV Kp355.fewest) f1 fd1)
    (c_doubt_told : Cal P w K mg base "doubt_told" 4 ["state", "number"] (spTold CS CV) f2 fd2) : FnOk P w K mg base CX0 9 f fd ["state", "kind"] (spA1 TT CS CV (aSet Kp355.fewest)) := by
  refine F.ok sc_ask_fewest (fun vs H Q E h => ?_) (fun cdv A outer s H vs Q E hr h => ?_)
  · obtain ⟨a, n, vs, zs, ft, k, rfl, _⟩ := h; rfl
  obtain ⟨a, n, vs, zs, ft, kd, rfl, SA, W, k2, hT, m⟩ := h
  refine ⟨_, (pss_one (ps_ret (pe_call c_doubt_told.ok (hr.mono (by decide)) rfl c_doubt_told.mg c_doubt_told.kp c_doubt_told.b .nil pass0 (pa_cons (pv 0) (pa_cons (pe_call c_fewest.ok (hr.mono (by decide)) rfl c_fewest.mg c_fewest.kp c_fewest.b .nil pass0 (pa_cons (pv 0) (pa_cons (pv 1) pa_nil))) pa_nil))))), ?_⟩
  refine ⟨_, rfl, _, rfl, _, rfl, a, n, vs, zs, ft, kd, rfl, SA, W, k2, hT, fun H1 e1 T1 => ?_⟩
  exact ⟨a, n, vs, zs, ft, _, rfl, SA.ext e1, W, Db.fewest_lt _ _, m.gives e1 T1⟩
abbrev s_ask_cheapest : Stmt := top 66
theorem sc_ask_cheapest : FnScope ["state", "kind"] ["state", "kind"] (defScope s_ask_cheapest) := ⟨rfl, rfl, rfl, by decide +kernel, rfl, by decide +kernel, by decide +kernel⟩
theorem ok_ask_cheapest {f f1 f2 : Addr} {fd fd1 fd2 : FuncData} (F : Fun K "ask_cheapest" "ask_cheapest" s_ask_cheapest f fd) (T : Txt K mg CS CV) (c_cheapest : Cal P w K mg base "cheapest" 8 ["state", "kind"] (spBest TT CS CV Kp355.cheapest) f1 fd1)
    (c_doubt_told : Cal P w K mg base "doubt_told" 4 ["state", "number"] (spTold CS CV) f2 fd2) : FnOk P w K mg base CX0 9 f fd ["state", "kind"] (spA1 TT CS CV (aSet Kp355.cheapest)) := by
  refine F.ok sc_ask_cheapest (fun vs H Q E h => ?_) (fun cdv A outer s H vs Q E hr h => ?_)
  · obtain ⟨a, n, vs, zs, ft, k, rfl, _⟩ := h; rfl
  obtain ⟨a, n, vs, zs, ft, kd, rfl, SA, W, k2, hT, m⟩ := h
  refine ⟨_, (pss_one (ps_ret (pe_call c_doubt_told.ok (hr.mono (by decide)) rfl c_doubt_told.mg c_doubt_told.kp c_doubt_told.b .nil pass0 (pa_cons (pv 0) (pa_cons (pe_call c_cheapest.ok (hr.mono (by decide)) rfl c_cheapest.mg c_cheapest.kp c_cheapest.b .nil pass0 (pa_cons (pv 0) (pa_cons (pv 1) pa_nil))) pa_nil))))), ?_⟩
  refine ⟨_, rfl, _, rfl, _, rfl, a, n, vs, zs, ft, kd, rfl, SA, W, k2, hT, fun H1 e1 T1 => ?_⟩
  exact ⟨a, n, vs, zs, ft, _, rfl, SA.ext e1, W, Db.cheapest_lt _ _, m.gives e1 T1⟩
abbrev s_ask_if_table : Stmt := top 72
theorem sc_ask_if_table : FnScope ["state", "kind", "place", "row", "view"] ["state", "kind", "place", "row"] (defScope s_ask_if_table) := ⟨rfl, rfl, rfl, by decide +kernel, rfl, by decide +kernel, by decide +kernel⟩
theorem ok_ask_if_table {f f1 f2 f3 : Addr} {fd fd1 fd2 fd3 : FuncData} (F : Fun K "ask_if_table" "ask_if_table" s_ask_if_table f fd) (T : Txt K mg CS CV) (c_is_table : Cal P w K mg base "is_table" 1 ["view", "row"] (spIsTable CV) f1 fd1)
    (c_ask_fewest : Cal P w K mg base "ask_fewest" 9 ["state", "kind"] (spA1 TT CS CV (aSet Kp355.fewest)) f2 fd2) (c_with_other : Cal P w K mg base "with_other" 4 ["state", "place", "table", "trust"] (spOther CS CV) f3 fd3) :
    FnOk P w K mg base CX0 10 f fd ["state", "kind", "place", "row"] (spAT TT CS CV aIfTable) := by
  refine F.ok sc_ask_if_table (fun vs H Q E h => ?_) (fun cdv A outer s H vs Q E hr h => ?_)
  · obtain ⟨a, q, n, vs, zs, ft, k, i, row, rfl, _⟩ := h; rfl
  obtain ⟨a, q, n, vs, zs, ft, kd, i, row, rfl, hq, SA, W, k2, hT, m⟩ := h
  refine ⟨_, (pss_cons (ps_if (pt_cmpR op_ge (pv 2) (pe_callB call_len_seq (by rfl) T.len (by decide +kernel) (pa_cons (pe_fld (pv 0) rfl) pa_nil)) (nomark _)) (pss_one (ps_ret (pe_lst (pa_cons (pe_glob (v := .int (-2)) rfl T.g_NO_VIEW.choose_spec ⟨_, rfl⟩) pa_nil)))) pss_nil)
        (pss_cons (ps_set (i := 4) sc_ask_if_table.nd rfl (Or.inl rfl) (pe_ix (r := rIxL K) ix_list (pe_fld (pv 0) rfl) (pv 2) (fun _ _ => rfl)))
        (pss_cons (ps_if (pt_not (pt_val (pe_call c_is_table.ok (hr.mono (by decide)) rfl c_is_table.mg c_is_table.kp c_is_table.b .nil pass0 (pa_cons (pv 4) (pa_cons (pv 3) pa_nil))))) (pss_one (ps_ret (pe_lst (pa_cons (pe_glob (v := .int (-22)) rfl T.g_WRONG.choose_spec ⟨_, rfl⟩) pa_nil)))) pss_nil)
        (pss_one (ps_ret (pe_call c_ask_fewest.ok (hr.mono (by decide)) rfl c_ask_fewest.mg c_ask_fewest.kp c_ask_fewest.b .nil pass0 (pa_cons (pe_call c_with_other.ok (hr.mono (by decide)) rfl c_with_other.mg c_with_other.kp c_with_other.b .nil pass0 (pa_cons (pv 0) (pa_cons (pv 2) (pa_cons (pv 3) (pa_cons (pe_fld (pv 4) rfl) pa_nil))))) (pa_cons (pv 1) pa_nil)))))))), ?_⟩
  obtain ⟨dx, l, ps, ts, S, eft⟩ := id SA
  have m : Tells TT H (if vs.length ≤ i then [-2] else if okTable (vs.getD i ⟨[], []⟩) row = true then aSet Kp355.fewest (dk n (vsIf vs i row) zs) kd else [-22]) Q := m
  refine ⟨_, rfl, _, rfl, a, CS, dx, _, _, rfl, S.sa, T.clS, T.sV, rfl, l, _, rfl, .inl (SqL.of S.sl), _, _, rfl, rfl, _, rfl, ?_⟩
  rw [List.length_map, S.V.pl]
  refine ite2 (fun c => ?_) (fun c => ?_)
  · rw [if_pos (by have := of_decide_eq_true c; omega)] at m
    exact ⟨by show 1 ≤ sizeLine; decide, fun p hp => m.new (ExtN.refl H) hT hp rfl⟩
  have c' : ¬ vs.length ≤ i := fun g => c (decide_eq_true (by omega))
  rw [if_neg c'] at m
  have hi' : i < vs.length := by omega
  have hv : vs[i]? = some vs[i] := List.getElem?_eq_getElem hi'
  obtain ⟨p, t, z, h1, h2, h3, ⟨dv, h4⟩, h5⟩ := S.V.at_ i vs[i] hv
  have ov := (W.v vs[i] (List.getElem_mem hi')).ok
  have tpos : 0 < (vs[i]).table.length := by rw [ov.1]; exact Nat.pow_pos (by omega)
  refine ⟨_, rfl, a, CS, dx, _, _, rfl, S.sa, T.clS, T.sV, rfl, _, rfl, l, _, _, _, rfl, rfl, SqL.of S.sl, at_ref h1, ?_⟩
  refine ⟨_, rfl, _, rfl, p, t, q, vs[i], z, row, rfl, ⟨⟨dv, h4⟩, h5⟩, hq, tpos, _, rfl, ?_⟩
  cases ct : okTable vs[i] row with
  | false =>
    rw [getD_at hv, ct, if_neg Bool.false_ne_true] at m
    exact ⟨by show 1 ≤ sizeLine; decide, fun p hp => m.new (ExtN.refl H) hT hp rfl⟩
  | true =>
    have ct' : okTable (vs.getD i ⟨[], []⟩) row = true := by rw [getD_at hv]; exact ct
    rw [if_pos ct'] at m
    have W2 : Wg n (vsIf vs i row) zs := W.put hi' ct'
    refine ⟨_, rfl, _, rfl, _, rfl, _, rfl, p, CV, dv, _, _, rfl, h4, T.clV, T.vR, rfl, ?_⟩
    refine ⟨a, q, n, vs, zs, ft, i, z, row, rfl, hq, SA, W.toWf, hi', fun H1 b fb s1 SB => ?_⟩
    rw [set_self h3] at SB
    exact ⟨_, rfl, b, n, vsIf vs i row, zs, fb, kd, rfl, SB, W2, k2, hT.ext s1, m.later (ExtN.of s1)⟩
abbrev s_ask_if_trust : Stmt := top 73
theorem sc_ask_if_trust : FnScope ["state", "kind", "place", "trust"] ["state", "kind", "place", "trust"] (defScope s_ask_if_trust) := ⟨rfl, rfl, rfl, by decide +kernel, rfl, by decide +kernel, by decide +kernel⟩
theorem ok_ask_if_trust {f f1 f2 f3 : Addr} {fd fd1 fd2 fd3 : FuncData} (F : Fun K "ask_if_trust" "ask_if_trust" s_ask_if_trust f fd) (T : Txt K mg CS CV) (c_is_trust : Cal P w K mg base "is_trust" 1 ["trust"] spIsTrust f1 fd1)
    (c_ask_cheapest : Cal P w K mg base "ask_cheapest" 9 ["state", "kind"] (spA1 TT CS CV (aSet Kp355.cheapest)) f2 fd2) (c_with_other : Cal P w K mg base "with_other" 4 ["state", "place", "table", "trust"] (spOther CS CV) f3 fd3) :
    FnOk P w K mg base CX0 10 f fd ["state", "kind", "place", "trust"] (spA3 TT CS CV aIfTrust) := by
  refine F.ok sc_ask_if_trust (fun vs H Q E h => ?_) (fun cdv A outer s H vs Q E hr h => ?_)
  · obtain ⟨a, n, vs, zs, ft, k, i, j, rfl, _⟩ := h; rfl
  obtain ⟨a, n, vs, zs, ft, kd, i, j, rfl, SA, W, k2, hT, m⟩ := h
  refine ⟨_, (pss_cons (ps_if (pt_cmpR op_ge (pv 2) (pe_callB call_len_seq (by rfl) T.len (by decide +kernel) (pa_cons (pe_fld (pv 0) rfl) pa_nil)) (nomark _)) (pss_one (ps_ret (pe_lst (pa_cons (pe_glob (v := .int (-2)) rfl T.g_NO_VIEW.choose_spec ⟨_, rfl⟩) pa_nil)))) pss_nil)
        (pss_cons (ps_if (pt_not (pt_val (pe_call c_is_trust.ok (hr.mono (by decide)) rfl c_is_trust.mg c_is_trust.kp c_is_trust.b .nil pass0 (pa_cons (pv 3) pa_nil)))) (pss_one (ps_ret (pe_lst (pa_cons (pe_glob (v := .int (-22)) rfl T.g_WRONG.choose_spec ⟨_, rfl⟩) pa_nil)))) pss_nil)
        (pss_one (ps_ret (pe_call c_ask_cheapest.ok (hr.mono (by decide)) rfl c_ask_cheapest.mg c_ask_cheapest.kp c_ask_cheapest.b .nil pass0 (pa_cons (pe_call c_with_other.ok (hr.mono (by decide)) rfl c_with_other.mg c_with_other.kp c_with_other.b .nil pass0 (pa_cons (pv 0) (pa_cons (pv 2) (pa_cons (pe_fld (pe_ix (r := rIxL K) ix_list (pe_fld (pv 0) rfl) (pv 2) (fun _ _ => rfl)) rfl) (pa_cons (pv 3) pa_nil))))) (pa_cons (pv 1) pa_nil))))))), ?_⟩
  obtain ⟨dx, l, ps, ts, S, eft⟩ := id SA
  have m : Tells TT H (if vs.length ≤ i then [-2] else if j < 1 ∨ 100 < j then [-22] else aSet Kp355.cheapest (dk n vs (zs.set i j)) kd) Q := m
  refine ⟨_, rfl, _, rfl, a, CS, dx, _, _, rfl, S.sa, T.clS, T.sV, rfl, l, _, rfl, .inl (SqL.of S.sl), _, _, rfl, rfl, _, rfl, ?_⟩
  rw [List.length_map, S.V.pl]
  refine ite2 (fun c => ?_) (fun c => ?_)
  · rw [if_pos (by have := of_decide_eq_true c; omega)] at m
    exact ⟨by show 1 ≤ sizeLine; decide, fun p hp => m.new (ExtN.refl H) hT hp rfl⟩
  have c' : ¬ vs.length ≤ i := fun g => c (decide_eq_true (by omega))
  rw [if_neg c'] at m
  have hi' : i < vs.length := by omega
  have hv : vs[i]? = some vs[i] := List.getElem?_eq_getElem hi'
  obtain ⟨p, t, z, h1, h2, h3, ⟨dv, h4⟩, h5⟩ := S.V.at_ i vs[i] hv
  refine ⟨_, rfl, j, rfl, _, rfl, ?_⟩
  cases ct : okTrust j with
  | false =>
    rw [if_pos (okTrust_no.mp ct)] at m
    exact ⟨by show 1 ≤ sizeLine; decide, fun p hp => m.new (ExtN.refl H) hT hp rfl⟩
  | true =>
    have no : ¬ (j < 1 ∨ 100 < j) := fun g => by rw [okTrust_no.mpr g] at ct; cases ct
    rw [if_neg no] at m
    have W2 : Wg n vs (zs.set i j) := W.trust (by omega)
    refine ⟨_, rfl, _, rfl, _, rfl, a, CS, dx, _, _, rfl, S.sa, T.clS, T.sV, rfl, _, rfl, l, _, _, _, rfl, rfl, SqL.of S.sl, at_ref h1, p, CV, dv, _, _, rfl, h4, T.clV, T.vT, rfl, _, rfl, ?_⟩
    refine ⟨a, t, n, vs, zs, ft, i, j, (vs[i]).table, rfl, h5, SA, W.toWf, hi', fun H1 b fb s1 SB => ?_⟩
    rw [getD_at hv, set_self hv] at SB
    exact ⟨_, rfl, b, n, vs, zs.set i j, fb, kd, rfl, SB, W2, k2, hT.ext s1, m.later (ExtN.of s1)⟩
end
end Dv
end
section
set_option Elab.async false
set_option maxRecDepth 100000
set_option maxHeartbeats 4000000
set_option exponentiation.threshold 2000
namespace Dv
open PySem PySem.Spec PyProof.Rows L2 LamX NdefX MinK
open Kp351 (setOf View total)

/-! ### which question it is -/
inductive AskAll : Int → Nat → Kp355.Call → Prop
  | c8 (k : Nat) : AskAll 8 k (.conflicts k)
  | c9 (k : Nat) : AskAll 9 k (.fewest k)
  | c10 (k : Nat) : AskAll 10 k (.cheapest k)
  | c11 (k : Nat) : AskAll 11 k (.ways k)
  | c12 (k : Nat) : AskAll 12 k (.never k)
  | c13 (k : Nat) : AskAll 13 k (.always k)
  | c18 (k : Nat) : AskAll 18 k (.kept k)
inductive AskSome : Int → Nat → List Int → Kp355.Call → Prop
  | c7 (k s : Nat) : AskSome 7 k [(s : Int)] (.together k s)
  | c14 (k i : Nat) : AskSome 14 k [(i : Int)] (.blame k i)
  | c15 (k s : Nat) : AskSome 15 k [(s : Int)] (.enough k s)
  | c16 (k i : Nat) (row : List Nat) : AskSome 16 k ((i : Int) :: row.map fun (x : Nat) => (x : Int)) (.ifTable k i row)
  | c17 (k i j : Nat) : AskSome 17 k [(i : Int), (j : Int)] (.ifTrust k i j)
section
variable {n : Nat} {vs : List View} {zs : List Nat}
theorem AskAll.no (W : Wg n vs zs) {p : Int} {k : Nat} {x : Kp355.Call} (h : AskAll p k x) (c : 2 < k) : ansOf (dk n vs zs) x = [-22] := by
  cases h
  · rw [due_conflicts, if_pos c]
  · rw [due_fewest, if_pos c]
  · rw [due_cheapest, if_pos c]
  · rw [due_ways, if_pos c]
  · rw [due_never, if_pos c]
  · rw [due_always, if_pos c]
  · rw [due_kept, if_pos c]
theorem AskSome.no (W : Wg n vs zs) {p : Int} {k : Nat} {l : List Int} {x : Kp355.Call} (h : AskSome p k l x) (c : 2 < k) : ansOf (dk n vs zs) x = [-22] := by
  cases h
  · rw [due_together, if_pos (.inl c)]
  · rw [due_blame, if_pos c]
  · rw [due_enough, if_pos (.inl c)]
  · rw [due_iftable W, if_pos c]
  · rw [due_iftrust, if_pos c]
end
theorem AskSome.more {p : Int} {k : Nat} {l : List Int} {x : Kp355.Call} (h : AskSome p k l x) : l ≠ [] := by
  cases h <;> simp
theorem asked_kind {p : Int} {ns : List Int} {x : Kp355.Call} (h : Asked p ns x) (h7 : 7 ≤ p) (h19 : p ≠ 19) : ∃ (k : Nat) (l : List Int), ns = (k : Int) :: l ∧ ((l = [] ∧ AskAll p k x) ∨ AskSome p k l x) := by
  cases h with
  | c7 a b => exact ⟨a, _, rfl, .inr (.c7 a b)⟩
  | c8 a => exact ⟨a, _, rfl, .inl ⟨rfl, .c8 a⟩⟩
  | c9 a => exact ⟨a, _, rfl, .inl ⟨rfl, .c9 a⟩⟩
  | c10 a => exact ⟨a, _, rfl, .inl ⟨rfl, .c10 a⟩⟩
  | c11 a => exact ⟨a, _, rfl, .inl ⟨rfl, .c11 a⟩⟩
  | c12 a => exact ⟨a, _, rfl, .inl ⟨rfl, .c12 a⟩⟩
  | c13 a => exact ⟨a, _, rfl, .inl ⟨rfl, .c13 a⟩⟩
  | c14 a b => exact ⟨a, _, rfl, .inr (.c14 a b)⟩
  | c15 a b => exact ⟨a, _, rfl, .inr (.c15 a b)⟩
  | c16 a b l => exact ⟨a, _, rfl, .inr (.c16 a b l)⟩
  | c17 a b c => exact ⟨a, _, rfl, .inr (.c17 a b c)⟩
  | c18 a => exact ⟨a, _, rfl, .inl ⟨rfl, .c18 a⟩⟩
  | c19 a => exact absurd rfl h19
  | _ => omega
def spOfAll (TT : List (Addr × Str)) (CS CV : Addr) : Sp := fun us H Q _ => ∃ (a : Addr) (p : Int) (n : Nat) (vs : List View) (zs : List Nat) (ft : List Addr) (k : Nat) (x : Kp355.Call), us = [.ref a, .int p, .int k] ∧ StA CS CV H a n vs zs ft ∧ Wg n vs zs ∧ k ≤ 2 ∧ Tabs TT H ∧ AskAll p k x ∧ Tells TT H (ansOf (dk n vs zs) x) Q
def spOfSome (TT : List (Addr × Str)) (CS CV : Addr) : Sp := fun us H Q _ => ∃ (a : Addr) (p : Int) (q : Addr) (n : Nat) (vs : List View) (zs : List Nat) (ft : List Addr) (k : Nat) (ns : List Int) (x : Kp355.Call), us = [.ref a, .int p, .int k, .ref q] ∧ H q = some (.lst (aV ns)) ∧ StA CS CV H a n vs zs ft ∧ Wg n vs zs ∧ k ≤ 2 ∧ Tabs TT H ∧ AskSome p k ns x ∧ Tells TT H (ansOf (dk n vs zs) x) Q

section
variable {P : Program} {w : World} {K : PySem.W.Frag} {mg : Str → Option Value} {base : Heap} {CS CV : Addr} {TT : List (Addr × Str)}
abbrev s_answer_of_all : Stmt := top 82
theorem sc_answer_of_all : FnScope ["state", "call", "kind"] ["state", "call", "kind"] (defScope s_answer_of_all) := ⟨rfl, rfl, rfl, by decide +kernel, rfl, by decide +kernel, by decide +kernel⟩
theorem ok_answer_of_all {f f1 f2 f3 f4 f5 f6 f7 : Addr} {fd fd1 fd2 fd3 fd4 fd5 fd6 fd7 : FuncData} (F : Fun K "answer_of_all" "answer_of_all" s_answer_of_all f fd)
    (c_ask_conflicts : Cal P w K mg base "ask_conflicts" 8 ["state", "kind"] (spA1 TT CS CV (aRow Kp355.conflicts)) f1 fd1) (c_ask_fewest : Cal P w K mg base "ask_fewest" 9 ["state", "kind"] (spA1 TT CS CV (aSet Kp355.fewest)) f2 fd2)
    (c_ask_cheapest : Cal P w K mg base "ask_cheapest" 9 ["state", "kind"] (spA1 TT CS CV (aSet Kp355.cheapest)) f3 fd3) (c_ask_ways : Cal P w K mg base "ask_ways" 9 ["state", "kind"] (spA1 TT CS CV (aRow Kp355.ways)) f4 fd4)
    (c_ask_never : Cal P w K mg base "ask_never" 9 ["state", "kind"] (spA1 TT CS CV (aRow Kp355.never)) f5 fd5) (c_ask_always : Cal P w K mg base "ask_always" 10 ["state", "kind"] (spA1 TT CS CV (aRow Kp355.always)) f6 fd6)
    (c_ask_kept : Cal P w K mg base "ask_kept" 9 ["state", "kind"] (spA1 TT CS CV (aRow keptOf)) f7 fd7) :
    FnOk P w K mg base CX0 11 f fd ["state", "call", "kind"] (spOfAll TT CS CV) := by
  refine F.ok sc_answer_of_all (fun vs H Q E h => ?_) (fun cdv A outer s H vs Q E hr h => ?_)
  · obtain ⟨a, p, n, vs, zs, ft, k, x, rfl, _⟩ := h; rfl
  obtain ⟨a, p, n, vs, zs, ft, k, x, rfl, SA, W, k2, hT, AK, m⟩ := h
  refine ⟨_, (pss_cons (ps_if (pt_cmpR op_eq (pv 1) pe_int (nomark _)) (pss_one (ps_ret (pe_call c_ask_conflicts.ok (hr.mono (by decide)) rfl c_ask_conflicts.mg c_ask_conflicts.kp c_ask_conflicts.b .nil pass0 (pa_cons (pv 0) (pa_cons (pv 2) pa_nil))))) pss_nil)
        (pss_cons (ps_if (pt_cmpR op_eq (pv 1) pe_int (nomark _)) (pss_one (ps_ret (pe_call c_ask_fewest.ok (hr.mono (by decide)) rfl c_ask_fewest.mg c_ask_fewest.kp c_ask_fewest.b .nil pass0 (pa_cons (pv 0) (pa_cons (pv 2) pa_nil))))) pss_nil)
        (pss_cons (ps_if (pt_cmpR op_eq (pv 1) pe_int (nomark _)) (pss_one (ps_ret (pe_call c_ask_cheapest.ok (hr.mono (by decide)) rfl c_ask_cheapest.mg c_ask_cheapest.kp c_ask_cheapest.b .nil pass0 (pa_cons (pv 0) (pa_cons (pv 2) pa_nil))))) pss_nil)
        (pss_cons (ps_if (pt_cmpR op_eq (pv 1) pe_int (nomark _)) (pss_one (ps_ret (pe_call c_ask_ways.ok (hr.mono (by decide)) rfl c_ask_ways.mg c_ask_ways.kp c_ask_ways.b .nil pass0 (pa_cons (pv 0) (pa_cons (pv 2) pa_nil))))) pss_nil)
        (pss_cons (ps_if (pt_cmpR op_eq (pv 1) pe_int (nomark _)) (pss_one (ps_ret (pe_call c_ask_never.ok (hr.mono (by decide)) rfl c_ask_never.mg c_ask_never.kp c_ask_never.b .nil pass0 (pa_cons (pv 0) (pa_cons (pv 2) pa_nil))))) pss_nil)
        (pss_cons (ps_if (pt_cmpR op_eq (pv 1) pe_int (nomark _)) (pss_one (ps_ret (pe_call c_ask_always.ok (hr.mono (by decide)) rfl c_ask_always.mg c_ask_always.kp c_ask_always.b .nil pass0 (pa_cons (pv 0) (pa_cons (pv 2) pa_nil))))) pss_nil)
        (pss_one (ps_ret (pe_call c_ask_kept.ok (hr.mono (by decide)) rfl c_ask_kept.mg c_ask_kept.kp c_ask_kept.b .nil pass0 (pa_cons (pv 0) (pa_cons (pv 2) pa_nil))))))))))), ?_⟩
  have nk : ¬ 2 < k := by omega
  refine ⟨_, rfl, rfl, _, rfl, ?_⟩
  cases AK with
  | c8 =>
    rw [due_conflicts, if_neg nk] at m
    exact iteT ⟨_, rfl, _, rfl, a, n, vs, zs, ft, k, rfl, SA, W, k2, hT, m⟩
  | c9 =>
    rw [due_fewest, if_neg nk] at m
    refine iteF ⟨_, rfl, rfl, _, rfl, iteT ?_⟩
    exact ⟨_, rfl, _, rfl, a, n, vs, zs, ft, k, rfl, SA, W, k2, hT, m⟩
  | c10 =>
    rw [due_cheapest, if_neg nk] at m
    refine iteF ⟨_, rfl, rfl, _, rfl, iteF ?_⟩
    refine ⟨_, rfl, rfl, _, rfl, iteT ?_⟩
    exact ⟨_, rfl, _, rfl, a, n, vs, zs, ft, k, rfl, SA, W, k2, hT, m⟩
  | c11 =>
    rw [due_ways, if_neg nk] at m
    refine iteF ⟨_, rfl, rfl, _, rfl, iteF ?_⟩
    refine ⟨_, rfl, rfl, _, rfl, iteF ?_⟩
    refine ⟨_, rfl, rfl, _, rfl, iteT ?_⟩
    exact ⟨_, rfl, _, rfl, a, n, vs, zs, ft, k, rfl, SA, W, k2, hT, m⟩
  | c12 =>
    rw [due_never, if_neg nk] at m
    refine iteF ⟨_, rfl, rfl, _, rfl, iteF ?_⟩
    refine ⟨_, rfl, rfl, _, rfl, iteF ?_⟩
    refine ⟨_, rfl, rfl, _, rfl, iteF ?_⟩
    refine ⟨_, rfl, rfl, _, rfl, iteT ?_⟩
    exact ⟨_, rfl, _, rfl, a, n, vs, zs, ft, k, rfl, SA, W, k2, hT, m⟩
  | c13 =>
    rw [due_always, if_neg nk] at m
    refine iteF ⟨_, rfl, rfl, _, rfl, iteF ?_⟩
    refine ⟨_, rfl, rfl, _, rfl, iteF ?_⟩
    refine ⟨_, rfl, rfl, _, rfl, iteF ?_⟩
    refine ⟨_, rfl, rfl, _, rfl, iteF ?_⟩
    refine ⟨_, rfl, rfl, _, rfl, iteT ?_⟩
    exact ⟨_, rfl, _, rfl, a, n, vs, zs, ft, k, rfl, SA, W, k2, hT, m⟩
  | c18 =>
    rw [due_kept, if_neg nk] at m
    refine iteF ⟨_, rfl, rfl, _, rfl, iteF ?_⟩
    refine ⟨_, rfl, rfl, _, rfl, iteF ?_⟩
    refine ⟨_, rfl, rfl, _, rfl, iteF ?_⟩
    refine ⟨_, rfl, rfl, _, rfl, iteF ?_⟩
    refine ⟨_, rfl, rfl, _, rfl, iteF ?_⟩
    exact ⟨_, rfl, _, rfl, a, n, vs, zs, ft, k, rfl, SA, W, k2, hT, m⟩
theorem cut_1 (b : Nat) (row : List Nat) : cutV (aV ((b : Int) :: row.map fun (x : Nat) => (x : Int))) (some 1) none = nV row := by
  unfold cutV
  rw [show (1 : Int) = ((1 : Nat) : Int) by rfl, HT.sIx_nat, HT.sIx_none, nV_ints]
  unfold aV
  simp
  exact List.take_of_length_le (by simp)
theorem cut_2 (b : Int) (l : List Int) : cutV (aV (b :: l)) (some 1) none = aV l := by
  unfold cutV
  rw [show (1 : Int) = ((1 : Nat) : Int) by rfl, HT.sIx_nat, HT.sIx_none]
  unfold aV
  simp
  exact List.take_of_length_le (by simp)
abbrev s_answer_of_some : Stmt := top 83
theorem sc_answer_of_some : FnScope ["state", "call", "kind", "numbers"] ["state", "call", "kind", "numbers"] (defScope s_answer_of_some) := ⟨rfl, rfl, rfl, by decide +kernel, rfl, by decide +kernel, by decide +kernel⟩
theorem ok_answer_of_some {f f1 f2 f3 f4 f5 : Addr} {fd fd1 fd2 fd3 fd4 fd5 : FuncData} (F : Fun K "answer_of_some" "answer_of_some" s_answer_of_some f fd)
    (c_ask_together : Cal P w K mg base "ask_together" 6 ["state", "kind", "number"] (spA2 TT CS CV (aYes Kp355.together)) f1 fd1) (c_ask_blame : Cal P w K mg base "ask_blame" 8 ["state", "kind", "place"] (spA2 TT CS CV aBlame) f2 fd2)
    (c_ask_enough : Cal P w K mg base "ask_enough" 7 ["state", "kind", "number"] (spA2 TT CS CV (aYes Kp355.enough)) f3 fd3) (c_ask_if_table : Cal P w K mg base "ask_if_table" 10 ["state", "kind", "place", "row"] (spAT TT CS CV aIfTable) f4 fd4)
    (c_ask_if_trust : Cal P w K mg base "ask_if_trust" 10 ["state", "kind", "place", "trust"] (spA3 TT CS CV aIfTrust) f5 fd5) :
    FnOk P w K mg base CX0 11 f fd ["state", "call", "kind", "numbers"] (spOfSome TT CS CV) := by
  refine F.ok sc_answer_of_some (fun vs H Q E h => ?_) (fun cdv A outer s H vs Q E hr h => ?_)
  · obtain ⟨a, p, q, n, vs, zs, ft, k, ns, x, rfl, _⟩ := h; rfl
  obtain ⟨a, p, q, n, vs, zs, ft, k, ns, x, rfl, hq, SA, W, k2, hT, AK, m⟩ := h
  refine ⟨_, (pss_cons (ps_if (pt_cmpR op_eq (pv 1) pe_int (nomark _)) (pss_one (ps_ret (pe_call c_ask_together.ok (hr.mono (by decide)) rfl c_ask_together.mg c_ask_together.kp c_ask_together.b .nil pass0 (pa_cons (pv 0) (pa_cons (pv 2) (pa_cons (pe_ix (r := rIxL K) ix_list (pv 3) pe_int (fun _ _ => rfl)) pa_nil)))))) pss_nil)
        (pss_cons (ps_if (pt_cmpR op_eq (pv 1) pe_int (nomark _)) (pss_one (ps_ret (pe_call c_ask_blame.ok (hr.mono (by decide)) rfl c_ask_blame.mg c_ask_blame.kp c_ask_blame.b .nil pass0 (pa_cons (pv 0) (pa_cons (pv 2) (pa_cons (pe_ix (r := rIxL K) ix_list (pv 3) pe_int (fun _ _ => rfl)) pa_nil)))))) pss_nil)
        (pss_cons (ps_if (pt_cmpR op_eq (pv 1) pe_int (nomark _)) (pss_one (ps_ret (pe_call c_ask_enough.ok (hr.mono (by decide)) rfl c_ask_enough.mg c_ask_enough.kp c_ask_enough.b .nil pass0 (pa_cons (pv 0) (pa_cons (pv 2) (pa_cons (pe_ix (r := rIxL K) ix_list (pv 3) pe_int (fun _ _ => rfl)) pa_nil)))))) pss_nil)
        (pss_cons (ps_if (pt_cmpR op_eq (pv 1) pe_int (nomark _)) (pss_one (ps_ret (pe_call c_ask_if_table.ok (hr.mono (by decide)) rfl c_ask_if_table.mg c_ask_if_table.kp c_ask_if_table.b .nil pass0 (pa_cons (pv 0) (pa_cons (pv 2) (pa_cons (pe_ix (r := rIxL K) ix_list (pv 3) pe_int (fun _ _ => rfl)) (pa_cons (pe_slice sl_list (pv 3) (po_some pe_int) po_none) pa_nil))))))) pss_nil)
        (pss_one (ps_ret (pe_call c_ask_if_trust.ok (hr.mono (by decide)) rfl c_ask_if_trust.mg c_ask_if_trust.kp c_ask_if_trust.b .nil pass0 (pa_cons (pv 0) (pa_cons (pv 2) (pa_cons (pe_ix (r := rIxL K) ix_list (pv 3) pe_int (fun _ _ => rfl)) (pa_cons (pe_ix (r := rIxL K) ix_list (pv 3) pe_int (fun _ _ => rfl)) pa_nil))))))))))), ?_⟩
  have nk : ¬ 2 < k := by omega
  refine ⟨_, rfl, rfl, _, rfl, ?_⟩
  cases AK with
  | c7 _ i =>
    have e : ansOf (dk n vs zs) (.together k i) = aYes Kp355.together (dk n vs zs) k i := by
      rw [due_together]
      by_cases c : 2 ^ vs.length ≤ i
      · rw [if_pos (.inr c)]; exact (if_pos c).symm
      · rw [if_neg (fun g => g.elim nk c)]; exact (if_neg c).symm
    rw [e] at m
    refine iteT ⟨_, rfl, _, rfl, _, rfl, q, _, _, _, rfl, rfl, SqL.of hq, aV0, ?_⟩
    exact ⟨a, n, vs, zs, ft, k, i, rfl, SA, W, k2, hT, m⟩
  | c14 _ i =>
    rw [due_blame, if_neg nk] at m
    refine iteF ⟨_, rfl, rfl, _, rfl, iteT ?_⟩
    refine ⟨_, rfl, _, rfl, _, rfl, q, _, _, _, rfl, rfl, SqL.of hq, aV0, ?_⟩
    exact ⟨a, n, vs, zs, ft, k, i, rfl, SA, W, k2, hT, m⟩
  | c15 _ i =>
    have e : ansOf (dk n vs zs) (.enough k i) = aYes Kp355.enough (dk n vs zs) k i := by
      rw [due_enough]
      by_cases c : 2 ^ vs.length ≤ i
      · rw [if_pos (.inr c)]; exact (if_pos c).symm
      · rw [if_neg (fun g => g.elim nk c)]; exact (if_neg c).symm
    rw [e] at m
    refine iteF ⟨_, rfl, rfl, _, rfl, iteF ?_⟩
    refine ⟨_, rfl, rfl, _, rfl, iteT ?_⟩
    refine ⟨_, rfl, _, rfl, _, rfl, q, _, _, _, rfl, rfl, SqL.of hq, aV0, ?_⟩
    exact ⟨a, n, vs, zs, ft, k, i, rfl, SA, W, k2, hT, m⟩
  | c16 _ i row =>
    rw [due_iftable W, if_neg nk] at m
    refine iteF ⟨_, rfl, rfl, _, rfl, iteF ?_⟩
    refine ⟨_, rfl, rfl, _, rfl, iteF ?_⟩
    refine ⟨_, rfl, rfl, _, rfl, iteT ?_⟩
    refine ⟨_, rfl, _, rfl, _, rfl, q, _, _, _, rfl, rfl, SqL.of hq, aV0, _, rfl, _, rfl, q, _, rfl, SqL.of hq, fun q2 hq2 => ?_⟩
    rw [cut_1]
    have s2 : Same H (upd H q2 (.lst (nV row))) := same_new (Same.refl H) hq2
    exact ⟨a, q2, n, vs, zs, ft, k, i, row, rfl, upd_same, SA.same s2, W, k2, hT.ext s2, m.later (ExtN.of s2)⟩
  | c17 _ i j =>
    rw [due_iftrust, if_neg nk] at m
    refine iteF ⟨_, rfl, rfl, _, rfl, iteF ?_⟩
    refine ⟨_, rfl, rfl, _, rfl, iteF ?_⟩
    refine ⟨_, rfl, rfl, _, rfl, iteF ?_⟩
    refine ⟨_, rfl, _, rfl, _, rfl, q, _, _, _, rfl, rfl, SqL.of hq, aV0, _, rfl, q, _, _, _, rfl, rfl, SqL.of hq, aV1, ?_⟩
    exact ⟨a, n, vs, zs, ft, k, i, j, rfl, SA, W, k2, hT, m⟩
abbrev s_answer_question : Stmt := top 81
theorem sc_answer_question : FnScope ["state", "call", "numbers", "kind"] ["state", "call", "numbers"] (defScope s_answer_question) := ⟨rfl, rfl, rfl, by decide +kernel, rfl, by decide +kernel, by decide +kernel⟩
theorem ok_answer_question {f f1 f2 f3 : Addr} {fd fd1 fd2 fd3 : FuncData} (F : Fun K "answer_question" "answer_question" s_answer_question f fd) (T : Txt K mg CS CV)
    (c_ask_cost : Cal P w K mg base "ask_cost" 4 ["state", "number"] (spA0 TT CS CV aCost) f1 fd1) (c_answer_of_all : Cal P w K mg base "answer_of_all" 11 ["state", "call", "kind"] (spOfAll TT CS CV) f2 fd2)
    (c_answer_of_some : Cal P w K mg base "answer_of_some" 11 ["state", "call", "kind", "numbers"] (spOfSome TT CS CV) f3 fd3) : FnOk P w K mg base CX0 12 f fd ["state", "call", "numbers"] (spCallOn TT CS CV PlQ) := by
  refine F.ok sc_answer_question (fun vs H Q E h => ?_) (fun cdv A outer s H vs Q E hr h => ?_)
  · obtain ⟨a, p, q, st, n, vs, zs, ft, ns, x, rfl, _⟩ := h; rfl
  obtain ⟨a, p, q, st, n, vs, zs, ft, ns, x, rfl, ⟨p7, n0⟩, hq, SA, nq, AS, AB, hT, k⟩ := h
  refine ⟨_, (pss_cons (ps_if (pt_cmpR op_eq (pv 1) pe_int (nomark _)) (pss_one (ps_ret (pe_call c_ask_cost.ok (hr.mono (by decide)) rfl c_ask_cost.mg c_ask_cost.kp c_ask_cost.b .nil pass0 (pa_cons (pv 0) (pa_cons (pe_ix (r := rIxL K) ix_list (pv 2) pe_int (fun _ _ => rfl)) pa_nil))))) pss_nil)
        (pss_cons (ps_set (i := 3) sc_answer_question.nd rfl (Or.inl rfl) (pe_ix (r := rIxL K) ix_list (pv 2) pe_int (fun _ _ => rfl)))
        (pss_cons (ps_if (pt_cmpR op_gt (pv 3) (pe_glob (v := .int (2)) rfl T.g_HIGHEST_KIND.choose_spec ⟨_, rfl⟩) (nomark _)) (pss_one (ps_ret (pe_lst (pa_cons (pe_glob (v := .int (-22)) rfl T.g_WRONG.choose_spec ⟨_, rfl⟩) pa_nil)))) pss_nil)
        (pss_cons (ps_if (pt_cmpR op_eq (pe_callB call_len_seq (by rfl) T.len (by decide +kernel) (pa_cons (pv 2) pa_nil)) pe_int (nomark _)) (pss_one (ps_ret (pe_call c_answer_of_all.ok (hr.mono (by decide)) rfl c_answer_of_all.mg c_answer_of_all.kp c_answer_of_all.b .nil pass0 (pa_cons (pv 0) (pa_cons (pv 1) (pa_cons (pv 3) pa_nil)))))) pss_nil)
        (pss_one (ps_ret (pe_call c_answer_of_some.ok (hr.mono (by decide)) rfl c_answer_of_some.mg c_answer_of_some.kp c_answer_of_some.b .nil pass0 (pa_cons (pv 0) (pa_cons (pv 1) (pa_cons (pv 3) (pa_cons (pe_slice sl_list (pv 2) (po_some pe_int) po_none) pa_nil))))))))))), ?_⟩
  obtain ⟨rfl, n2, W⟩ := AB.some n0
  have m := (k _ (goes_question n2 W AS p7)).tells SA
  refine ⟨_, rfl, rfl, _, rfl, ?_⟩
  refine ite2 (fun c => ?_) (fun c => ?_)
  · have e := int_eq.mp c
    subst e
    cases AS with
    | c19 b hb =>
      rw [due_cost] at m
      refine ⟨_, rfl, _, rfl, q, _, _, _, rfl, rfl, SqL.of hq, aV0, ?_⟩
      exact ⟨a, n, vs, zs, ft, b, rfl, SA, W, hT, m⟩
  obtain ⟨kd, l, rfl, AK⟩ := asked_kind AS p7 (fun g => c (int_eq.mpr g))
  -- kind = numbers[0]
  refine ⟨_, rfl, q, _, _, _, rfl, rfl, SqL.of hq, aV0, ?_⟩
  refine ⟨_, rfl, _, _, rfl, rfl, _, rfl, ?_⟩
  refine ite2 (fun c2 => ?_) (fun c2 => ?_)
  · have g : 2 < kd := by have := of_decide_eq_true c2; omega
    have e : ansOf (dk n vs zs) x = [-22] := AK.elim (fun z => z.2.no W g) fun z => z.no W g
    rw [e] at m
    exact ⟨by show 1 ≤ sizeLine; decide, fun p hp => m.new (ExtN.refl H) hT hp rfl⟩
  have k2 : kd ≤ 2 := by
    have : ¬ (kd : Int) > 2 := fun g => c2 (decide_eq_true g)
    omega
  refine ⟨_, rfl, q, _, rfl, .inl (SqL.of hq), rfl, _, rfl, ?_⟩
  rw [aV_len]
  rcases AK with ⟨rfl, AK⟩ | AK
  · refine iteT ?_
    exact ⟨_, rfl, _, rfl, _, rfl, a, p, n, vs, zs, ft, kd, x, rfl, SA, W, k2, hT, AK, m⟩
  · have ne := AK.more
    refine ite2 (fun c3 => ?_) (fun _ => ?_)
    · exact absurd (List.length_eq_zero_iff.mp (by have := int_eq.mp c3; simp at this; omega)) ne
    refine ⟨_, rfl, _, rfl, _, rfl, _, rfl, _, rfl, q, _, rfl, SqL.of hq, fun q2 hq2 => ?_⟩
    rw [cut_2]
    have s2 : Same H (upd H q2 (.lst (aV l))) := same_new (Same.refl H) hq2
    exact ⟨a, p, q2, n, vs, zs, ft, kd, l, x, rfl, upd_same, SA.same s2, W, k2, hT.ext s2, AK, m.later (ExtN.of s2)⟩
end
end Dv
end
section
set_option Elab.async false
set_option maxRecDepth 100000
set_option maxHeartbeats 4000000
set_option exponentiation.threshold 2000
namespace Dv
open PySem PySem.Spec PyProof.Rows L2 LamX NdefX MinK
open PySem.W (Codec)
theorem tab_in {K : PySem.W.Frag} {x : Str} {f c P : Addr} {oc e : Value} {od dd : Option Addr} {fd : FuncData} {sl sl2 : Array (Option Value)} {vs : Array Value} (h1 : PySem.W.nsIn K mainGlobals x = some (some (.ref f))) (h2 : K.lookup f = some ⟨oc, od, .func fd, sl⟩) (h3 : fd.code = .ref c) (h4 : K.lookup c = some ⟨e, dd, .fields vs, sl2⟩) (h5 : vs[11]? = some (.ref P)) : PySem.W.tabIn K x = some (c, P) := by
  unfold PySem.W.tabIn
  rw [h1]
  dsimp only
  rw [h2]
  dsimp only
  rw [h3]
  dsimp only
  rw [h4]
  dsimp only
  rw [h5]
set_option maxHeartbeats 0 in
theorem all_mk {P : Program} {w : World} {K : PySem.W.Frag} {h : Heap} {mg : Str → Option Value} {fa : Addr} {qv : Program} (X : K.In h) (G : h.Ns mainGlobals mg) (hfa : mg "answers" = some (.ref fa))
    (TB : ∀ (x : Str) (e : DefRec) (c P : Addr), (recsOf qv).find? (fun e => e.name == x) = some e → PySem.W.tabIn K x = some (c, P) → PySem.W.CodeHd h c P ∧ h.get? P = some { cls := .none, data := .fields #[] })
    {C_View f_View : Addr} {od_View an_View : Option Addr} {sl_View : Array (Option Value)} {oc_View kV_View dc_View pm_View cd_View ct_View : Value}
    {C_State f_State : Addr} {od_State an_State : Option Addr} {sl_State : Array (Option Value)} {oc_State kV_State dc_State pm_State cd_State ct_State : Value}
    {f_members : Addr} {od_members an_members : Option Addr} {sl_members : Array (Option Value)} {oc_members kV_members dc_members pm_members ct_members : Value} {cd_members : Value}
    {f_parts : Addr} {od_parts an_parts : Option Addr} {sl_parts : Array (Option Value)} {oc_parts kV_parts dc_parts pm_parts ct_parts : Value} {cd_parts : Value}
    {f_shown_row : Addr} {od_shown_row an_shown_row : Option Addr} {sl_shown_row : Array (Option Value)} {oc_shown_row kV_shown_row dc_shown_row pm_shown_row ct_shown_row : Value} {cd_shown_row : Value}
    {f_chosen : Addr} {od_chosen an_chosen : Option Addr} {sl_chosen : Array (Option Value)} {oc_chosen kV_chosen dc_chosen pm_chosen ct_chosen : Value} {cd_chosen : Value}
    {f_begin : Addr} {od_begin an_begin : Option Addr} {sl_begin : Array (Option Value)} {oc_begin kV_begin dc_begin pm_begin ct_begin : Value} {cd_begin : Value}
    {f_add_view : Addr} {od_add_view an_add_view : Option Addr} {sl_add_view : Array (Option Value)} {oc_add_view kV_add_view dc_add_view pm_add_view ct_add_view : Value} {cd_add_view : Value}
    {f_drop_view : Addr} {od_drop_view an_drop_view : Option Addr} {sl_drop_view : Array (Option Value)} {oc_drop_view kV_drop_view dc_drop_view pm_drop_view ct_drop_view : Value} {cd_drop_view : Value}
    {f_is_table : Addr} {od_is_table an_is_table : Option Addr} {sl_is_table : Array (Option Value)} {oc_is_table kV_is_table dc_is_table pm_is_table ct_is_table : Value} {cd_is_table : Value}
    {f_put_table : Addr} {od_put_table an_put_table : Option Addr} {sl_put_table : Array (Option Value)} {oc_put_table kV_put_table dc_put_table pm_put_table ct_put_table : Value} {cd_put_table : Value}
    {f_tell_view : Addr} {od_tell_view an_tell_view : Option Addr} {sl_tell_view : Array (Option Value)} {oc_tell_view kV_tell_view dc_tell_view pm_tell_view ct_tell_view : Value} {cd_tell_view : Value}
    {f_is_trust : Addr} {od_is_trust an_is_trust : Option Addr} {sl_is_trust : Array (Option Value)} {oc_is_trust kV_is_trust dc_is_trust pm_is_trust ct_is_trust : Value} {cd_is_trust : Value}
    {f_put_trust : Addr} {od_put_trust an_put_trust : Option Addr} {sl_put_trust : Array (Option Value)} {oc_put_trust kV_put_trust dc_put_trust pm_put_trust ct_put_trust : Value} {cd_put_trust : Value}
    {f_with_other : Addr} {od_with_other an_with_other : Option Addr} {sl_with_other : Array (Option Value)} {oc_with_other kV_with_other dc_with_other pm_with_other ct_with_other : Value} {cd_with_other : Value}
    {f_see_world : Addr} {od_see_world an_see_world : Option Addr} {sl_see_world : Array (Option Value)} {oc_see_world kV_see_world dc_see_world pm_see_world ct_see_world : Value} {cd_see_world : Value}
    {f_is_tighter : Addr} {od_is_tighter an_is_tighter : Option Addr} {sl_is_tighter : Array (Option Value)} {oc_is_tighter kV_is_tighter dc_is_tighter pm_is_tighter ct_is_tighter : Value} {cd_is_tighter : Value}
    {f_first_above_zero : Addr} {od_first_above_zero an_first_above_zero : Option Addr} {sl_first_above_zero : Array (Option Value)} {oc_first_above_zero kV_first_above_zero dc_first_above_zero pm_first_above_zero ct_first_above_zero : Value} {cd_first_above_zero : Value}
    {f_tightest_row : Addr} {od_tightest_row an_tightest_row : Option Addr} {sl_tightest_row : Array (Option Value)} {oc_tightest_row kV_tightest_row dc_tightest_row pm_tightest_row ct_tightest_row : Value} {cd_tightest_row : Value}
    {f_sum_of_rows : Addr} {od_sum_of_rows an_sum_of_rows : Option Addr} {sl_sum_of_rows : Array (Option Value)} {oc_sum_of_rows kV_sum_of_rows dc_sum_of_rows pm_sum_of_rows ct_sum_of_rows : Value} {cd_sum_of_rows : Value}
    {f_exchanged : Addr} {od_exchanged an_exchanged : Option Addr} {sl_exchanged : Array (Option Value)} {oc_exchanged kV_exchanged dc_exchanged pm_exchanged ct_exchanged : Value} {cd_exchanged : Value}
    {f_solvable : Addr} {od_solvable an_solvable : Option Addr} {sl_solvable : Array (Option Value)} {oc_solvable kV_solvable dc_solvable pm_solvable ct_solvable : Value} {cd_solvable : Value}
    {f_shares_of_parts : Addr} {od_shares_of_parts an_shares_of_parts : Option Addr} {sl_shares_of_parts : Array (Option Value)} {oc_shares_of_parts kV_shares_of_parts dc_shares_of_parts pm_shares_of_parts ct_shares_of_parts : Value} {cd_shares_of_parts : Value}
    {f_has_whole : Addr} {od_has_whole an_has_whole : Option Addr} {sl_has_whole : Array (Option Value)} {oc_has_whole kV_has_whole dc_has_whole pm_has_whole ct_has_whole : Value} {cd_has_whole : Value}
    {f_margin : Addr} {od_margin an_margin : Option Addr} {sl_margin : Array (Option Value)} {oc_margin kV_margin dc_margin pm_margin ct_margin : Value} {cd_margin : Value}
    {f_agree : Addr} {od_agree an_agree : Option Addr} {sl_agree : Array (Option Value)} {oc_agree kV_agree dc_agree pm_agree ct_agree : Value} {cd_agree : Value}
    {f_fits : Addr} {od_fits an_fits : Option Addr} {sl_fits : Array (Option Value)} {oc_fits kV_fits dc_fits pm_fits ct_fits : Value} {cd_fits : Value}
    {f_some_world_fits : Addr} {od_some_world_fits an_some_world_fits : Option Addr} {sl_some_world_fits : Array (Option Value)} {oc_some_world_fits kV_some_world_fits dc_some_world_fits pm_some_world_fits ct_some_world_fits : Value} {cd_some_world_fits : Value}
    {f_any_two_agree : Addr} {od_any_two_agree an_any_two_agree : Option Addr} {sl_any_two_agree : Array (Option Value)} {oc_any_two_agree kV_any_two_agree dc_any_two_agree pm_any_two_agree ct_any_two_agree : Value} {cd_any_two_agree : Value}
    {f_can_be_together : Addr} {od_can_be_together an_can_be_together : Option Addr} {sl_can_be_together : Array (Option Value)} {oc_can_be_together kV_can_be_together dc_can_be_together pm_can_be_together ct_can_be_together : Value} {cd_can_be_together : Value}
    {f_parts_can : Addr} {od_parts_can an_parts_can : Option Addr} {sl_parts_can : Array (Option Value)} {oc_parts_can kV_parts_can dc_parts_can pm_parts_can ct_parts_can : Value} {cd_parts_can : Value}
    {f_together_by_set : Addr} {od_together_by_set an_together_by_set : Option Addr} {sl_together_by_set : Array (Option Value)} {oc_together_by_set kV_together_by_set dc_together_by_set pm_together_by_set ct_together_by_set : Value} {cd_together_by_set : Value}
    {f_conflicts : Addr} {od_conflicts an_conflicts : Option Addr} {sl_conflicts : Array (Option Value)} {oc_conflicts kV_conflicts dc_conflicts pm_conflicts ct_conflicts : Value} {cd_conflicts : Value}
    {f_trust_of : Addr} {od_trust_of an_trust_of : Option Addr} {sl_trust_of : Array (Option Value)} {oc_trust_of kV_trust_of dc_trust_of pm_trust_of ct_trust_of : Value} {cd_trust_of : Value}
    {f_answer_change : Addr} {od_answer_change an_answer_change : Option Addr} {sl_answer_change : Array (Option Value)} {oc_answer_change kV_answer_change dc_answer_change pm_answer_change ct_answer_change : Value} {cd_answer_change : Value}
    {f_others_of : Addr} {od_others_of an_others_of : Option Addr} {sl_others_of : Array (Option Value)} {oc_others_of kV_others_of dc_others_of pm_others_of ct_others_of : Value} {cd_others_of : Value}
    {f_is_enough : Addr} {od_is_enough an_is_enough : Option Addr} {sl_is_enough : Array (Option Value)} {oc_is_enough kV_is_enough dc_is_enough pm_is_enough ct_is_enough : Value} {cd_is_enough : Value}
    {f_enough_sets : Addr} {od_enough_sets an_enough_sets : Option Addr} {sl_enough_sets : Array (Option Value)} {oc_enough_sets kV_enough_sets dc_enough_sets pm_enough_sets ct_enough_sets : Value} {cd_enough_sets : Value}
    {f_ways_out : Addr} {od_ways_out an_ways_out : Option Addr} {sl_ways_out : Array (Option Value)} {oc_ways_out kV_ways_out dc_ways_out pm_ways_out ct_ways_out : Value} {cd_ways_out : Value}
    {f_how_many_hold : Addr} {od_how_many_hold an_how_many_hold : Option Addr} {sl_how_many_hold : Array (Option Value)} {oc_how_many_hold kV_how_many_hold dc_how_many_hold pm_how_many_hold ct_how_many_hold : Value} {cd_how_many_hold : Value}
    {f_never_doubted : Addr} {od_never_doubted an_never_doubted : Option Addr} {sl_never_doubted : Array (Option Value)} {oc_never_doubted kV_never_doubted dc_never_doubted pm_never_doubted ct_never_doubted : Value} {cd_never_doubted : Value}
    {f_always_doubted : Addr} {od_always_doubted an_always_doubted : Option Addr} {sl_always_doubted : Array (Option Value)} {oc_always_doubted kV_always_doubted dc_always_doubted pm_always_doubted ct_always_doubted : Value} {cd_always_doubted : Value}
    {f_fewest : Addr} {od_fewest an_fewest : Option Addr} {sl_fewest : Array (Option Value)} {oc_fewest kV_fewest dc_fewest pm_fewest ct_fewest : Value} {cc_fewest PT_fewest : Addr} {e_fewest : Value} {dd_fewest : Option Addr} {ws_fewest : Array Value} {sm_fewest : Array (Option Value)}
    {f_cheapest : Addr} {od_cheapest an_cheapest : Option Addr} {sl_cheapest : Array (Option Value)} {oc_cheapest kV_cheapest dc_cheapest pm_cheapest ct_cheapest : Value} {cc_cheapest PT_cheapest : Addr} {e_cheapest : Value} {dd_cheapest : Option Addr} {ws_cheapest : Array Value} {sm_cheapest : Array (Option Value)}
    {f_is_set_of_views : Addr} {od_is_set_of_views an_is_set_of_views : Option Addr} {sl_is_set_of_views : Array (Option Value)} {oc_is_set_of_views kV_is_set_of_views dc_is_set_of_views pm_is_set_of_views ct_is_set_of_views : Value} {cd_is_set_of_views : Value}
    {f_yes_or_no : Addr} {od_yes_or_no an_yes_or_no : Option Addr} {sl_yes_or_no : Array (Option Value)} {oc_yes_or_no kV_yes_or_no dc_yes_or_no pm_yes_or_no ct_yes_or_no : Value} {cd_yes_or_no : Value}
    {f_counted : Addr} {od_counted an_counted : Option Addr} {sl_counted : Array (Option Value)} {oc_counted kV_counted dc_counted pm_counted ct_counted : Value} {cd_counted : Value}
    {f_doubt_told : Addr} {od_doubt_told an_doubt_told : Option Addr} {sl_doubt_told : Array (Option Value)} {oc_doubt_told kV_doubt_told dc_doubt_told pm_doubt_told ct_doubt_told : Value} {cd_doubt_told : Value}
    {f_ask_together : Addr} {od_ask_together an_ask_together : Option Addr} {sl_ask_together : Array (Option Value)} {oc_ask_together kV_ask_together dc_ask_together pm_ask_together ct_ask_together : Value} {cd_ask_together : Value}
    {f_ask_enough : Addr} {od_ask_enough an_ask_enough : Option Addr} {sl_ask_enough : Array (Option Value)} {oc_ask_enough kV_ask_enough dc_ask_enough pm_ask_enough ct_ask_enough : Value} {cd_ask_enough : Value}
    {f_ask_cost : Addr} {od_ask_cost an_ask_cost : Option Addr} {sl_ask_cost : Array (Option Value)} {oc_ask_cost kV_ask_cost dc_ask_cost pm_ask_cost ct_ask_cost : Value} {cd_ask_cost : Value}
    {f_ask_blame : Addr} {od_ask_blame an_ask_blame : Option Addr} {sl_ask_blame : Array (Option Value)} {oc_ask_blame kV_ask_blame dc_ask_blame pm_ask_blame ct_ask_blame : Value} {cd_ask_blame : Value}
    {f_ask_conflicts : Addr} {od_ask_conflicts an_ask_conflicts : Option Addr} {sl_ask_conflicts : Array (Option Value)} {oc_ask_conflicts kV_ask_conflicts dc_ask_conflicts pm_ask_conflicts ct_ask_conflicts : Value} {cd_ask_conflicts : Value}
    {f_ask_ways : Addr} {od_ask_ways an_ask_ways : Option Addr} {sl_ask_ways : Array (Option Value)} {oc_ask_ways kV_ask_ways dc_ask_ways pm_ask_ways ct_ask_ways : Value} {cd_ask_ways : Value}
    {f_ask_never : Addr} {od_ask_never an_ask_never : Option Addr} {sl_ask_never : Array (Option Value)} {oc_ask_never kV_ask_never dc_ask_never pm_ask_never ct_ask_never : Value} {cd_ask_never : Value}
    {f_ask_always : Addr} {od_ask_always an_ask_always : Option Addr} {sl_ask_always : Array (Option Value)} {oc_ask_always kV_ask_always dc_ask_always pm_ask_always ct_ask_always : Value} {cd_ask_always : Value}
    {f_ask_kept : Addr} {od_ask_kept an_ask_kept : Option Addr} {sl_ask_kept : Array (Option Value)} {oc_ask_kept kV_ask_kept dc_ask_kept pm_ask_kept ct_ask_kept : Value} {cd_ask_kept : Value}
    {f_ask_fewest : Addr} {od_ask_fewest an_ask_fewest : Option Addr} {sl_ask_fewest : Array (Option Value)} {oc_ask_fewest kV_ask_fewest dc_ask_fewest pm_ask_fewest ct_ask_fewest : Value} {cd_ask_fewest : Value}
    {f_ask_cheapest : Addr} {od_ask_cheapest an_ask_cheapest : Option Addr} {sl_ask_cheapest : Array (Option Value)} {oc_ask_cheapest kV_ask_cheapest dc_ask_cheapest pm_ask_cheapest ct_ask_cheapest : Value} {cd_ask_cheapest : Value}
    {f_ask_if_table : Addr} {od_ask_if_table an_ask_if_table : Option Addr} {sl_ask_if_table : Array (Option Value)} {oc_ask_if_table kV_ask_if_table dc_ask_if_table pm_ask_if_table ct_ask_if_table : Value} {cd_ask_if_table : Value}
    {f_ask_if_trust : Addr} {od_ask_if_trust an_ask_if_trust : Option Addr} {sl_ask_if_trust : Array (Option Value)} {oc_ask_if_trust kV_ask_if_trust dc_ask_if_trust pm_ask_if_trust ct_ask_if_trust : Value} {cd_ask_if_trust : Value}
    {f_answer_of_all : Addr} {od_answer_of_all an_answer_of_all : Option Addr} {sl_answer_of_all : Array (Option Value)} {oc_answer_of_all kV_answer_of_all dc_answer_of_all pm_answer_of_all ct_answer_of_all : Value} {cd_answer_of_all : Value}
    {f_answer_of_some : Addr} {od_answer_of_some an_answer_of_some : Option Addr} {sl_answer_of_some : Array (Option Value)} {oc_answer_of_some kV_answer_of_some dc_answer_of_some pm_answer_of_some ct_answer_of_some : Value} {cd_answer_of_some : Value}
    {f_answer_question : Addr} {od_answer_question an_answer_question : Option Addr} {sl_answer_question : Array (Option Value)} {oc_answer_question kV_answer_question dc_answer_question pm_answer_question ct_answer_question : Value} {cd_answer_question : Value}
    {f_answer_call : Addr} {od_answer_call an_answer_call : Option Addr} {sl_answer_call : Array (Option Value)} {oc_answer_call kV_answer_call dc_answer_call pm_answer_call ct_answer_call : Value} {cd_answer_call : Value}
    {f_answers : Addr} {od_answers an_answers : Option Addr} {sl_answers : Array (Option Value)} {oc_answers kV_answers dc_answers pm_answers ct_answers : Value} {cd_answers : Value}
    {t_NO_VIEW : Tok}
    {t_NOT_BEGUN : Tok}
    {t_TAKEN : Tok}
    {t_WRONG : Tok}
    {t_FULL : Tok}
    {t_MOST_VIEWS : Tok}
    {t_MOST_SEEN : Tok}
    {t_MOST_TRUST : Tok}
    {t_HIGHEST_KIND : Tok}
    (aC_View : PySem.W.nsIn K mainGlobals "View" = some (some (.ref C_View)))
    (a_View : PySem.W.findIn K (.ref C_View) "__init__" = some (some (.ref f_View)))
    (i_View : PySem.W.isFn K (.ref f_View) = true)
    (l_View : K.lookup f_View = some ⟨oc_View, od_View, .func (PySem.W.fnOf "__init__" "View.__init__" (defArgs s_View_init) (defBody s_View_init) (defScope s_View_init) .none kV_View dc_View pm_View an_View cd_View ct_View), sl_View⟩)
    (c_View : PySem.W.codeIn K cd_View "View.__init__" = true)
    (k_View : PySem.W.keepIn K (.ref f_View) = true)
    (pg_View : PySem.W.plainGet K C_View Str.empty = true)
    (hd_View : PySem.W.hasDictIn K C_View = true)
    (po_View : PySem.W.plainOver K C_View = true)
    (sa_View : PySem.W.findIn K (.ref C_View) "__setattr__" = some (some (.builtin "object.__setattr__")))
    (mk_View : PySem.W.makesIn K C_View = true)
    (kc_View : PySem.W.keepIn K (.ref C_View) = true)
    (n_View_asked : PySem.W.findIn K (.ref C_View) "asked" = some none)
    (n_View_table : PySem.W.findIn K (.ref C_View) "table" = some none)
    (n_View_trust : PySem.W.findIn K (.ref C_View) "trust" = some none)
    (aC_State : PySem.W.nsIn K mainGlobals "State" = some (some (.ref C_State)))
    (a_State : PySem.W.findIn K (.ref C_State) "__init__" = some (some (.ref f_State)))
    (i_State : PySem.W.isFn K (.ref f_State) = true)
    (l_State : K.lookup f_State = some ⟨oc_State, od_State, .func (PySem.W.fnOf "__init__" "State.__init__" (defArgs s_State_init) (defBody s_State_init) (defScope s_State_init) .none kV_State dc_State pm_State an_State cd_State ct_State), sl_State⟩)
    (c_State : PySem.W.codeIn K cd_State "State.__init__" = true)
    (k_State : PySem.W.keepIn K (.ref f_State) = true)
    (pg_State : PySem.W.plainGet K C_State Str.empty = true)
    (hd_State : PySem.W.hasDictIn K C_State = true)
    (po_State : PySem.W.plainOver K C_State = true)
    (sa_State : PySem.W.findIn K (.ref C_State) "__setattr__" = some (some (.builtin "object.__setattr__")))
    (mk_State : PySem.W.makesIn K C_State = true)
    (kc_State : PySem.W.keepIn K (.ref C_State) = true)
    (n_State_questions : PySem.W.findIn K (.ref C_State) "questions" = some none)
    (n_State_views : PySem.W.findIn K (.ref C_State) "views" = some none)
    (a_members : PySem.W.nsIn K mainGlobals "members" = some (some (.ref f_members)))
    (l_members : K.lookup f_members = some ⟨oc_members, od_members, .func (PySem.W.fnOf "members" "members" (defArgs s_members) (defBody s_members) (defScope s_members) .none kV_members dc_members pm_members an_members cd_members ct_members), sl_members⟩)
    (c_members : PySem.W.codeIn K cd_members "members" = true)
    (k_members : PySem.W.keepIn K (.ref f_members) = true)
    (a_parts : PySem.W.nsIn K mainGlobals "parts" = some (some (.ref f_parts)))
    (l_parts : K.lookup f_parts = some ⟨oc_parts, od_parts, .func (PySem.W.fnOf "parts" "parts" (defArgs s_parts) (defBody s_parts) (defScope s_parts) .none kV_parts dc_parts pm_parts an_parts cd_parts ct_parts), sl_parts⟩)
    (c_parts : PySem.W.codeIn K cd_parts "parts" = true)
    (k_parts : PySem.W.keepIn K (.ref f_parts) = true)
    (a_shown_row : PySem.W.nsIn K mainGlobals "shown_row" = some (some (.ref f_shown_row)))
    (l_shown_row : K.lookup f_shown_row = some ⟨oc_shown_row, od_shown_row, .func (PySem.W.fnOf "shown_row" "shown_row" (defArgs s_shown_row) (defBody s_shown_row) (defScope s_shown_row) .none kV_shown_row dc_shown_row pm_shown_row an_shown_row cd_shown_row ct_shown_row), sl_shown_row⟩)
    (c_shown_row : PySem.W.codeIn K cd_shown_row "shown_row" = true)
    (k_shown_row : PySem.W.keepIn K (.ref f_shown_row) = true)
    (a_chosen : PySem.W.nsIn K mainGlobals "chosen" = some (some (.ref f_chosen)))
    (l_chosen : K.lookup f_chosen = some ⟨oc_chosen, od_chosen, .func (PySem.W.fnOf "chosen" "chosen" (defArgs s_chosen) (defBody s_chosen) (defScope s_chosen) .none kV_chosen dc_chosen pm_chosen an_chosen cd_chosen ct_chosen), sl_chosen⟩)
    (c_chosen : PySem.W.codeIn K cd_chosen "chosen" = true)
    (k_chosen : PySem.W.keepIn K (.ref f_chosen) = true)
    (a_begin : PySem.W.nsIn K mainGlobals "begin" = some (some (.ref f_begin)))
    (l_begin : K.lookup f_begin = some ⟨oc_begin, od_begin, .func (PySem.W.fnOf "begin" "begin" (defArgs s_begin) (defBody s_begin) (defScope s_begin) .none kV_begin dc_begin pm_begin an_begin cd_begin ct_begin), sl_begin⟩)
    (c_begin : PySem.W.codeIn K cd_begin "begin" = true)
    (k_begin : PySem.W.keepIn K (.ref f_begin) = true)
    (a_add_view : PySem.W.nsIn K mainGlobals "add_view" = some (some (.ref f_add_view)))
    (l_add_view : K.lookup f_add_view = some ⟨oc_add_view, od_add_view, .func (PySem.W.fnOf "add_view" "add_view" (defArgs s_add_view) (defBody s_add_view) (defScope s_add_view) .none kV_add_view dc_add_view pm_add_view an_add_view cd_add_view ct_add_view), sl_add_view⟩)
    (c_add_view : PySem.W.codeIn K cd_add_view "add_view" = true)
    (k_add_view : PySem.W.keepIn K (.ref f_add_view) = true)
    (a_drop_view : PySem.W.nsIn K mainGlobals "drop_view" = some (some (.ref f_drop_view)))
    (l_drop_view : K.lookup f_drop_view = some ⟨oc_drop_view, od_drop_view, .func (PySem.W.fnOf "drop_view" "drop_view" (defArgs s_drop_view) (defBody s_drop_view) (defScope s_drop_view) .none kV_drop_view dc_drop_view pm_drop_view an_drop_view cd_drop_view ct_drop_view), sl_drop_view⟩)
    (c_drop_view : PySem.W.codeIn K cd_drop_view "drop_view" = true)
    (k_drop_view : PySem.W.keepIn K (.ref f_drop_view) = true)
    (a_is_table : PySem.W.nsIn K mainGlobals "is_table" = some (some (.ref f_is_table)))
    (l_is_table : K.lookup f_is_table = some ⟨oc_is_table, od_is_table, .func (PySem.W.fnOf "is_table" "is_table" (defArgs s_is_table) (defBody s_is_table) (defScope s_is_table) .none kV_is_table dc_is_table pm_is_table an_is_table cd_is_table ct_is_table), sl_is_table⟩)
    (c_is_table : PySem.W.codeIn K cd_is_table "is_table" = true)
    (k_is_table : PySem.W.keepIn K (.ref f_is_table) = true)
    (a_put_table : PySem.W.nsIn K mainGlobals "put_table" = some (some (.ref f_put_table)))
    (l_put_table : K.lookup f_put_table = some ⟨oc_put_table, od_put_table, .func (PySem.W.fnOf "put_table" "put_table" (defArgs s_put_table) (defBody s_put_table) (defScope s_put_table) .none kV_put_table dc_put_table pm_put_table an_put_table cd_put_table ct_put_table), sl_put_table⟩)
    (c_put_table : PySem.W.codeIn K cd_put_table "put_table" = true)
    (k_put_table : PySem.W.keepIn K (.ref f_put_table) = true)
    (a_tell_view : PySem.W.nsIn K mainGlobals "tell_view" = some (some (.ref f_tell_view)))
    (l_tell_view : K.lookup f_tell_view = some ⟨oc_tell_view, od_tell_view, .func (PySem.W.fnOf "tell_view" "tell_view" (defArgs s_tell_view) (defBody s_tell_view) (defScope s_tell_view) .none kV_tell_view dc_tell_view pm_tell_view an_tell_view cd_tell_view ct_tell_view), sl_tell_view⟩)
    (c_tell_view : PySem.W.codeIn K cd_tell_view "tell_view" = true)
    (k_tell_view : PySem.W.keepIn K (.ref f_tell_view) = true)
    (a_is_trust : PySem.W.nsIn K mainGlobals "is_trust" = some (some (.ref f_is_trust)))
    (l_is_trust : K.lookup f_is_trust = some ⟨oc_is_trust, od_is_trust, .func (PySem.W.fnOf "is_trust" "is_trust" (defArgs s_is_trust) (defBody s_is_trust) (defScope s_is_trust) .none kV_is_trust dc_is_trust pm_is_trust an_is_trust cd_is_trust ct_is_trust), sl_is_trust⟩)
    (c_is_trust : PySem.W.codeIn K cd_is_trust "is_trust" = true)
    (k_is_trust : PySem.W.keepIn K (.ref f_is_trust) = true)
    (a_put_trust : PySem.W.nsIn K mainGlobals "put_trust" = some (some (.ref f_put_trust)))
    (l_put_trust : K.lookup f_put_trust = some ⟨oc_put_trust, od_put_trust, .func (PySem.W.fnOf "put_trust" "put_trust" (defArgs s_put_trust) (defBody s_put_trust) (defScope s_put_trust) .none kV_put_trust dc_put_trust pm_put_trust an_put_trust cd_put_trust ct_put_trust), sl_put_trust⟩)
    (c_put_trust : PySem.W.codeIn K cd_put_trust "put_trust" = true)
    (k_put_trust : PySem.W.keepIn K (.ref f_put_trust) = true)
    (a_with_other : PySem.W.nsIn K mainGlobals "with_other" = some (some (.ref f_with_other)))
    (l_with_other : K.lookup f_with_other = some ⟨oc_with_other, od_with_other, .func (PySem.W.fnOf "with_other" "with_other" (defArgs s_with_other) (defBody s_with_other) (defScope s_with_other) .none kV_with_other dc_with_other pm_with_other an_with_other cd_with_other ct_with_other), sl_with_other⟩)
    (c_with_other : PySem.W.codeIn K cd_with_other "with_other" = true)
    (k_with_other : PySem.W.keepIn K (.ref f_with_other) = true)
    (a_see_world : PySem.W.nsIn K mainGlobals "see_world" = some (some (.ref f_see_world)))
    (l_see_world : K.lookup f_see_world = some ⟨oc_see_world, od_see_world, .func (PySem.W.fnOf "see_world" "see_world" (defArgs s_see_world) (defBody s_see_world) (defScope s_see_world) .none kV_see_world dc_see_world pm_see_world an_see_world cd_see_world ct_see_world), sl_see_world⟩)
    (c_see_world : PySem.W.codeIn K cd_see_world "see_world" = true)
    (k_see_world : PySem.W.keepIn K (.ref f_see_world) = true)
    (a_is_tighter : PySem.W.nsIn K mainGlobals "is_tighter" = some (some (.ref f_is_tighter)))
    (l_is_tighter : K.lookup f_is_tighter = some ⟨oc_is_tighter, od_is_tighter, .func (PySem.W.fnOf "is_tighter" "is_tighter" (defArgs s_is_tighter) (defBody s_is_tighter) (defScope s_is_tighter) .none kV_is_tighter dc_is_tighter pm_is_tighter an_is_tighter cd_is_tighter ct_is_tighter), sl_is_tighter⟩)
    (c_is_tighter : PySem.W.codeIn K cd_is_tighter "is_tighter" = true)
    (k_is_tighter : PySem.W.keepIn K (.ref f_is_tighter) = true)
    (a_first_above_zero : PySem.W.nsIn K mainGlobals "first_above_zero" = some (some (.ref f_first_above_zero)))
    (l_first_above_zero : K.lookup f_first_above_zero = some ⟨oc_first_above_zero, od_first_above_zero, .func (PySem.W.fnOf "first_above_zero" "first_above_zero" (defArgs s_first_above_zero) (defBody s_first_above_zero) (defScope s_first_above_zero) .none kV_first_above_zero dc_first_above_zero pm_first_above_zero an_first_above_zero cd_first_above_zero ct_first_above_zero), sl_first_above_zero⟩)
    (c_first_above_zero : PySem.W.codeIn K cd_first_above_zero "first_above_zero" = true)
    (k_first_above_zero : PySem.W.keepIn K (.ref f_first_above_zero) = true)
    (a_tightest_row : PySem.W.nsIn K mainGlobals "tightest_row" = some (some (.ref f_tightest_row)))
    (l_tightest_row : K.lookup f_tightest_row = some ⟨oc_tightest_row, od_tightest_row, .func (PySem.W.fnOf "tightest_row" "tightest_row" (defArgs s_tightest_row) (defBody s_tightest_row) (defScope s_tightest_row) .none kV_tightest_row dc_tightest_row pm_tightest_row an_tightest_row cd_tightest_row ct_tightest_row), sl_tightest_row⟩)
    (c_tightest_row : PySem.W.codeIn K cd_tightest_row "tightest_row" = true)
    (k_tightest_row : PySem.W.keepIn K (.ref f_tightest_row) = true)
    (a_sum_of_rows : PySem.W.nsIn K mainGlobals "sum_of_rows" = some (some (.ref f_sum_of_rows)))
    (l_sum_of_rows : K.lookup f_sum_of_rows = some ⟨oc_sum_of_rows, od_sum_of_rows, .func (PySem.W.fnOf "sum_of_rows" "sum_of_rows" (defArgs s_sum_of_rows) (defBody s_sum_of_rows) (defScope s_sum_of_rows) .none kV_sum_of_rows dc_sum_of_rows pm_sum_of_rows an_sum_of_rows cd_sum_of_rows ct_sum_of_rows), sl_sum_of_rows⟩)
    (c_sum_of_rows : PySem.W.codeIn K cd_sum_of_rows "sum_of_rows" = true)
    (k_sum_of_rows : PySem.W.keepIn K (.ref f_sum_of_rows) = true)
    (a_exchanged : PySem.W.nsIn K mainGlobals "exchanged" = some (some (.ref f_exchanged)))
    (l_exchanged : K.lookup f_exchanged = some ⟨oc_exchanged, od_exchanged, .func (PySem.W.fnOf "exchanged" "exchanged" (defArgs s_exchanged) (defBody s_exchanged) (defScope s_exchanged) .none kV_exchanged dc_exchanged pm_exchanged an_exchanged cd_exchanged ct_exchanged), sl_exchanged⟩)
    (c_exchanged : PySem.W.codeIn K cd_exchanged "exchanged" = true)
    (k_exchanged : PySem.W.keepIn K (.ref f_exchanged) = true)
    (a_solvable : PySem.W.nsIn K mainGlobals "solvable" = some (some (.ref f_solvable)))
    (l_solvable : K.lookup f_solvable = some ⟨oc_solvable, od_solvable, .func (PySem.W.fnOf "solvable" "solvable" (defArgs s_solvable) (defBody s_solvable) (defScope s_solvable) .none kV_solvable dc_solvable pm_solvable an_solvable cd_solvable ct_solvable), sl_solvable⟩)
    (c_solvable : PySem.W.codeIn K cd_solvable "solvable" = true)
    (k_solvable : PySem.W.keepIn K (.ref f_solvable) = true)
    (a_shares_of_parts : PySem.W.nsIn K mainGlobals "shares_of_parts" = some (some (.ref f_shares_of_parts)))
    (l_shares_of_parts : K.lookup f_shares_of_parts = some ⟨oc_shares_of_parts, od_shares_of_parts, .func (PySem.W.fnOf "shares_of_parts" "shares_of_parts" (defArgs s_shares_of_parts) (defBody s_shares_of_parts) (defScope s_shares_of_parts) .none kV_shares_of_parts dc_shares_of_parts pm_shares_of_parts an_shares_of_parts cd_shares_of_parts ct_shares_of_parts), sl_shares_of_parts⟩)
    (c_shares_of_parts : PySem.W.codeIn K cd_shares_of_parts "shares_of_parts" = true)
    (k_shares_of_parts : PySem.W.keepIn K (.ref f_shares_of_parts) = true)
    (a_has_whole : PySem.W.nsIn K mainGlobals "has_whole" = some (some (.ref f_has_whole)))
    (l_has_whole : K.lookup f_has_whole = some ⟨oc_has_whole, od_has_whole, .func (PySem.W.fnOf "has_whole" "has_whole" (defArgs s_has_whole) (defBody s_has_whole) (defScope s_has_whole) .none kV_has_whole dc_has_whole pm_has_whole an_has_whole cd_has_whole ct_has_whole), sl_has_whole⟩)
    (c_has_whole : PySem.W.codeIn K cd_has_whole "has_whole" = true)
    (k_has_whole : PySem.W.keepIn K (.ref f_has_whole) = true)
    (a_margin : PySem.W.nsIn K mainGlobals "margin" = some (some (.ref f_margin)))
    (l_margin : K.lookup f_margin = some ⟨oc_margin, od_margin, .func (PySem.W.fnOf "margin" "margin" (defArgs s_margin) (defBody s_margin) (defScope s_margin) .none kV_margin dc_margin pm_margin an_margin cd_margin ct_margin), sl_margin⟩)
    (c_margin : PySem.W.codeIn K cd_margin "margin" = true)
    (k_margin : PySem.W.keepIn K (.ref f_margin) = true)
    (a_agree : PySem.W.nsIn K mainGlobals "agree" = some (some (.ref f_agree)))
    (l_agree : K.lookup f_agree = some ⟨oc_agree, od_agree, .func (PySem.W.fnOf "agree" "agree" (defArgs s_agree) (defBody s_agree) (defScope s_agree) .none kV_agree dc_agree pm_agree an_agree cd_agree ct_agree), sl_agree⟩)
    (c_agree : PySem.W.codeIn K cd_agree "agree" = true)
    (k_agree : PySem.W.keepIn K (.ref f_agree) = true)
    (a_fits : PySem.W.nsIn K mainGlobals "fits" = some (some (.ref f_fits)))
    (l_fits : K.lookup f_fits = some ⟨oc_fits, od_fits, .func (PySem.W.fnOf "fits" "fits" (defArgs s_fits) (defBody s_fits) (defScope s_fits) .none kV_fits dc_fits pm_fits an_fits cd_fits ct_fits), sl_fits⟩)
    (c_fits : PySem.W.codeIn K cd_fits "fits" = true)
    (k_fits : PySem.W.keepIn K (.ref f_fits) = true)
    (a_some_world_fits : PySem.W.nsIn K mainGlobals "some_world_fits" = some (some (.ref f_some_world_fits)))
    (l_some_world_fits : K.lookup f_some_world_fits = some ⟨oc_some_world_fits, od_some_world_fits, .func (PySem.W.fnOf "some_world_fits" "some_world_fits" (defArgs s_some_world_fits) (defBody s_some_world_fits) (defScope s_some_world_fits) .none kV_some_world_fits dc_some_world_fits pm_some_world_fits an_some_world_fits cd_some_world_fits ct_some_world_fits), sl_some_world_fits⟩)
    (c_some_world_fits : PySem.W.codeIn K cd_some_world_fits "some_world_fits" = true)
    (k_some_world_fits : PySem.W.keepIn K (.ref f_some_world_fits) = true)
    (a_any_two_agree : PySem.W.nsIn K mainGlobals "any_two_agree" = some (some (.ref f_any_two_agree)))
    (l_any_two_agree : K.lookup f_any_two_agree = some ⟨oc_any_two_agree, od_any_two_agree, .func (PySem.W.fnOf "any_two_agree" "any_two_agree" (defArgs s_any_two_agree) (defBody s_any_two_agree) (defScope s_any_two_agree) .none kV_any_two_agree dc_any_two_agree pm_any_two_agree an_any_two_agree cd_any_two_agree ct_any_two_agree), sl_any_two_agree⟩)
    (c_any_two_agree : PySem.W.codeIn K cd_any_two_agree "any_two_agree" = true)
    (k_any_two_agree : PySem.W.keepIn K (.ref f_any_two_agree) = true)
    (a_can_be_together : PySem.W.nsIn K mainGlobals "can_be_together" = some (some (.ref f_can_be_together)))
    (l_can_be_together : K.lookup f_can_be_together = some ⟨oc_can_be_together, od_can_be_together, .func (PySem.W.fnOf "can_be_together" "can_be_together" (defArgs s_can_be_together) (defBody s_can_be_together) (defScope s_can_be_together) .none kV_can_be_together dc_can_be_together pm_can_be_together an_can_be_together cd_can_be_together ct_can_be_together), sl_can_be_together⟩)
    (c_can_be_together : PySem.W.codeIn K cd_can_be_together "can_be_together" = true)
    (k_can_be_together : PySem.W.keepIn K (.ref f_can_be_together) = true)
    (a_parts_can : PySem.W.nsIn K mainGlobals "parts_can" = some (some (.ref f_parts_can)))
    (l_parts_can : K.lookup f_parts_can = some ⟨oc_parts_can, od_parts_can, .func (PySem.W.fnOf "parts_can" "parts_can" (defArgs s_parts_can) (defBody s_parts_can) (defScope s_parts_can) .none kV_parts_can dc_parts_can pm_parts_can an_parts_can cd_parts_can ct_parts_can), sl_parts_can⟩)
    (c_parts_can : PySem.W.codeIn K cd_parts_can "parts_can" = true)
    (k_parts_can : PySem.W.keepIn K (.ref f_parts_can) = true)
    (a_together_by_set : PySem.W.nsIn K mainGlobals "together_by_set" = some (some (.ref f_together_by_set)))
    (l_together_by_set : K.lookup f_together_by_set = some ⟨oc_together_by_set, od_together_by_set, .func (PySem.W.fnOf "together_by_set" "together_by_set" (defArgs s_together_by_set) (defBody s_together_by_set) (defScope s_together_by_set) .none kV_together_by_set dc_together_by_set pm_together_by_set an_together_by_set cd_together_by_set ct_together_by_set), sl_together_by_set⟩)
    (c_together_by_set : PySem.W.codeIn K cd_together_by_set "together_by_set" = true)
    (k_together_by_set : PySem.W.keepIn K (.ref f_together_by_set) = true)
    (a_conflicts : PySem.W.nsIn K mainGlobals "conflicts" = some (some (.ref f_conflicts)))
    (l_conflicts : K.lookup f_conflicts = some ⟨oc_conflicts, od_conflicts, .func (PySem.W.fnOf "conflicts" "conflicts" (defArgs s_conflicts) (defBody s_conflicts) (defScope s_conflicts) .none kV_conflicts dc_conflicts pm_conflicts an_conflicts cd_conflicts ct_conflicts), sl_conflicts⟩)
    (c_conflicts : PySem.W.codeIn K cd_conflicts "conflicts" = true)
    (k_conflicts : PySem.W.keepIn K (.ref f_conflicts) = true)
    (a_trust_of : PySem.W.nsIn K mainGlobals "trust_of" = some (some (.ref f_trust_of)))
    (l_trust_of : K.lookup f_trust_of = some ⟨oc_trust_of, od_trust_of, .func (PySem.W.fnOf "trust_of" "trust_of" (defArgs s_trust_of) (defBody s_trust_of) (defScope s_trust_of) .none kV_trust_of dc_trust_of pm_trust_of an_trust_of cd_trust_of ct_trust_of), sl_trust_of⟩)
    (c_trust_of : PySem.W.codeIn K cd_trust_of "trust_of" = true)
    (k_trust_of : PySem.W.keepIn K (.ref f_trust_of) = true)
    (a_answer_change : PySem.W.nsIn K mainGlobals "answer_change" = some (some (.ref f_answer_change)))
    (l_answer_change : K.lookup f_answer_change = some ⟨oc_answer_change, od_answer_change, .func (PySem.W.fnOf "answer_change" "answer_change" (defArgs s_answer_change) (defBody s_answer_change) (defScope s_answer_change) .none kV_answer_change dc_answer_change pm_answer_change an_answer_change cd_answer_change ct_answer_change), sl_answer_change⟩)
    (c_answer_change : PySem.W.codeIn K cd_answer_change "answer_change" = true)
    (k_answer_change : PySem.W.keepIn K (.ref f_answer_change) = true)
    (a_others_of : PySem.W.nsIn K mainGlobals "others_of" = some (some (.ref f_others_of)))
    (l_others_of : K.lookup f_others_of = some ⟨oc_others_of, od_others_of, .func (PySem.W.fnOf "others_of" "others_of" (defArgs s_others_of) (defBody s_others_of) (defScope s_others_of) .none kV_others_of dc_others_of pm_others_of an_others_of cd_others_of ct_others_of), sl_others_of⟩)
    (c_others_of : PySem.W.codeIn K cd_others_of "others_of" = true)
    (k_others_of : PySem.W.keepIn K (.ref f_others_of) = true)
    (a_is_enough : PySem.W.nsIn K mainGlobals "is_enough" = some (some (.ref f_is_enough)))
    (l_is_enough : K.lookup f_is_enough = some ⟨oc_is_enough, od_is_enough, .func (PySem.W.fnOf "is_enough" "is_enough" (defArgs s_is_enough) (defBody s_is_enough) (defScope s_is_enough) .none kV_is_enough dc_is_enough pm_is_enough an_is_enough cd_is_enough ct_is_enough), sl_is_enough⟩)
    (c_is_enough : PySem.W.codeIn K cd_is_enough "is_enough" = true)
    (k_is_enough : PySem.W.keepIn K (.ref f_is_enough) = true)
    (a_enough_sets : PySem.W.nsIn K mainGlobals "enough_sets" = some (some (.ref f_enough_sets)))
    (l_enough_sets : K.lookup f_enough_sets = some ⟨oc_enough_sets, od_enough_sets, .func (PySem.W.fnOf "enough_sets" "enough_sets" (defArgs s_enough_sets) (defBody s_enough_sets) (defScope s_enough_sets) .none kV_enough_sets dc_enough_sets pm_enough_sets an_enough_sets cd_enough_sets ct_enough_sets), sl_enough_sets⟩)
    (c_enough_sets : PySem.W.codeIn K cd_enough_sets "enough_sets" = true)
    (k_enough_sets : PySem.W.keepIn K (.ref f_enough_sets) = true)
    (a_ways_out : PySem.W.nsIn K mainGlobals "ways_out" = some (some (.ref f_ways_out)))
    (l_ways_out : K.lookup f_ways_out = some ⟨oc_ways_out, od_ways_out, .func (PySem.W.fnOf "ways_out" "ways_out" (defArgs s_ways_out) (defBody s_ways_out) (defScope s_ways_out) .none kV_ways_out dc_ways_out pm_ways_out an_ways_out cd_ways_out ct_ways_out), sl_ways_out⟩)
    (c_ways_out : PySem.W.codeIn K cd_ways_out "ways_out" = true)
    (k_ways_out : PySem.W.keepIn K (.ref f_ways_out) = true)
    (a_how_many_hold : PySem.W.nsIn K mainGlobals "how_many_hold" = some (some (.ref f_how_many_hold)))
    (l_how_many_hold : K.lookup f_how_many_hold = some ⟨oc_how_many_hold, od_how_many_hold, .func (PySem.W.fnOf "how_many_hold" "how_many_hold" (defArgs s_how_many_hold) (defBody s_how_many_hold) (defScope s_how_many_hold) .none kV_how_many_hold dc_how_many_hold pm_how_many_hold an_how_many_hold cd_how_many_hold ct_how_many_hold), sl_how_many_hold⟩)
    (c_how_many_hold : PySem.W.codeIn K cd_how_many_hold "how_many_hold" = true)
    (k_how_many_hold : PySem.W.keepIn K (.ref f_how_many_hold) = true)
    (a_never_doubted : PySem.W.nsIn K mainGlobals "never_doubted" = some (some (.ref f_never_doubted)))
    (l_never_doubted : K.lookup f_never_doubted = some ⟨oc_never_doubted, od_never_doubted, .func (PySem.W.fnOf "never_doubted" "never_doubted" (defArgs s_never_doubted) (defBody s_never_doubted) (defScope s_never_doubted) .none kV_never_doubted dc_never_doubted pm_never_doubted an_never_doubted cd_never_doubted ct_never_doubted), sl_never_doubted⟩)
    (c_never_doubted : PySem.W.codeIn K cd_never_doubted "never_doubted" = true)
    (k_never_doubted : PySem.W.keepIn K (.ref f_never_doubted) = true)
    (a_always_doubted : PySem.W.nsIn K mainGlobals "always_doubted" = some (some (.ref f_always_doubted)))
    (l_always_doubted : K.lookup f_always_doubted = some ⟨oc_always_doubted, od_always_doubted, .func (PySem.W.fnOf "always_doubted" "always_doubted" (defArgs s_always_doubted) (defBody s_always_doubted) (defScope s_always_doubted) .none kV_always_doubted dc_always_doubted pm_always_doubted an_always_doubted cd_always_doubted ct_always_doubted), sl_always_doubted⟩)
    (c_always_doubted : PySem.W.codeIn K cd_always_doubted "always_doubted" = true)
    (k_always_doubted : PySem.W.keepIn K (.ref f_always_doubted) = true)
    (a_fewest : PySem.W.nsIn K mainGlobals "fewest" = some (some (.ref f_fewest)))
    (l_fewest : K.lookup f_fewest = some ⟨oc_fewest, od_fewest, .func (PySem.W.fnOf "fewest" "fewest" (defArgs s_fewest) (defBody s_fewest) (defScope s_fewest) .none kV_fewest dc_fewest pm_fewest an_fewest (.ref cc_fewest) ct_fewest), sl_fewest⟩)
    (c_fewest : PySem.W.codeIn K (.ref cc_fewest) "fewest" = true)
    (k_fewest : PySem.W.keepIn K (.ref f_fewest) = true)
    (t1_fewest : K.lookup cc_fewest = some ⟨e_fewest, dd_fewest, .fields ws_fewest, sm_fewest⟩)
    (t2_fewest : ws_fewest[11]? = some (.ref PT_fewest))
    (t3_fewest : K.lookup PT_fewest = none)
    (a_cheapest : PySem.W.nsIn K mainGlobals "cheapest" = some (some (.ref f_cheapest)))
    (l_cheapest : K.lookup f_cheapest = some ⟨oc_cheapest, od_cheapest, .func (PySem.W.fnOf "cheapest" "cheapest" (defArgs s_cheapest) (defBody s_cheapest) (defScope s_cheapest) .none kV_cheapest dc_cheapest pm_cheapest an_cheapest (.ref cc_cheapest) ct_cheapest), sl_cheapest⟩)
    (c_cheapest : PySem.W.codeIn K (.ref cc_cheapest) "cheapest" = true)
    (k_cheapest : PySem.W.keepIn K (.ref f_cheapest) = true)
    (t1_cheapest : K.lookup cc_cheapest = some ⟨e_cheapest, dd_cheapest, .fields ws_cheapest, sm_cheapest⟩)
    (t2_cheapest : ws_cheapest[11]? = some (.ref PT_cheapest))
    (t3_cheapest : K.lookup PT_cheapest = none)
    (a_is_set_of_views : PySem.W.nsIn K mainGlobals "is_set_of_views" = some (some (.ref f_is_set_of_views)))
    (l_is_set_of_views : K.lookup f_is_set_of_views = some ⟨oc_is_set_of_views, od_is_set_of_views, .func (PySem.W.fnOf "is_set_of_views" "is_set_of_views" (defArgs s_is_set_of_views) (defBody s_is_set_of_views) (defScope s_is_set_of_views) .none kV_is_set_of_views dc_is_set_of_views pm_is_set_of_views an_is_set_of_views cd_is_set_of_views ct_is_set_of_views), sl_is_set_of_views⟩)
    (c_is_set_of_views : PySem.W.codeIn K cd_is_set_of_views "is_set_of_views" = true)
    (k_is_set_of_views : PySem.W.keepIn K (.ref f_is_set_of_views) = true)
    (a_yes_or_no : PySem.W.nsIn K mainGlobals "yes_or_no" = some (some (.ref f_yes_or_no)))
    (l_yes_or_no : K.lookup f_yes_or_no = some ⟨oc_yes_or_no, od_yes_or_no, .func (PySem.W.fnOf "yes_or_no" "yes_or_no" (defArgs s_yes_or_no) (defBody s_yes_or_no) (defScope s_yes_or_no) .none kV_yes_or_no dc_yes_or_no pm_yes_or_no an_yes_or_no cd_yes_or_no ct_yes_or_no), sl_yes_or_no⟩)
    (c_yes_or_no : PySem.W.codeIn K cd_yes_or_no "yes_or_no" = true)
    (k_yes_or_no : PySem.W.keepIn K (.ref f_yes_or_no) = true)
    (a_counted : PySem.W.nsIn K mainGlobals "counted" = some (some (.ref f_counted)))
    (l_counted : K.lookup f_counted = some ⟨oc_counted, od_counted, .func (PySem.W.fnOf "counted" "counted" (defArgs s_counted) (defBody s_counted) (defScope s_counted) .none kV_counted dc_counted pm_counted an_counted cd_counted ct_counted), sl_counted⟩)
    (c_counted : PySem.W.codeIn K cd_counted "counted" = true)
    (k_counted : PySem.W.keepIn K (.ref f_counted) = true)
    (a_doubt_told : PySem.W.nsIn K mainGlobals "doubt_told" = some (some (.ref f_doubt_told)))
    (l_doubt_told : K.lookup f_doubt_told = some ⟨oc_doubt_told, od_doubt_told, .func (PySem.W.fnOf "doubt_told" "doubt_told" (defArgs s_doubt_told) (defBody s_doubt_told) (defScope s_doubt_told) .none kV_doubt_told dc_doubt_told pm_doubt_told an_doubt_told cd_doubt_told ct_doubt_told), sl_doubt_told⟩)
    (c_doubt_told : PySem.W.codeIn K cd_doubt_told "doubt_told" = true)
    (k_doubt_told : PySem.W.keepIn K (.ref f_doubt_told) = true)
    (a_ask_together : PySem.W.nsIn K mainGlobals "ask_together" = some (some (.ref f_ask_together)))
    (l_ask_together : K.lookup f_ask_together = some ⟨oc_ask_together, od_ask_together, .func (PySem.W.fnOf "ask_together" "ask_together" (defArgs s_ask_together) (defBody s_ask_together) (defScope s_ask_together) .none kV_ask_together dc_ask_together pm_ask_together an_ask_together cd_ask_together ct_ask_together), sl_ask_together⟩)
    (c_ask_together : PySem.W.codeIn K cd_ask_together "ask_together" = true)
    (k_ask_together : PySem.W.keepIn K (.ref f_ask_together) = true)
    (a_ask_enough : PySem.W.nsIn K mainGlobals "ask_enough" = some (some (.ref f_ask_enough)))
    (l_ask_enough : K.lookup f_ask_enough = some ⟨oc_ask_enough, od_ask_enough, .func (PySem.W.fnOf "ask_enough" "ask_enough" (defArgs s_ask_enough) (defBody s_ask_enough) (defScope s_ask_enough) .none kV_ask_enough dc_ask_enough pm_ask_enough an_ask_enough cd_ask_enough ct_ask_enough), sl_ask_enough⟩)
    (c_ask_enough : PySem.W.codeIn K cd_ask_enough "ask_enough" = true)
    (k_ask_enough : PySem.W.keepIn K (.ref f_ask_enough) = true)
    (a_ask_cost : PySem.W.nsIn K mainGlobals "ask_cost" = some (some (.ref f_ask_cost)))
    (l_ask_cost : K.lookup f_ask_cost = some ⟨oc_ask_cost, od_ask_cost, .func (PySem.W.fnOf "ask_cost" "ask_cost" (defArgs s_ask_cost) (defBody s_ask_cost) (defScope s_ask_cost) .none kV_ask_cost dc_ask_cost pm_ask_cost an_ask_cost cd_ask_cost ct_ask_cost), sl_ask_cost⟩)
    (c_ask_cost : PySem.W.codeIn K cd_ask_cost "ask_cost" = true)
    (k_ask_cost : PySem.W.keepIn K (.ref f_ask_cost) = true)
    (a_ask_blame : PySem.W.nsIn K mainGlobals "ask_blame" = some (some (.ref f_ask_blame)))
    (l_ask_blame : K.lookup f_ask_blame = some ⟨oc_ask_blame, od_ask_blame, .func (PySem.W.fnOf "ask_blame" "ask_blame" (defArgs s_ask_blame) (defBody s_ask_blame) (defScope s_ask_blame) .none kV_ask_blame dc_ask_blame pm_ask_blame an_ask_blame cd_ask_blame ct_ask_blame), sl_ask_blame⟩)
    (c_ask_blame : PySem.W.codeIn K cd_ask_blame "ask_blame" = true)
    (k_ask_blame : PySem.W.keepIn K (.ref f_ask_blame) = true)
    (a_ask_conflicts : PySem.W.nsIn K mainGlobals "ask_conflicts" = some (some (.ref f_ask_conflicts)))
    (l_ask_conflicts : K.lookup f_ask_conflicts = some ⟨oc_ask_conflicts, od_ask_conflicts, .func (PySem.W.fnOf "ask_conflicts" "ask_conflicts" (defArgs s_ask_conflicts) (defBody s_ask_conflicts) (defScope s_ask_conflicts) .none kV_ask_conflicts dc_ask_conflicts pm_ask_conflicts an_ask_conflicts cd_ask_conflicts ct_ask_conflicts), sl_ask_conflicts⟩)
    (c_ask_conflicts : PySem.W.codeIn K cd_ask_conflicts "ask_conflicts" = true)
    (k_ask_conflicts : PySem.W.keepIn K (.ref f_ask_conflicts) = true)
    (a_ask_ways : PySem.W.nsIn K mainGlobals "ask_ways" = some (some (.ref f_ask_ways)))
    (l_ask_ways : K.lookup f_ask_ways = some ⟨oc_ask_ways, od_ask_ways, .func (PySem.W.fnOf "ask_ways" "ask_ways" (defArgs s_ask_ways) (defBody s_ask_ways) (defScope s_ask_ways) .none kV_ask_ways dc_ask_ways pm_ask_ways an_ask_ways cd_ask_ways ct_ask_ways), sl_ask_ways⟩)
    (c_ask_ways : PySem.W.codeIn K cd_ask_ways "ask_ways" = true)
    (k_ask_ways : PySem.W.keepIn K (.ref f_ask_ways) = true)
    (a_ask_never : PySem.W.nsIn K mainGlobals "ask_never" = some (some (.ref f_ask_never)))
    (l_ask_never : K.lookup f_ask_never = some ⟨oc_ask_never, od_ask_never, .func (PySem.W.fnOf "ask_never" "ask_never" (defArgs s_ask_never) (defBody s_ask_never) (defScope s_ask_never) .none kV_ask_never dc_ask_never pm_ask_never an_ask_never cd_ask_never ct_ask_never), sl_ask_never⟩)
    (c_ask_never : PySem.W.codeIn K cd_ask_never "ask_never" = true)
    (k_ask_never : PySem.W.keepIn K (.ref f_ask_never) = true)
    (a_ask_always : PySem.W.nsIn K mainGlobals "ask_always" = some (some (.ref f_ask_always)))
    (l_ask_always : K.lookup f_ask_always = some ⟨oc_ask_always, od_ask_always, .func (PySem.W.fnOf "ask_always" "ask_always" (defArgs s_ask_always) (defBody s_ask_always) (defScope s_ask_always) .none kV_ask_always dc_ask_always pm_ask_always an_ask_always cd_ask_always ct_ask_always), sl_ask_always⟩)
    (c_ask_always : PySem.W.codeIn K cd_ask_always "ask_always" = true)
    (k_ask_always : PySem.W.keepIn K (.ref f_ask_always) = true)
    (a_ask_kept : PySem.W.nsIn K mainGlobals "ask_kept" = some (some (.ref f_ask_kept)))
    (l_ask_kept : K.lookup f_ask_kept = some ⟨oc_ask_kept, od_ask_kept, .func (PySem.W.fnOf "ask_kept" "ask_kept" (defArgs s_ask_kept) (defBody s_ask_kept) (defScope s_ask_kept) .none kV_ask_kept dc_ask_kept pm_ask_kept an_ask_kept cd_ask_kept ct_ask_kept), sl_ask_kept⟩)
    (c_ask_kept : PySem.W.codeIn K cd_ask_kept "ask_kept" = true)
    (k_ask_kept : PySem.W.keepIn K (.ref f_ask_kept) = true)
    (a_ask_fewest : PySem.W.nsIn K mainGlobals "ask_fewest" = some (some (.ref f_ask_fewest)))
    (l_ask_fewest : K.lookup f_ask_fewest = some ⟨oc_ask_fewest, od_ask_fewest, .func (PySem.W.fnOf "ask_fewest" "ask_fewest" (defArgs s_ask_fewest) (defBody s_ask_fewest) (defScope s_ask_fewest) .none kV_ask_fewest dc_ask_fewest pm_ask_fewest an_ask_fewest cd_ask_fewest ct_ask_fewest), sl_ask_fewest⟩)
    (c_ask_fewest : PySem.W.codeIn K cd_ask_fewest "ask_fewest" = true)
    (k_ask_fewest : PySem.W.keepIn K (.ref f_ask_fewest) = true)
    (a_ask_cheapest : PySem.W.nsIn K mainGlobals "ask_cheapest" = some (some (.ref f_ask_cheapest)))
    (l_ask_cheapest : K.lookup f_ask_cheapest = some ⟨oc_ask_cheapest, od_ask_cheapest, .func (PySem.W.fnOf "ask_cheapest" "ask_cheapest" (defArgs s_ask_cheapest) (defBody s_ask_cheapest) (defScope s_ask_cheapest) .none kV_ask_cheapest dc_ask_cheapest pm_ask_cheapest an_ask_cheapest cd_ask_cheapest ct_ask_cheapest), sl_ask_cheapest⟩)
    (c_ask_cheapest : PySem.W.codeIn K cd_ask_cheapest "ask_cheapest" = true)
    (k_ask_cheapest : PySem.W.keepIn K (.ref f_ask_cheapest) = true)
    (a_ask_if_table : PySem.W.nsIn K mainGlobals "ask_if_table" = some (some (.ref f_ask_if_table)))
    (l_ask_if_table : K.lookup f_ask_if_table = some ⟨oc_ask_if_table, od_ask_if_table, .func (PySem.W.fnOf "ask_if_table" "ask_if_table" (defArgs s_ask_if_table) (defBody s_ask_if_table) (defScope s_ask_if_table) .none kV_ask_if_table dc_ask_if_table pm_ask_if_table an_ask_if_table cd_ask_if_table ct_ask_if_table), sl_ask_if_table⟩)
    (c_ask_if_table : PySem.W.codeIn K cd_ask_if_table "ask_if_table" = true)
    (k_ask_if_table : PySem.W.keepIn K (.ref f_ask_if_table) = true)
    (a_ask_if_trust : PySem.W.nsIn K mainGlobals "ask_if_trust" = some (some (.ref f_ask_if_trust)))
    (l_ask_if_trust : K.lookup f_ask_if_trust = some ⟨oc_ask_if_trust, od_ask_if_trust, .func (PySem.W.fnOf "ask_if_trust" "ask_if_trust" (defArgs s_ask_if_trust) (defBody s_ask_if_trust) (defScope s_ask_if_trust) .none kV_ask_if_trust dc_ask_if_trust pm_ask_if_trust an_ask_if_trust cd_ask_if_trust ct_ask_if_trust), sl_ask_if_trust⟩)
    (c_ask_if_trust : PySem.W.codeIn K cd_ask_if_trust "ask_if_trust" = true)
    (k_ask_if_trust : PySem.W.keepIn K (.ref f_ask_if_trust) = true)
    (a_answer_of_all : PySem.W.nsIn K mainGlobals "answer_of_all" = some (some (.ref f_answer_of_all)))
    (l_answer_of_all : K.lookup f_answer_of_all = some ⟨oc_answer_of_all, od_answer_of_all, .func (PySem.W.fnOf "answer_of_all" "answer_of_all" (defArgs s_answer_of_all) (defBody s_answer_of_all) (defScope s_answer_of_all) .none kV_answer_of_all dc_answer_of_all pm_answer_of_all an_answer_of_all cd_answer_of_all ct_answer_of_all), sl_answer_of_all⟩)
    (c_answer_of_all : PySem.W.codeIn K cd_answer_of_all "answer_of_all" = true)
    (k_answer_of_all : PySem.W.keepIn K (.ref f_answer_of_all) = true)
    (a_answer_of_some : PySem.W.nsIn K mainGlobals "answer_of_some" = some (some (.ref f_answer_of_some)))
    (l_answer_of_some : K.lookup f_answer_of_some = some ⟨oc_answer_of_some, od_answer_of_some, .func (PySem.W.fnOf "answer_of_some" "answer_of_some" (defArgs s_answer_of_some) (defBody s_answer_of_some) (defScope s_answer_of_some) .none kV_answer_of_some dc_answer_of_some pm_answer_of_some an_answer_of_some cd_answer_of_some ct_answer_of_some), sl_answer_of_some⟩)
    (c_answer_of_some : PySem.W.codeIn K cd_answer_of_some "answer_of_some" = true)
    (k_answer_of_some : PySem.W.keepIn K (.ref f_answer_of_some) = true)
    (a_answer_question : PySem.W.nsIn K mainGlobals "answer_question" = some (some (.ref f_answer_question)))
    (l_answer_question : K.lookup f_answer_question = some ⟨oc_answer_question, od_answer_question, .func (PySem.W.fnOf "answer_question" "answer_question" (defArgs s_answer_question) (defBody s_answer_question) (defScope s_answer_question) .none kV_answer_question dc_answer_question pm_answer_question an_answer_question cd_answer_question ct_answer_question), sl_answer_question⟩)
    (c_answer_question : PySem.W.codeIn K cd_answer_question "answer_question" = true)
    (k_answer_question : PySem.W.keepIn K (.ref f_answer_question) = true)
    (a_answer_call : PySem.W.nsIn K mainGlobals "answer_call" = some (some (.ref f_answer_call)))
    (l_answer_call : K.lookup f_answer_call = some ⟨oc_answer_call, od_answer_call, .func (PySem.W.fnOf "answer_call" "answer_call" (defArgs s_answer_call) (defBody s_answer_call) (defScope s_answer_call) .none kV_answer_call dc_answer_call pm_answer_call an_answer_call cd_answer_call ct_answer_call), sl_answer_call⟩)
    (c_answer_call : PySem.W.codeIn K cd_answer_call "answer_call" = true)
    (k_answer_call : PySem.W.keepIn K (.ref f_answer_call) = true)
    (a_answers : PySem.W.nsIn K mainGlobals "answers" = some (some (.ref f_answers)))
    (l_answers : K.lookup f_answers = some ⟨oc_answers, od_answers, .func (PySem.W.fnOf "answers" "answers" (defArgs s_answers) (defBody s_answers) (defScope s_answers) .none kV_answers dc_answers pm_answers an_answers cd_answers ct_answers), sl_answers⟩)
    (c_answers : PySem.W.codeIn K cd_answers "answers" = true)
    (k_answers : PySem.W.keepIn K (.ref f_answers) = true)
    (u_fewest_cheapest : PT_fewest ≠ PT_cheapest)
    (u_cheapest_fewest : PT_cheapest ≠ PT_fewest)
    (z_len : PySem.W.nsIn K mainGlobals "len" = some none)
    (z_range : PySem.W.nsIn K mainGlobals "range" = some none)
    (z_sum : PySem.W.nsIn K mainGlobals "sum" = some none)
    (z_all : PySem.W.nsIn K mainGlobals "all" = some none)
    (z_any : PySem.W.nsIn K mainGlobals "any" = some none)
    (z_max : PySem.W.nsIn K mainGlobals "max" = some none)
    (z_min : PySem.W.nsIn K mainGlobals "min" = some none)
    (z_list : PySem.W.nsIn K mainGlobals "list" = some none)
    (z_enumerate : PySem.W.nsIn K mainGlobals "enumerate" = some none)
    (z_zip : PySem.W.nsIn K mainGlobals "zip" = some none)
    (g_NO_VIEW : PySem.W.nsIn K mainGlobals "NO_VIEW" = some (some (.int (-2) t_NO_VIEW)))
    (g_NOT_BEGUN : PySem.W.nsIn K mainGlobals "NOT_BEGUN" = some (some (.int (-11) t_NOT_BEGUN)))
    (g_TAKEN : PySem.W.nsIn K mainGlobals "TAKEN" = some (some (.int (-17) t_TAKEN)))
    (g_WRONG : PySem.W.nsIn K mainGlobals "WRONG" = some (some (.int (-22) t_WRONG)))
    (g_FULL : PySem.W.nsIn K mainGlobals "FULL" = some (some (.int (-28) t_FULL)))
    (g_MOST_VIEWS : PySem.W.nsIn K mainGlobals "MOST_VIEWS" = some (some (.int (6) t_MOST_VIEWS)))
    (g_MOST_SEEN : PySem.W.nsIn K mainGlobals "MOST_SEEN" = some (some (.int (100) t_MOST_SEEN)))
    (g_MOST_TRUST : PySem.W.nsIn K mainGlobals "MOST_TRUST" = some (some (.int (100) t_MOST_TRUST)))
    (g_HIGHEST_KIND : PySem.W.nsIn K mainGlobals "HIGHEST_KIND" = some (some (.int (2) t_HIGHEST_KIND)))
    {dr_fewest : DefRec} (r_fewest : (recsOf qv).find? (fun e => e.name == ("fewest" : Str)) = some dr_fewest)
    {dr_cheapest : DefRec} (r_cheapest : (recsOf qv).find? (fun e => e.name == ("cheapest" : Str)) = some dr_cheapest)
    : ∃ (fd : FuncData) (cs : List (Addr × Addr)) (sp : Sp), (∀ (s : Shared) (us : List Value), us.length = (["calls"] : List Str).length → BindsTo s fd ⟨us, []⟩ ((["calls"] : List Str).zip us)) ∧ (∀ p ∈ cs, PySem.W.CodeHd h p.1 p.2 ∧ h.get? p.2 = some { cls := .none, data := .fields #[] }) ∧ (∀ p ∈ cs, K.lookup p.2 = none) ∧
      (∀ (H : Hp) (xs : List V) (a : Codec.denoteAll PySem.Challenge.rw_doubtviews_s01_answers.args), OnlyT cs H → (∀ p ∈ cs, H p.2 = some (.tbl #[])) → Codec.withinAll PySem.Challenge.rw_doubtviews_s01_answers.args a = true → Codec.app PySem.Challenge.rw_doubtviews_s01_answers.args PySem.Challenge.rw_doubtviews_s01_answers.asked a = true → DwAll K H xs (Codec.encAll PySem.Challenge.rw_doubtviews_s01_answers.args a) → sp xs H (fun v H' => Dw K H' v (PySem.Challenge.rw_doubtviews_s01_answers.ret.enc (Codec.app PySem.Challenge.rw_doubtviews_s01_answers.args PySem.Challenge.rw_doubtviews_s01_answers.f a))) fun _ _ _ => False) ∧
      ∀ base : Heap, K.In base → base.Ns mainGlobals mg → (∀ p ∈ cs, LamX.TabB base mg p.1 p.2) → FnOk P w K mg base CX0 14 fa fd ["calls"] sp := by
  have e := hfa.symm.trans (PySem.W.mg_of X G a_answers)
  cases e
  have F_View := fun_mk (st := s_View_init) l_View c_View k_View
  have F_State := fun_mk (st := s_State_init) l_State c_State k_State
  have F_members := fun_mk (st := s_members) l_members c_members k_members
  have F_parts := fun_mk (st := s_parts) l_parts c_parts k_parts
  have F_shown_row := fun_mk (st := s_shown_row) l_shown_row c_shown_row k_shown_row
  have F_chosen := fun_mk (st := s_chosen) l_chosen c_chosen k_chosen
  have F_begin := fun_mk (st := s_begin) l_begin c_begin k_begin
  have F_add_view := fun_mk (st := s_add_view) l_add_view c_add_view k_add_view
  have F_drop_view := fun_mk (st := s_drop_view) l_drop_view c_drop_view k_drop_view
  have F_is_table := fun_mk (st := s_is_table) l_is_table c_is_table k_is_table
  have F_put_table := fun_mk (st := s_put_table) l_put_table c_put_table k_put_table
  have F_tell_view := fun_mk (st := s_tell_view) l_tell_view c_tell_view k_tell_view
  have F_is_trust := fun_mk (st := s_is_trust) l_is_trust c_is_trust k_is_trust
  have F_put_trust := fun_mk (st := s_put_trust) l_put_trust c_put_trust k_put_trust
  have F_with_other := fun_mk (st := s_with_other) l_with_other c_with_other k_with_other
  have F_see_world := fun_mk (st := s_see_world) l_see_world c_see_world k_see_world
  have F_is_tighter := fun_mk (st := s_is_tighter) l_is_tighter c_is_tighter k_is_tighter
  have F_first_above_zero := fun_mk (st := s_first_above_zero) l_first_above_zero c_first_above_zero k_first_above_zero
  have F_tightest_row := fun_mk (st := s_tightest_row) l_tightest_row c_tightest_row k_tightest_row
  have F_sum_of_rows := fun_mk (st := s_sum_of_rows) l_sum_of_rows c_sum_of_rows k_sum_of_rows
  have F_exchanged := fun_mk (st := s_exchanged) l_exchanged c_exchanged k_exchanged
  have F_solvable := fun_mk (st := s_solvable) l_solvable c_solvable k_solvable
  have F_shares_of_parts := fun_mk (st := s_shares_of_parts) l_shares_of_parts c_shares_of_parts k_shares_of_parts
  have F_has_whole := fun_mk (st := s_has_whole) l_has_whole c_has_whole k_has_whole
  have F_margin := fun_mk (st := s_margin) l_margin c_margin k_margin
  have F_agree := fun_mk (st := s_agree) l_agree c_agree k_agree
  have F_fits := fun_mk (st := s_fits) l_fits c_fits k_fits
  have F_some_world_fits := fun_mk (st := s_some_world_fits) l_some_world_fits c_some_world_fits k_some_world_fits
  have F_any_two_agree := fun_mk (st := s_any_two_agree) l_any_two_agree c_any_two_agree k_any_two_agree
  have F_can_be_together := fun_mk (st := s_can_be_together) l_can_be_together c_can_be_together k_can_be_together
  have F_parts_can := fun_mk (st := s_parts_can) l_parts_can c_parts_can k_parts_can
  have F_together_by_set := fun_mk (st := s_together_by_set) l_together_by_set c_together_by_set k_together_by_set
  have F_conflicts := fun_mk (st := s_conflicts) l_conflicts c_conflicts k_conflicts
  have F_trust_of := fun_mk (st := s_trust_of) l_trust_of c_trust_of k_trust_of
  have F_answer_change := fun_mk (st := s_answer_change) l_answer_change c_answer_change k_answer_change
  have F_others_of := fun_mk (st := s_others_of) l_others_of c_others_of k_others_of
  have F_is_enough := fun_mk (st := s_is_enough) l_is_enough c_is_enough k_is_enough
  have F_enough_sets := fun_mk (st := s_enough_sets) l_enough_sets c_enough_sets k_enough_sets
  have F_ways_out := fun_mk (st := s_ways_out) l_ways_out c_ways_out k_ways_out
  have F_how_many_hold := fun_mk (st := s_how_many_hold) l_how_many_hold c_how_many_hold k_how_many_hold
  have F_never_doubted := fun_mk (st := s_never_doubted) l_never_doubted c_never_doubted k_never_doubted
  have F_always_doubted := fun_mk (st := s_always_doubted) l_always_doubted c_always_doubted k_always_doubted
  have F_fewest := fun_mk (st := s_fewest) l_fewest c_fewest k_fewest
  have F_cheapest := fun_mk (st := s_cheapest) l_cheapest c_cheapest k_cheapest
  have F_is_set_of_views := fun_mk (st := s_is_set_of_views) l_is_set_of_views c_is_set_of_views k_is_set_of_views
  have F_yes_or_no := fun_mk (st := s_yes_or_no) l_yes_or_no c_yes_or_no k_yes_or_no
  have F_counted := fun_mk (st := s_counted) l_counted c_counted k_counted
  have F_doubt_told := fun_mk (st := s_doubt_told) l_doubt_told c_doubt_told k_doubt_told
  have F_ask_together := fun_mk (st := s_ask_together) l_ask_together c_ask_together k_ask_together
  have F_ask_enough := fun_mk (st := s_ask_enough) l_ask_enough c_ask_enough k_ask_enough
  have F_ask_cost := fun_mk (st := s_ask_cost) l_ask_cost c_ask_cost k_ask_cost
  have F_ask_blame := fun_mk (st := s_ask_blame) l_ask_blame c_ask_blame k_ask_blame
  have F_ask_conflicts := fun_mk (st := s_ask_conflicts) l_ask_conflicts c_ask_conflicts k_ask_conflicts
  have F_ask_ways := fun_mk (st := s_ask_ways) l_ask_ways c_ask_ways k_ask_ways
  have F_ask_never := fun_mk (st := s_ask_never) l_ask_never c_ask_never k_ask_never
  have F_ask_always := fun_mk (st := s_ask_always) l_ask_always c_ask_always k_ask_always
  have F_ask_kept := fun_mk (st := s_ask_kept) l_ask_kept c_ask_kept k_ask_kept
  have F_ask_fewest := fun_mk (st := s_ask_fewest) l_ask_fewest c_ask_fewest k_ask_fewest
  have F_ask_cheapest := fun_mk (st := s_ask_cheapest) l_ask_cheapest c_ask_cheapest k_ask_cheapest
  have F_ask_if_table := fun_mk (st := s_ask_if_table) l_ask_if_table c_ask_if_table k_ask_if_table
  have F_ask_if_trust := fun_mk (st := s_ask_if_trust) l_ask_if_trust c_ask_if_trust k_ask_if_trust
  have F_answer_of_all := fun_mk (st := s_answer_of_all) l_answer_of_all c_answer_of_all k_answer_of_all
  have F_answer_of_some := fun_mk (st := s_answer_of_some) l_answer_of_some c_answer_of_some k_answer_of_some
  have F_answer_question := fun_mk (st := s_answer_question) l_answer_question c_answer_question k_answer_question
  have F_answer_call := fun_mk (st := s_answer_call) l_answer_call c_answer_call k_answer_call
  have F_answers := fun_mk (st := s_answers) l_answers c_answers k_answers
  have FC_fewest : MinK.FunC K "fewest" "fewest" s_fewest f_fewest _ cc_fewest := ⟨⟨_, _, _, _, _, _, _, _, rfl, l_fewest, c_fewest⟩, k_fewest⟩
  have tb_fewest := TB "fewest" _ cc_fewest PT_fewest r_fewest (tab_in a_fewest l_fewest rfl t1_fewest t2_fewest)
  have FC_cheapest : MinK.FunC K "cheapest" "cheapest" s_cheapest f_cheapest _ cc_cheapest := ⟨⟨_, _, _, _, _, _, _, _, rfl, l_cheapest, c_cheapest⟩, k_cheapest⟩
  have tb_cheapest := TB "cheapest" _ cc_cheapest PT_cheapest r_cheapest (tab_in a_cheapest l_cheapest rfl t1_cheapest t2_cheapest)
  have T : Txt K mg C_State C_View := ⟨PySem.W.mg_none_of X G z_len, PySem.W.mg_none_of X G z_range, PySem.W.mg_none_of X G z_sum, PySem.W.mg_none_of X G z_all, PySem.W.mg_none_of X G z_any, PySem.W.mg_none_of X G z_max, PySem.W.mg_none_of X G z_min, PySem.W.mg_none_of X G z_list, PySem.W.mg_none_of X G z_enumerate, PySem.W.mg_none_of X G z_zip, ⟨pg_State, hd_State, po_State, sa_State⟩, ⟨pg_View, hd_View, po_View, sa_View⟩, n_State_questions, n_State_views, n_View_asked, n_View_table, n_View_trust, ⟨t_NO_VIEW, PySem.W.mg_of X G g_NO_VIEW⟩, ⟨t_NOT_BEGUN, PySem.W.mg_of X G g_NOT_BEGUN⟩, ⟨t_TAKEN, PySem.W.mg_of X G g_TAKEN⟩, ⟨t_WRONG, PySem.W.mg_of X G g_WRONG⟩, ⟨t_FULL, PySem.W.mg_of X G g_FULL⟩, ⟨t_MOST_VIEWS, PySem.W.mg_of X G g_MOST_VIEWS⟩, ⟨t_MOST_SEEN, PySem.W.mg_of X G g_MOST_SEEN⟩, ⟨t_MOST_TRUST, PySem.W.mg_of X G g_MOST_TRUST⟩, ⟨t_HIGHEST_KIND, PySem.W.mg_of X G g_HIGHEST_KIND⟩⟩
  refine ⟨PySem.W.fnOf "answers" "answers" (defArgs s_answers) (defBody s_answers) (defScope s_answers) .none kV_answers dc_answers pm_answers an_answers cd_answers ct_answers, [(cc_fewest, PT_fewest), (cc_cheapest, PT_cheapest)], (spAnswers [(PT_fewest, (envOfC "fewest" (defScope s_fewest) 0 f_fewest (.ref cc_fewest)).qual ++ "<lambda>"), (PT_cheapest, (envOfC "cheapest" (defScope s_cheapest) 0 f_cheapest (.ref cc_cheapest)).qual ++ "<lambda>")] K), ?_, ?_, ?_, ?_, fun base KB GB hTB => ?_⟩
  · exact fun s us hu => match us, hu with | [_], _ => .of_eq rfl
  · intro p hp
    simp only [List.mem_cons, List.not_mem_nil, or_false] at hp
    rcases hp with rfl | rfl
    · exact tb_fewest
    · exact tb_cheapest
  · intro p hp
    simp only [List.mem_cons, List.not_mem_nil, or_false] at hp
    rcases hp with rfl | rfl
    · exact t3_fewest
    · exact t3_cheapest
  · intro H xs a hO hH hwi hask hx
    cases hx with
    | cons h1 h2 =>
      cases h2
      cases h1 with
      | lst hs ha =>
        rename_i c xs
        have e := L2.ints_dw a.1 _ ha
        subst e
        have q1 : ((Codec.inLen 0 1000 a.1 && a.1.all (Codec.inInt 0 4294967295)) && true) = true := hwi
        rw [Bool.and_eq_true, Bool.and_eq_true] at q1
        have hask' : PyKp355.answers_asked a.1 = true := hask
        refine ⟨c, a.1, rfl, ?_, hask', (Codec.inNat_iff.mp q1.1.1).2, fun p hp => ?_, fun H' p hp => .lst (L2.SqL.of hp) (L2.dw_ints _)⟩
        · rcases hs with (hs | ⟨o, hs⟩) | hs
          · exfalso
            rcases hO c with z | z | ⟨o, u, z⟩
            · rw [hs] at z; cases z
            · obtain ⟨p, hp, ep⟩ := List.mem_map.mp z
              have := hH p hp
              rw [ep, hs] at this; cases this
            · rw [hs] at z; cases z
          · exact .inl ⟨o, hs⟩
          · exact .inr fun _ => .inr hs
        · simp only [List.mem_cons, List.not_mem_nil, or_false] at hp
          rcases hp with rfl | rfl
          · exact TabS.nil (hH (cc_fewest, PT_fewest) (by simp))
          · exact TabS.nil (hH (cc_cheapest, PT_cheapest) (by simp))
  have hB_fewest := hTB (cc_fewest, PT_fewest) (by simp)
  have hB_cheapest := hTB (cc_cheapest, PT_cheapest) (by simp)
  have huT : ∀ (x y : Addr × Str), x ∈ ([(PT_fewest, (envOfC "fewest" (defScope s_fewest) 0 f_fewest (.ref cc_fewest)).qual ++ "<lambda>"), (PT_cheapest, (envOfC "cheapest" (defScope s_cheapest) 0 f_cheapest (.ref cc_cheapest)).qual ++ "<lambda>")] : List (Addr × Str)) → y ∈ ([(PT_fewest, (envOfC "fewest" (defScope s_fewest) 0 f_fewest (.ref cc_fewest)).qual ++ "<lambda>"), (PT_cheapest, (envOfC "cheapest" (defScope s_cheapest) 0 f_cheapest (.ref cc_cheapest)).qual ++ "<lambda>")] : List (Addr × Str)) → y.1 = x.1 → y.2 = x.2 := by
    intro x y hx hy e
    simp only [List.mem_cons, List.not_mem_nil, or_false] at hx hy
    rcases hx with rfl | rfl <;> rcases hy with rfl | rfl
    · rfl
    · exact absurd e u_cheapest_fewest
    · exact absurd e u_fewest_cheapest
    · rfl
  have c_members : Cal P w K mg base "members" 1 ["number"] (spMembers) f_members _ := ⟨ok_members F_members , PySem.W.mg_of X G a_members, k_members, F_members.binds (ps := ["number"]) fun _ _ _ _ _ _ us hl => match us, hl with | [_], _ => rfl⟩
  have c_parts : Cal P w K mg base "parts" 1 ["number"] (spParts) f_parts _ := ⟨ok_parts F_parts T, PySem.W.mg_of X G a_parts, k_parts, F_parts.binds (ps := ["number"]) fun _ _ _ _ _ _ us hl => match us, hl with | [_], _ => rfl⟩
  have c_shown_row : Cal P w K mg base "shown_row" 2 ["world", "asked"] (spShown) f_shown_row _ := ⟨ok_shown_row F_shown_row c_parts, PySem.W.mg_of X G a_shown_row, k_shown_row, F_shown_row.binds (ps := ["world", "asked"]) fun _ _ _ _ _ _ us hl => match us, hl with | [_, _], _ => rfl⟩
  have c_chosen : Cal P w K mg base "chosen" 2 ["state", "number"] (spChosen C_State C_View) f_chosen _ := ⟨ok_chosen F_chosen T c_members, PySem.W.mg_of X G a_chosen, k_chosen, F_chosen.binds (ps := ["state", "number"]) fun _ _ _ _ _ _ us hl => match us, hl with | [_, _], _ => rfl⟩
  have c_begin : Cal P w K mg base "begin" 1 ["state", "questions"] (spC1 C_State C_View fBegin) f_begin _ := ⟨ok_begin F_begin T, PySem.W.mg_of X G a_begin, k_begin, F_begin.binds (ps := ["state", "questions"]) fun _ _ _ _ _ _ us hl => match us, hl with | [_, _], _ => rfl⟩
  have M_View : Mak P w K mg base "View" 2 ["self", "asked"] (spViewInit C_View) C_View f_View _ := ⟨⟨mk_View, a_View, i_View, kc_View⟩, ok_View_init F_View T c_parts, PySem.W.mg_of X G aC_View, F_View.binds (ps := ["self", "asked"]) fun _ _ _ _ _ _ us hl => match us, hl with | [_, _], _ => rfl⟩
  have c_add_view : Cal P w K mg base "add_view" 4 ["state", "asked"] (spC1 C_State C_View fAdd) f_add_view _ := ⟨ok_add_view F_add_view T c_members M_View, PySem.W.mg_of X G a_add_view, k_add_view, F_add_view.binds (ps := ["state", "asked"]) fun _ _ _ _ _ _ us hl => match us, hl with | [_, _], _ => rfl⟩
  have c_drop_view : Cal P w K mg base "drop_view" 1 ["state", "place"] (spC1 C_State C_View fDrop) f_drop_view _ := ⟨ok_drop_view F_drop_view T, PySem.W.mg_of X G a_drop_view, k_drop_view, F_drop_view.binds (ps := ["state", "place"]) fun _ _ _ _ _ _ us hl => match us, hl with | [_, _], _ => rfl⟩
  have c_is_table : Cal P w K mg base "is_table" 1 ["view", "row"] (spIsTable C_View) f_is_table _ := ⟨ok_is_table F_is_table T, PySem.W.mg_of X G a_is_table, k_is_table, F_is_table.binds (ps := ["view", "row"]) fun _ _ _ _ _ _ us hl => match us, hl with | [_, _], _ => rfl⟩
  have c_put_table : Cal P w K mg base "put_table" 2 ["state", "place", "row"] (spCT C_State C_View) f_put_table _ := ⟨ok_put_table F_put_table T c_is_table, PySem.W.mg_of X G a_put_table, k_put_table, F_put_table.binds (ps := ["state", "place", "row"]) fun _ _ _ _ _ _ us hl => match us, hl with | [_, _, _], _ => rfl⟩
  have c_tell_view : Cal P w K mg base "tell_view" 1 ["state", "place"] (spC1 C_State C_View fTell) f_tell_view _ := ⟨ok_tell_view F_tell_view T, PySem.W.mg_of X G a_tell_view, k_tell_view, F_tell_view.binds (ps := ["state", "place"]) fun _ _ _ _ _ _ us hl => match us, hl with | [_, _], _ => rfl⟩
  have c_is_trust : Cal P w K mg base "is_trust" 1 ["trust"] (spIsTrust) f_is_trust _ := ⟨ok_is_trust F_is_trust T, PySem.W.mg_of X G a_is_trust, k_is_trust, F_is_trust.binds (ps := ["trust"]) fun _ _ _ _ _ _ us hl => match us, hl with | [_], _ => rfl⟩
  have c_put_trust : Cal P w K mg base "put_trust" 2 ["state", "place", "trust"] (spC2 C_State C_View fTrust) f_put_trust _ := ⟨ok_put_trust F_put_trust T c_is_trust, PySem.W.mg_of X G a_put_trust, k_put_trust, F_put_trust.binds (ps := ["state", "place", "trust"]) fun _ _ _ _ _ _ us hl => match us, hl with | [_, _, _], _ => rfl⟩
  have M_State : Mak P w K mg base "State" 1 ["self"] (spStateInit C_State) C_State f_State _ := ⟨⟨mk_State, a_State, i_State, kc_State⟩, ok_State_init F_State T, PySem.W.mg_of X G aC_State, F_State.binds (ps := ["self"]) fun _ _ _ _ _ _ us hl => match us, hl with | [_], _ => rfl⟩
  have c_with_other : Cal P w K mg base "with_other" 4 ["state", "place", "table", "trust"] (spOther C_State C_View) f_with_other _ := ⟨ok_with_other F_with_other T M_View M_State, PySem.W.mg_of X G a_with_other, k_with_other, F_with_other.binds (ps := ["state", "place", "table", "trust"]) fun _ _ _ _ _ _ us hl => match us, hl with | [_, _, _, _], _ => rfl⟩
  have c_see_world : Cal P w K mg base "see_world" 3 ["state", "world"] (spC1 C_State C_View fSee) f_see_world _ := ⟨ok_see_world F_see_world T c_shown_row, PySem.W.mg_of X G a_see_world, k_see_world, F_see_world.binds (ps := ["state", "world"]) fun _ _ _ _ _ _ us hl => match us, hl with | [_, _], _ => rfl⟩
  have c_is_tighter : Cal P w K mg base "is_tighter" 1 ["rows", "holders", "column", "place", "other"] (spTighter) f_is_tighter _ := ⟨ok_is_tighter F_is_tighter , PySem.W.mg_of X G a_is_tighter, k_is_tighter, F_is_tighter.binds (ps := ["rows", "holders", "column", "place", "other"]) fun _ _ _ _ _ _ us hl => match us, hl with | [_, _, _, _, _], _ => rfl⟩
  have c_first_above_zero : Cal P w K mg base "first_above_zero" 1 ["row"] (spFirst) f_first_above_zero _ := ⟨ok_first_above_zero F_first_above_zero T, PySem.W.mg_of X G a_first_above_zero, k_first_above_zero, F_first_above_zero.binds (ps := ["row"]) fun _ _ _ _ _ _ us hl => match us, hl with | [_], _ => rfl⟩
  have c_tightest_row : Cal P w K mg base "tightest_row" 2 ["rows", "holders", "column"] (spTightest) f_tightest_row _ := ⟨ok_tightest_row F_tightest_row T c_is_tighter, PySem.W.mg_of X G a_tightest_row, k_tightest_row, F_tightest_row.binds (ps := ["rows", "holders", "column"]) fun _ _ _ _ _ _ us hl => match us, hl with | [_, _, _], _ => rfl⟩
  have c_sum_of_rows : Cal P w K mg base "sum_of_rows" 1 ["rows"] (spSumRows) f_sum_of_rows _ := ⟨ok_sum_of_rows F_sum_of_rows T, PySem.W.mg_of X G a_sum_of_rows, k_sum_of_rows, F_sum_of_rows.binds (ps := ["rows"]) fun _ _ _ _ _ _ us hl => match us, hl with | [_], _ => rfl⟩
  have c_exchanged : Cal P w K mg base "exchanged" 1 ["rows", "place", "column", "scale"] (spExch) f_exchanged _ := ⟨ok_exchanged F_exchanged T, PySem.W.mg_of X G a_exchanged, k_exchanged, F_exchanged.binds (ps := ["rows", "place", "column", "scale"]) fun _ _ _ _ _ _ us hl => match us, hl with | [_, _, _, _], _ => rfl⟩
  have c_solvable : Cal P w K mg base "solvable" 3 ["equations"] (spSolvable) f_solvable _ := ⟨ok_solvable F_solvable T c_sum_of_rows c_first_above_zero c_tightest_row c_exchanged, PySem.W.mg_of X G a_solvable, k_solvable, F_solvable.binds (ps := ["equations"]) fun _ _ _ _ _ _ us hl => match us, hl with | [_], _ => rfl⟩
  have c_shares_of_parts : Cal P w K mg base "shares_of_parts" 2 ["views"] (spShares C_View) f_shares_of_parts _ := ⟨ok_shares_of_parts F_shares_of_parts T c_parts, PySem.W.mg_of X G a_shares_of_parts, k_shares_of_parts, F_shares_of_parts.binds (ps := ["views"]) fun _ _ _ _ _ _ us hl => match us, hl with | [_], _ => rfl⟩
  have c_has_whole : Cal P w K mg base "has_whole" 4 ["questions", "views"] (spAsk C_View dWhole) f_has_whole _ := ⟨ok_has_whole F_has_whole T c_shares_of_parts c_solvable, PySem.W.mg_of X G a_has_whole, k_has_whole, F_has_whole.binds (ps := ["questions", "views"]) fun _ _ _ _ _ _ us hl => match us, hl with | [_, _], _ => rfl⟩
  have c_margin : Cal P w K mg base "margin" 2 ["view", "some"] (spMargin C_View) f_margin _ := ⟨ok_margin F_margin T c_parts, PySem.W.mg_of X G a_margin, k_margin, F_margin.binds (ps := ["view", "some"]) fun _ _ _ _ _ _ us hl => match us, hl with | [_, _], _ => rfl⟩
  have c_agree : Cal P w K mg base "agree" 3 ["one", "other"] (spAgree C_View) f_agree _ := ⟨ok_agree F_agree T c_parts c_margin, PySem.W.mg_of X G a_agree, k_agree, F_agree.binds (ps := ["one", "other"]) fun _ _ _ _ _ _ us hl => match us, hl with | [_, _], _ => rfl⟩
  have c_fits : Cal P w K mg base "fits" 3 ["world", "view"] (spFits C_View) f_fits _ := ⟨ok_fits F_fits T c_shown_row, PySem.W.mg_of X G a_fits, k_fits, F_fits.binds (ps := ["world", "view"]) fun _ _ _ _ _ _ us hl => match us, hl with | [_, _], _ => rfl⟩
  have c_some_world_fits : Cal P w K mg base "some_world_fits" 4 ["questions", "views"] (spAsk C_View dWorld) f_some_world_fits _ := ⟨ok_some_world_fits F_some_world_fits T c_fits, PySem.W.mg_of X G a_some_world_fits, k_some_world_fits, F_some_world_fits.binds (ps := ["questions", "views"]) fun _ _ _ _ _ _ us hl => match us, hl with | [_, _], _ => rfl⟩
  have c_any_two_agree : Cal P w K mg base "any_two_agree" 4 ["views"] (spAny C_View) f_any_two_agree _ := ⟨ok_any_two_agree F_any_two_agree T c_agree, PySem.W.mg_of X G a_any_two_agree, k_any_two_agree, F_any_two_agree.binds (ps := ["views"]) fun _ _ _ _ _ _ us hl => match us, hl with | [_], _ => rfl⟩
  have c_can_be_together : Cal P w K mg base "can_be_together" 5 ["kind", "questions", "views"] (spCan C_View) f_can_be_together _ := ⟨ok_can_be_together F_can_be_together c_some_world_fits c_any_two_agree c_has_whole, PySem.W.mg_of X G a_can_be_together, k_can_be_together, F_can_be_together.binds (ps := ["kind", "questions", "views"]) fun _ _ _ _ _ _ us hl => match us, hl with | [_, _, _], _ => rfl⟩
  have c_parts_can : Cal P w K mg base "parts_can" 2 ["known", "number"] (spPartsCan) f_parts_can _ := ⟨ok_parts_can F_parts_can T c_members, PySem.W.mg_of X G a_parts_can, k_parts_can, F_parts_can.binds (ps := ["known", "number"]) fun _ _ _ _ _ _ us hl => match us, hl with | [_, _], _ => rfl⟩
  have c_together_by_set : Cal P w K mg base "together_by_set" 6 ["state", "kind"] (spBySet C_State C_View) f_together_by_set _ := ⟨ok_together_by_set F_together_by_set T c_parts_can c_can_be_together c_chosen, PySem.W.mg_of X G a_together_by_set, k_together_by_set, F_together_by_set.binds (ps := ["state", "kind"]) fun _ _ _ _ _ _ us hl => match us, hl with | [_, _], _ => rfl⟩
  have c_conflicts : Cal P w K mg base "conflicts" 7 ["state", "kind"] (spList C_State C_View Kp355.conflicts) f_conflicts _ := ⟨ok_conflicts F_conflicts T c_parts_can c_together_by_set, PySem.W.mg_of X G a_conflicts, k_conflicts, F_conflicts.binds (ps := ["state", "kind"]) fun _ _ _ _ _ _ us hl => match us, hl with | [_, _], _ => rfl⟩
  have c_trust_of : Cal P w K mg base "trust_of" 3 ["state", "number"] (spTrustOf C_State C_View) f_trust_of _ := ⟨ok_trust_of F_trust_of T c_chosen, PySem.W.mg_of X G a_trust_of, k_trust_of, F_trust_of.binds (ps := ["state", "number"]) fun _ _ _ _ _ _ us hl => match us, hl with | [_, _], _ => rfl⟩
  have c_answer_change : Cal P w K mg base "answer_change" 11 ["state", "call", "numbers"] (spCallOn [(PT_fewest, (envOfC "fewest" (defScope s_fewest) 0 f_fewest (.ref cc_fewest)).qual ++ "<lambda>"), (PT_cheapest, (envOfC "cheapest" (defScope s_cheapest) 0 f_cheapest (.ref cc_cheapest)).qual ++ "<lambda>")] C_State C_View PlC) f_answer_change _ := ⟨ok_answer_change F_answer_change T c_add_view c_drop_view c_put_table c_tell_view c_see_world c_put_trust, PySem.W.mg_of X G a_answer_change, k_answer_change, F_answer_change.binds (ps := ["state", "call", "numbers"]) fun _ _ _ _ _ _ us hl => match us, hl with | [_, _, _], _ => rfl⟩
  have c_others_of : Cal P w K mg base "others_of" 1 ["state", "number"] (spOthers C_State C_View) f_others_of _ := ⟨ok_others_of F_others_of T, PySem.W.mg_of X G a_others_of, k_others_of, F_others_of.binds (ps := ["state", "number"]) fun _ _ _ _ _ _ us hl => match us, hl with | [_, _], _ => rfl⟩
  have c_is_enough : Cal P w K mg base "is_enough" 6 ["state", "kind", "number"] (spEnough C_State C_View) f_is_enough _ := ⟨ok_is_enough F_is_enough T c_can_be_together c_chosen c_others_of, PySem.W.mg_of X G a_is_enough, k_is_enough, F_is_enough.binds (ps := ["state", "kind", "number"]) fun _ _ _ _ _ _ us hl => match us, hl with | [_, _, _], _ => rfl⟩
  have c_enough_sets : Cal P w K mg base "enough_sets" 7 ["state", "kind"] (spList C_State C_View Db.enoughs) f_enough_sets _ := ⟨ok_enough_sets F_enough_sets T c_together_by_set c_others_of, PySem.W.mg_of X G a_enough_sets, k_enough_sets, F_enough_sets.binds (ps := ["state", "kind"]) fun _ _ _ _ _ _ us hl => match us, hl with | [_, _], _ => rfl⟩
  have c_ways_out : Cal P w K mg base "ways_out" 8 ["state", "kind"] (spList C_State C_View Kp355.ways) f_ways_out _ := ⟨ok_ways_out F_ways_out T c_enough_sets c_members, PySem.W.mg_of X G a_ways_out, k_ways_out, F_ways_out.binds (ps := ["state", "kind"]) fun _ _ _ _ _ _ us hl => match us, hl with | [_, _], _ => rfl⟩
  have c_how_many_hold : Cal P w K mg base "how_many_hold" 1 ["sets", "place"] (spHold) f_how_many_hold _ := ⟨ok_how_many_hold F_how_many_hold T, PySem.W.mg_of X G a_how_many_hold, k_how_many_hold, F_how_many_hold.binds (ps := ["sets", "place"]) fun _ _ _ _ _ _ us hl => match us, hl with | [_, _], _ => rfl⟩
  have c_never_doubted : Cal P w K mg base "never_doubted" 8 ["state", "kind"] (spList C_State C_View Kp355.never) f_never_doubted _ := ⟨ok_never_doubted F_never_doubted T c_conflicts c_how_many_hold, PySem.W.mg_of X G a_never_doubted, k_never_doubted, F_never_doubted.binds (ps := ["state", "kind"]) fun _ _ _ _ _ _ us hl => match us, hl with | [_, _], _ => rfl⟩
  have c_always_doubted : Cal P w K mg base "always_doubted" 9 ["state", "kind"] (spList C_State C_View Kp355.always) f_always_doubted _ := ⟨ok_always_doubted F_always_doubted T c_ways_out c_how_many_hold, PySem.W.mg_of X G a_always_doubted, k_always_doubted, F_always_doubted.binds (ps := ["state", "kind"]) fun _ _ _ _ _ _ us hl => match us, hl with | [_, _], _ => rfl⟩
  have c_fewest : Cal P w K mg base "fewest" 8 ["state", "kind"] (spBest [(PT_fewest, (envOfC "fewest" (defScope s_fewest) 0 f_fewest (.ref cc_fewest)).qual ++ "<lambda>"), (PT_cheapest, (envOfC "cheapest" (defScope s_cheapest) 0 f_cheapest (.ref cc_cheapest)).qual ++ "<lambda>")] C_State C_View Kp355.fewest) f_fewest _ := ⟨ok_fewest FC_fewest T hB_fewest (by simp) (fun y hy e => huT (PT_fewest, (envOfC "fewest" (defScope s_fewest) 0 f_fewest (.ref cc_fewest)).qual ++ "<lambda>") y (by simp) hy e) c_members c_enough_sets, PySem.W.mg_of X G a_fewest, k_fewest, F_fewest.binds (ps := ["state", "kind"]) fun _ _ _ _ _ _ us hl => match us, hl with | [_, _], _ => rfl⟩
  have c_cheapest : Cal P w K mg base "cheapest" 8 ["state", "kind"] (spBest [(PT_fewest, (envOfC "fewest" (defScope s_fewest) 0 f_fewest (.ref cc_fewest)).qual ++ "<lambda>"), (PT_cheapest, (envOfC "cheapest" (defScope s_cheapest) 0 f_cheapest (.ref cc_cheapest)).qual ++ "<lambda>")] C_State C_View Kp355.cheapest) f_cheapest _ := ⟨ok_cheapest FC_cheapest T hB_cheapest (by simp) (fun y hy e => huT (PT_cheapest, (envOfC "cheapest" (defScope s_cheapest) 0 f_cheapest (.ref cc_cheapest)).qual ++ "<lambda>") y (by simp) hy e) c_members c_enough_sets c_trust_of, PySem.W.mg_of X G a_cheapest, k_cheapest, F_cheapest.binds (ps := ["state", "kind"]) fun _ _ _ _ _ _ us hl => match us, hl with | [_, _], _ => rfl⟩
  have c_is_set_of_views : Cal P w K mg base "is_set_of_views" 1 ["state", "number"] (spIsSet C_State C_View) f_is_set_of_views _ := ⟨ok_is_set_of_views F_is_set_of_views T, PySem.W.mg_of X G a_is_set_of_views, k_is_set_of_views, F_is_set_of_views.binds (ps := ["state", "number"]) fun _ _ _ _ _ _ us hl => match us, hl with | [_, _], _ => rfl⟩
  have c_yes_or_no : Cal P w K mg base "yes_or_no" 1 ["holds"] (spYes) f_yes_or_no _ := ⟨ok_yes_or_no F_yes_or_no , PySem.W.mg_of X G a_yes_or_no, k_yes_or_no, F_yes_or_no.binds (ps := ["holds"]) fun _ _ _ _ _ _ us hl => match us, hl with | [_], _ => rfl⟩
  have c_counted : Cal P w K mg base "counted" 1 ["found"] (spCounted) f_counted _ := ⟨ok_counted F_counted T, PySem.W.mg_of X G a_counted, k_counted, F_counted.binds (ps := ["found"]) fun _ _ _ _ _ _ us hl => match us, hl with | [_], _ => rfl⟩
  have c_doubt_told : Cal P w K mg base "doubt_told" 4 ["state", "number"] (spTold C_State C_View) f_doubt_told _ := ⟨ok_doubt_told F_doubt_told T c_members c_trust_of, PySem.W.mg_of X G a_doubt_told, k_doubt_told, F_doubt_told.binds (ps := ["state", "number"]) fun _ _ _ _ _ _ us hl => match us, hl with | [_, _], _ => rfl⟩
  have c_ask_together : Cal P w K mg base "ask_together" 6 ["state", "kind", "number"] (spA2 [(PT_fewest, (envOfC "fewest" (defScope s_fewest) 0 f_fewest (.ref cc_fewest)).qual ++ "<lambda>"), (PT_cheapest, (envOfC "cheapest" (defScope s_cheapest) 0 f_cheapest (.ref cc_cheapest)).qual ++ "<lambda>")] C_State C_View (aYes Kp355.together)) f_ask_together _ := ⟨ok_ask_together F_ask_together T c_can_be_together c_chosen c_is_set_of_views c_yes_or_no, PySem.W.mg_of X G a_ask_together, k_ask_together, F_ask_together.binds (ps := ["state", "kind", "number"]) fun _ _ _ _ _ _ us hl => match us, hl with | [_, _, _], _ => rfl⟩
  have c_ask_enough : Cal P w K mg base "ask_enough" 7 ["state", "kind", "number"] (spA2 [(PT_fewest, (envOfC "fewest" (defScope s_fewest) 0 f_fewest (.ref cc_fewest)).qual ++ "<lambda>"), (PT_cheapest, (envOfC "cheapest" (defScope s_cheapest) 0 f_cheapest (.ref cc_cheapest)).qual ++ "<lambda>")] C_State C_View (aYes Kp355.enough)) f_ask_enough _ := ⟨ok_ask_enough F_ask_enough T c_is_enough c_is_set_of_views c_yes_or_no, PySem.W.mg_of X G a_ask_enough, k_ask_enough, F_ask_enough.binds (ps := ["state", "kind", "number"]) fun _ _ _ _ _ _ us hl => match us, hl with | [_, _, _], _ => rfl⟩
  have c_ask_cost : Cal P w K mg base "ask_cost" 4 ["state", "number"] (spA0 [(PT_fewest, (envOfC "fewest" (defScope s_fewest) 0 f_fewest (.ref cc_fewest)).qual ++ "<lambda>"), (PT_cheapest, (envOfC "cheapest" (defScope s_cheapest) 0 f_cheapest (.ref cc_cheapest)).qual ++ "<lambda>")] C_State C_View aCost) f_ask_cost _ := ⟨ok_ask_cost F_ask_cost T c_trust_of c_is_set_of_views, PySem.W.mg_of X G a_ask_cost, k_ask_cost, F_ask_cost.binds (ps := ["state", "number"]) fun _ _ _ _ _ _ us hl => match us, hl with | [_, _], _ => rfl⟩
  have c_ask_blame : Cal P w K mg base "ask_blame" 8 ["state", "kind", "place"] (spA2 [(PT_fewest, (envOfC "fewest" (defScope s_fewest) 0 f_fewest (.ref cc_fewest)).qual ++ "<lambda>"), (PT_cheapest, (envOfC "cheapest" (defScope s_cheapest) 0 f_cheapest (.ref cc_cheapest)).qual ++ "<lambda>")] C_State C_View aBlame) f_ask_blame _ := ⟨ok_ask_blame F_ask_blame T c_conflicts c_how_many_hold, PySem.W.mg_of X G a_ask_blame, k_ask_blame, F_ask_blame.binds (ps := ["state", "kind", "place"]) fun _ _ _ _ _ _ us hl => match us, hl with | [_, _, _], _ => rfl⟩
  have c_ask_conflicts : Cal P w K mg base "ask_conflicts" 8 ["state", "kind"] (spA1 [(PT_fewest, (envOfC "fewest" (defScope s_fewest) 0 f_fewest (.ref cc_fewest)).qual ++ "<lambda>"), (PT_cheapest, (envOfC "cheapest" (defScope s_cheapest) 0 f_cheapest (.ref cc_cheapest)).qual ++ "<lambda>")] C_State C_View (aRow Kp355.conflicts)) f_ask_conflicts _ := ⟨ok_ask_conflicts F_ask_conflicts c_conflicts c_counted, PySem.W.mg_of X G a_ask_conflicts, k_ask_conflicts, F_ask_conflicts.binds (ps := ["state", "kind"]) fun _ _ _ _ _ _ us hl => match us, hl with | [_, _], _ => rfl⟩
  have c_ask_ways : Cal P w K mg base "ask_ways" 9 ["state", "kind"] (spA1 [(PT_fewest, (envOfC "fewest" (defScope s_fewest) 0 f_fewest (.ref cc_fewest)).qual ++ "<lambda>"), (PT_cheapest, (envOfC "cheapest" (defScope s_cheapest) 0 f_cheapest (.ref cc_cheapest)).qual ++ "<lambda>")] C_State C_View (aRow Kp355.ways)) f_ask_ways _ := ⟨ok_ask_ways F_ask_ways c_ways_out c_counted, PySem.W.mg_of X G a_ask_ways, k_ask_ways, F_ask_ways.binds (ps := ["state", "kind"]) fun _ _ _ _ _ _ us hl => match us, hl with | [_, _], _ => rfl⟩
  have c_ask_never : Cal P w K mg base "ask_never" 9 ["state", "kind"] (spA1 [(PT_fewest, (envOfC "fewest" (defScope s_fewest) 0 f_fewest (.ref cc_fewest)).qual ++ "<lambda>"), (PT_cheapest, (envOfC "cheapest" (defScope s_cheapest) 0 f_cheapest (.ref cc_cheapest)).qual ++ "<lambda>")] C_State C_View (aRow Kp355.never)) f_ask_never _ := ⟨ok_ask_never F_ask_never c_never_doubted c_counted, PySem.W.mg_of X G a_ask_never, k_ask_never, F_ask_never.binds (ps := ["state", "kind"]) fun _ _ _ _ _ _ us hl => match us, hl with | [_, _], _ => rfl⟩
  have c_ask_always : Cal P w K mg base "ask_always" 10 ["state", "kind"] (spA1 [(PT_fewest, (envOfC "fewest" (defScope s_fewest) 0 f_fewest (.ref cc_fewest)).qual ++ "<lambda>"), (PT_cheapest, (envOfC "cheapest" (defScope s_cheapest) 0 f_cheapest (.ref cc_cheapest)).qual ++ "<lambda>")] C_State C_View (aRow Kp355.always)) f_ask_always _ := ⟨ok_ask_always F_ask_always c_always_doubted c_counted, PySem.W.mg_of X G a_ask_always, k_ask_always, F_ask_always.binds (ps := ["state", "kind"]) fun _ _ _ _ _ _ us hl => match us, hl with | [_, _], _ => rfl⟩
  have c_ask_kept : Cal P w K mg base "ask_kept" 9 ["state", "kind"] (spA1 [(PT_fewest, (envOfC "fewest" (defScope s_fewest) 0 f_fewest (.ref cc_fewest)).qual ++ "<lambda>"), (PT_cheapest, (envOfC "cheapest" (defScope s_cheapest) 0 f_cheapest (.ref cc_cheapest)).qual ++ "<lambda>")] C_State C_View (aRow keptOf)) f_ask_kept _ := ⟨ok_ask_kept F_ask_kept T c_fewest c_counted c_members c_others_of, PySem.W.mg_of X G a_ask_kept, k_ask_kept, F_ask_kept.binds (ps := ["state", "kind"]) fun _ _ _ _ _ _ us hl => match us, hl with | [_, _], _ => rfl⟩
  have c_ask_fewest : Cal P w K mg base "ask_fewest" 9 ["state", "kind"] (spA1 [(PT_fewest, (envOfC "fewest" (defScope s_fewest) 0 f_fewest (.ref cc_fewest)).qual ++ "<lambda>"), (PT_cheapest, (envOfC "cheapest" (defScope s_cheapest) 0 f_cheapest (.ref cc_cheapest)).qual ++ "<lambda>")] C_State C_View (aSet Kp355.fewest)) f_ask_fewest _ := ⟨ok_ask_fewest F_ask_fewest T c_fewest c_doubt_told, PySem.W.mg_of X G a_ask_fewest, k_ask_fewest, F_ask_fewest.binds (ps := ["state", "kind"]) fun _ _ _ _ _ _ us hl => match us, hl with | [_, _], _ => rfl⟩
  have c_ask_cheapest : Cal P w K mg base "ask_cheapest" 9 ["state", "kind"] (spA1 [(PT_fewest, (envOfC "fewest" (defScope s_fewest) 0 f_fewest (.ref cc_fewest)).qual ++ "<lambda>"), (PT_cheapest, (envOfC "cheapest" (defScope s_cheapest) 0 f_cheapest (.ref cc_cheapest)).qual ++ "<lambda>")] C_State C_View (aSet Kp355.cheapest)) f_ask_cheapest _ := ⟨ok_ask_cheapest F_ask_cheapest T c_cheapest c_doubt_told, PySem.W.mg_of X G a_ask_cheapest, k_ask_cheapest, F_ask_cheapest.binds (ps := ["state", "kind"]) fun _ _ _ _ _ _ us hl => match us, hl with | [_, _], _ => rfl⟩
  have c_ask_if_table : Cal P w K mg base "ask_if_table" 10 ["state", "kind", "place", "row"] (spAT [(PT_fewest, (envOfC "fewest" (defScope s_fewest) 0 f_fewest (.ref cc_fewest)).qual ++ "<lambda>"), (PT_cheapest, (envOfC "cheapest" (defScope s_cheapest) 0 f_cheapest (.ref cc_cheapest)).qual ++ "<lambda>")] C_State C_View aIfTable) f_ask_if_table _ := ⟨ok_ask_if_table F_ask_if_table T c_is_table c_ask_fewest c_with_other, PySem.W.mg_of X G a_ask_if_table, k_ask_if_table, F_ask_if_table.binds (ps := ["state", "kind", "place", "row"]) fun _ _ _ _ _ _ us hl => match us, hl with | [_, _, _, _], _ => rfl⟩
  have c_ask_if_trust : Cal P w K mg base "ask_if_trust" 10 ["state", "kind", "place", "trust"] (spA3 [(PT_fewest, (envOfC "fewest" (defScope s_fewest) 0 f_fewest (.ref cc_fewest)).qual ++ "<lambda>"), (PT_cheapest, (envOfC "cheapest" (defScope s_cheapest) 0 f_cheapest (.ref cc_cheapest)).qual ++ "<lambda>")] C_State C_View aIfTrust) f_ask_if_trust _ := ⟨ok_ask_if_trust F_ask_if_trust T c_is_trust c_ask_cheapest c_with_other, PySem.W.mg_of X G a_ask_if_trust, k_ask_if_trust, F_ask_if_trust.binds (ps := ["state", "kind", "place", "trust"]) fun _ _ _ _ _ _ us hl => match us, hl with | [_, _, _, _], _ => rfl⟩
  have c_answer_of_all : Cal P w K mg base "answer_of_all" 11 ["state", "call", "kind"] (spOfAll [(PT_fewest, (envOfC "fewest" (defScope s_fewest) 0 f_fewest (.ref cc_fewest)).qual ++ "<lambda>"), (PT_cheapest, (envOfC "cheapest" (defScope s_cheapest) 0 f_cheapest (.ref cc_cheapest)).qual ++ "<lambda>")] C_State C_View) f_answer_of_all _ := ⟨ok_answer_of_all F_answer_of_all c_ask_conflicts c_ask_fewest c_ask_cheapest c_ask_ways c_ask_never c_ask_always c_ask_kept, PySem.W.mg_of X G a_answer_of_all, k_answer_of_all, F_answer_of_all.binds (ps := ["state", "call", "kind"]) fun _ _ _ _ _ _ us hl => match us, hl with | [_, _, _], _ => rfl⟩
  have c_answer_of_some : Cal P w K mg base "answer_of_some" 11 ["state", "call", "kind", "numbers"] (spOfSome [(PT_fewest, (envOfC "fewest" (defScope s_fewest) 0 f_fewest (.ref cc_fewest)).qual ++ "<lambda>"), (PT_cheapest, (envOfC "cheapest" (defScope s_cheapest) 0 f_cheapest (.ref cc_cheapest)).qual ++ "<lambda>")] C_State C_View) f_answer_of_some _ := ⟨ok_answer_of_some F_answer_of_some c_ask_together c_ask_blame c_ask_enough c_ask_if_table c_ask_if_trust, PySem.W.mg_of X G a_answer_of_some, k_answer_of_some, F_answer_of_some.binds (ps := ["state", "call", "kind", "numbers"]) fun _ _ _ _ _ _ us hl => match us, hl with | [_, _, _, _], _ => rfl⟩
  have c_answer_question : Cal P w K mg base "answer_question" 12 ["state", "call", "numbers"] (spCallOn [(PT_fewest, (envOfC "fewest" (defScope s_fewest) 0 f_fewest (.ref cc_fewest)).qual ++ "<lambda>"), (PT_cheapest, (envOfC "cheapest" (defScope s_cheapest) 0 f_cheapest (.ref cc_cheapest)).qual ++ "<lambda>")] C_State C_View PlQ) f_answer_question _ := ⟨ok_answer_question F_answer_question T c_ask_cost c_answer_of_all c_answer_of_some, PySem.W.mg_of X G a_answer_question, k_answer_question, F_answer_question.binds (ps := ["state", "call", "numbers"]) fun _ _ _ _ _ _ us hl => match us, hl with | [_, _, _], _ => rfl⟩
  have c_answer_call : Cal P w K mg base "answer_call" 13 ["state", "call", "numbers"] (spCallOn [(PT_fewest, (envOfC "fewest" (defScope s_fewest) 0 f_fewest (.ref cc_fewest)).qual ++ "<lambda>"), (PT_cheapest, (envOfC "cheapest" (defScope s_cheapest) 0 f_cheapest (.ref cc_cheapest)).qual ++ "<lambda>")] C_State C_View fun _ _ => True) f_answer_call _ := ⟨ok_answer_call F_answer_call T c_begin c_answer_change c_answer_question, PySem.W.mg_of X G a_answer_call, k_answer_call, F_answer_call.binds (ps := ["state", "call", "numbers"]) fun _ _ _ _ _ _ us hl => match us, hl with | [_, _, _], _ => rfl⟩
  exact ok_answers F_answers T M_State c_answer_call
end Dv
end
set_option Elab.async false
set_option maxRecDepth 100000
set_option exponentiation.threshold 2000
open PySem PySem.W PyProof.Rows
set_option maxRecDepth 100000 in
set_option maxHeartbeats 0 in
theorem PySem.Challenge.cw_doubtviews_s01_answers_holds : PySem.Challenge.rw_doubtviews_s01_answers.Holds := by
  w_on; k_headS; (case hw => exact ⟨[.list [.int 0, .int 1, .int 2, .int 0]], by decide +kernel, by decide +kernel⟩)
  k_fillS
  refine MinK.walk_specT (r := PySem.Challenge.rw_doubtviews_s01_answers) (k := 14) (CX := L2.CX0) (ps := ["calls"]) (by decide +kernel) rfl rfl ⟨rfl, by decide, by decide⟩ (fun w h Y => PySem.W.kIn_of Y) ?F (fun _ _ _ _ z => z)
  case F =>
    intro w mg fa h Y KX G hmg TB
    refine' Dv.all_mk KX G hmg TB ?aC_View ?a_View ?i_View ?l_View ?c_View ?k_View ?pg_View ?hd_View ?po_View ?sa_View ?mk_View ?kc_View ?n_View_asked ?n_View_table ?n_View_trust ?aC_State ?a_State ?i_State ?l_State ?c_State ?k_State ?pg_State ?hd_State ?po_State ?sa_State ?mk_State ?kc_State ?n_State_questions ?n_State_views ?a_members ?l_members ?c_members ?k_members ?a_parts ?l_parts ?c_parts ?k_parts ?a_shown_row ?l_shown_row ?c_shown_row ?k_shown_row ?a_chosen ?l_chosen ?c_chosen ?k_chosen ?a_begin ?l_begin ?c_begin ?k_begin ?a_add_view ?l_add_view ?c_add_view ?k_add_view ?a_drop_view ?l_drop_view ?c_drop_view ?k_drop_view ?a_is_table ?l_is_table ?c_is_table ?k_is_table ?a_put_table ?l_put_table ?c_put_table ?k_put_table ?a_tell_view ?l_tell_view ?c_tell_view ?k_tell_view ?a_is_trust ?l_is_trust ?c_is_trust ?k_is_trust ?a_put_trust ?l_put_trust ?c_put_trust ?k_put_trust ?a_with_other ?l_with_other ?c_with_other ?k_with_other ?a_see_world ?l_see_world ?c_see_world ?k_see_world ?a_is_tighter ?l_is_tighter ?c_is_tighter ?k_is_tighter ?a_first_above_zero ?l_first_above_zero ?c_first_above_zero ?k_first_above_zero ?a_tightest_row ?l_tightest_row ?c_tightest_row ?k_tightest_row ?a_sum_of_rows ?l_sum_of_rows ?c_sum_of_rows ?k_sum_of_rows ?a_exchanged ?l_exchanged ?c_exchanged ?k_exchanged ?a_solvable ?l_solvable ?c_solvable ?k_solvable ?a_shares_of_parts ?l_shares_of_parts ?c_shares_of_parts ?k_shares_of_parts ?a_has_whole ?l_has_whole ?c_has_whole ?k_has_whole ?a_margin ?l_margin ?c_margin ?k_margin ?a_agree ?l_agree ?c_agree ?k_agree ?a_fits ?l_fits ?c_fits ?k_fits ?a_some_world_fits ?l_some_world_fits ?c_some_world_fits ?k_some_world_fits ?a_any_two_agree ?l_any_two_agree ?c_any_two_agree ?k_any_two_agree ?a_can_be_together ?l_can_be_together ?c_can_be_together ?k_can_be_together ?a_parts_can ?l_parts_can ?c_parts_can ?k_parts_can ?a_together_by_set ?l_together_by_set ?c_together_by_set ?k_together_by_set ?a_conflicts ?l_conflicts ?c_conflicts ?k_conflicts ?a_trust_of ?l_trust_of ?c_trust_of ?k_trust_of ?a_answer_change ?l_answer_change ?c_answer_change ?k_answer_change ?a_others_of ?l_others_of ?c_others_of ?k_others_of ?a_is_enough ?l_is_enough ?c_is_enough ?k_is_enough ?a_enough_sets ?l_enough_sets ?c_enough_sets ?k_enough_sets ?a_ways_out ?l_ways_out ?c_ways_out ?k_ways_out ?a_how_many_hold ?l_how_many_hold ?c_how_many_hold ?k_how_many_hold ?a_never_doubted ?l_never_doubted ?c_never_doubted ?k_never_doubted ?a_always_doubted ?l_always_doubted ?c_always_doubted ?k_always_doubted ?a_fewest ?l_fewest ?c_fewest ?k_fewest ?t1_fewest ?t2_fewest ?t3_fewest ?a_cheapest ?l_cheapest ?c_cheapest ?k_cheapest ?t1_cheapest ?t2_cheapest ?t3_cheapest ?a_is_set_of_views ?l_is_set_of_views ?c_is_set_of_views ?k_is_set_of_views ?a_yes_or_no ?l_yes_or_no ?c_yes_or_no ?k_yes_or_no ?a_counted ?l_counted ?c_counted ?k_counted ?a_doubt_told ?l_doubt_told ?c_doubt_told ?k_doubt_told ?a_ask_together ?l_ask_together ?c_ask_together ?k_ask_together ?a_ask_enough ?l_ask_enough ?c_ask_enough ?k_ask_enough ?a_ask_cost ?l_ask_cost ?c_ask_cost ?k_ask_cost ?a_ask_blame ?l_ask_blame ?c_ask_blame ?k_ask_blame ?a_ask_conflicts ?l_ask_conflicts ?c_ask_conflicts ?k_ask_conflicts ?a_ask_ways ?l_ask_ways ?c_ask_ways ?k_ask_ways ?a_ask_never ?l_ask_never ?c_ask_never ?k_ask_never ?a_ask_always ?l_ask_always ?c_ask_always ?k_ask_always ?a_ask_kept ?l_ask_kept ?c_ask_kept ?k_ask_kept ?a_ask_fewest ?l_ask_fewest ?c_ask_fewest ?k_ask_fewest ?a_ask_cheapest ?l_ask_cheapest ?c_ask_cheapest ?k_ask_cheapest ?a_ask_if_table ?l_ask_if_table ?c_ask_if_table ?k_ask_if_table ?a_ask_if_trust ?l_ask_if_trust ?c_ask_if_trust ?k_ask_if_trust ?a_answer_of_all ?l_answer_of_all ?c_answer_of_all ?k_answer_of_all ?a_answer_of_some ?l_answer_of_some ?c_answer_of_some ?k_answer_of_some ?a_answer_question ?l_answer_question ?c_answer_question ?k_answer_question ?a_answer_call ?l_answer_call ?c_answer_call ?k_answer_call ?a_answers ?l_answers ?c_answers ?k_answers ?u_fewest_cheapest ?u_cheapest_fewest ?z_len ?z_range ?z_sum ?z_all ?z_any ?z_max ?z_min ?z_list ?z_enumerate ?z_zip ?g_NO_VIEW ?g_NOT_BEGUN ?g_TAKEN ?g_WRONG ?g_FULL ?g_MOST_VIEWS ?g_MOST_SEEN ?g_MOST_TRUST ?g_HIGHEST_KIND ?r_fewest ?r_cheapest
    (case aC_View => k_is); (case a_View => k_is); (case i_View => k_is); (case l_View => k_is); (case c_View => k_is); (case k_View => k_is); (case pg_View => k_is); (case hd_View => k_is); (case po_View => k_is); (case sa_View => k_is); (case mk_View => k_is); (case kc_View => k_is); (case n_View_asked => k_is); (case n_View_table => k_is); (case n_View_trust => k_is); (case aC_State => k_is); (case a_State => k_is); (case i_State => k_is); (case l_State => k_is); (case c_State => k_is); (case k_State => k_is); (case pg_State => k_is); (case hd_State => k_is); (case po_State => k_is); (case sa_State => k_is); (case mk_State => k_is); (case kc_State => k_is); (case n_State_questions => k_is); (case n_State_views => k_is); (case a_members => k_is); (case l_members => k_is); (case c_members => k_is); (case k_members => k_is); (case a_parts => k_is); (case l_parts => k_is); (case c_parts => k_is); (case k_parts => k_is); (case a_shown_row => k_is); (case l_shown_row => k_is); (case c_shown_row => k_is); (case k_shown_row => k_is); (case a_chosen => k_is); (case l_chosen => k_is); (case c_chosen => k_is); (case k_chosen => k_is); (case a_begin => k_is); (case l_begin => k_is); (case c_begin => k_is); (case k_begin => k_is); (case a_add_view => k_is); (case l_add_view => k_is); (case c_add_view => k_is); (case k_add_view => k_is); (case a_drop_view => k_is); (case l_drop_view => k_is); (case c_drop_view => k_is); (case k_drop_view => k_is); (case a_is_table => k_is); (case l_is_table => k_is); (case c_is_table => k_is); (case k_is_table => k_is); (case a_put_table => k_is); (case l_put_table => k_is); (case c_put_table => k_is); (case k_put_table => k_is); (case a_tell_view => k_is); (case l_tell_view => k_is); (case c_tell_view => k_is); (case k_tell_view => k_is); (case a_is_trust => k_is); (case l_is_trust => k_is); (case c_is_trust => k_is); (case k_is_trust => k_is); (case a_put_trust => k_is); (case l_put_trust => k_is); (case c_put_trust => k_is); (case k_put_trust => k_is); (case a_with_other => k_is); (case l_with_other => k_is); (case c_with_other => k_is); (case k_with_other => k_is); (case a_see_world => k_is); (case l_see_world => k_is); (case c_see_world => k_is); (case k_see_world => k_is); (case a_is_tighter => k_is); (case l_is_tighter => k_is); (case c_is_tighter => k_is); (case k_is_tighter => k_is); (case a_first_above_zero => k_is); (case l_first_above_zero => k_is); (case c_first_above_zero => k_is); (case k_first_above_zero => k_is); (case a_tightest_row => k_is); (case l_tightest_row => k_is); (case c_tightest_row => k_is); (case k_tightest_row => k_is); (case a_sum_of_rows => k_is); (case l_sum_of_rows => k_is); (case c_sum_of_rows => k_is); (case k_sum_of_rows => k_is); (case a_exchanged => k_is); (case l_exchanged => k_is); (case c_exchanged => k_is); (case k_exchanged => k_is); (case a_solvable => k_is); (case l_solvable => k_is); (case c_solvable => k_is); (case k_solvable => k_is); (case a_shares_of_parts => k_is); (case l_shares_of_parts => k_is); (case c_shares_of_parts => k_is); (case k_shares_of_parts => k_is); (case a_has_whole => k_is); (case l_has_whole => k_is); (case c_has_whole => k_is); (case k_has_whole => k_is); (case a_margin => k_is); (case l_margin => k_is); (case c_margin => k_is); (case k_margin => k_is); (case a_agree => k_is); (case l_agree => k_is); (case c_agree => k_is); (case k_agree => k_is); (case a_fits => k_is); (case l_fits => k_is); (case c_fits => k_is); (case k_fits => k_is); (case a_some_world_fits => k_is); (case l_some_world_fits => k_is); (case c_some_world_fits => k_is); (case k_some_world_fits => k_is); (case a_any_two_agree => k_is); (case l_any_two_agree => k_is); (case c_any_two_agree => k_is); (case k_any_two_agree => k_is); (case a_can_be_together => k_is); (case l_can_be_together => k_is); (case c_can_be_together => k_is); (case k_can_be_together => k_is); (case a_parts_can => k_is); (case l_parts_can => k_is); (case c_parts_can => k_is); (case k_parts_can => k_is); (case a_together_by_set => k_is); (case l_together_by_set => k_is); (case c_together_by_set => k_is); (case k_together_by_set => k_is); (case a_conflicts => k_is); (case l_conflicts => k_is); (case c_conflicts => k_is); (case k_conflicts => k_is); (case a_trust_of => k_is); (case l_trust_of => k_is); (case c_trust_of => k_is); (case k_trust_of => k_is); (case a_answer_change => k_is); (case l_answer_change => k_is); (case c_answer_change => k_is); (case k_answer_change => k_is); (case a_others_of => k_is); (case l_others_of => k_is); (case c_others_of => k_is); (case k_others_of => k_is); (case a_is_enough => k_is); (case l_is_enough => k_is); (case c_is_enough => k_is); (case k_is_enough => k_is); (case a_enough_sets => k_is); (case l_enough_sets => k_is); (case c_enough_sets => k_is); (case k_enough_sets => k_is); (case a_ways_out => k_is); (case l_ways_out => k_is); (case c_ways_out => k_is); (case k_ways_out => k_is); (case a_how_many_hold => k_is); (case l_how_many_hold => k_is); (case c_how_many_hold => k_is); (case k_how_many_hold => k_is); (case a_never_doubted => k_is); (case l_never_doubted => k_is); (case c_never_doubted => k_is); (case k_never_doubted => k_is); (case a_always_doubted => k_is); (case l_always_doubted => k_is); (case c_always_doubted => k_is); (case k_always_doubted => k_is); (case a_fewest => k_is); (case l_fewest => k_is); (case c_fewest => k_is); (case k_fewest => k_is); (case t1_fewest => k_is); (case t2_fewest => rfl); (case t3_fewest => first | k_is | kernel_rfl | decide +kernel); (case a_cheapest => k_is); (case l_cheapest => k_is); (case c_cheapest => k_is); (case k_cheapest => k_is); (case t1_cheapest => k_is); (case t2_cheapest => rfl); (case t3_cheapest => first | k_is | kernel_rfl | decide +kernel); (case a_is_set_of_views => k_is); (case l_is_set_of_views => k_is); (case c_is_set_of_views => k_is); (case k_is_set_of_views => k_is); (case a_yes_or_no => k_is); (case l_yes_or_no => k_is); (case c_yes_or_no => k_is); (case k_yes_or_no => k_is); (case a_counted => k_is); (case l_counted => k_is); (case c_counted => k_is); (case k_counted => k_is); (case a_doubt_told => k_is); (case l_doubt_told => k_is); (case c_doubt_told => k_is); (case k_doubt_told => k_is); (case a_ask_together => k_is); (case l_ask_together => k_is); (case c_ask_together => k_is); (case k_ask_together => k_is); (case a_ask_enough => k_is); (case l_ask_enough => k_is); (case c_ask_enough => k_is); (case k_ask_enough => k_is); (case a_ask_cost => k_is); (case l_ask_cost => k_is); (case c_ask_cost => k_is); (case k_ask_cost => k_is); (case a_ask_blame => k_is); (case l_ask_blame => k_is); (case c_ask_blame => k_is); (case k_ask_blame => k_is); (case a_ask_conflicts => k_is); (case l_ask_conflicts => k_is); (case c_ask_conflicts => k_is); (case k_ask_conflicts => k_is); (case a_ask_ways => k_is); (case l_ask_ways => k_is); (case c_ask_ways => k_is); (case k_ask_ways => k_is); (case a_ask_never => k_is); (case l_ask_never => k_is); (case c_ask_never => k_is); (case k_ask_never => k_is); (case a_ask_always => k_is); (case l_ask_always => k_is); (case c_ask_always => k_is); (case k_ask_always => k_is); (case a_ask_kept => k_is); (case l_ask_kept => k_is); (case c_ask_kept => k_is); (case k_ask_kept => k_is); (case a_ask_fewest => k_is); (case l_ask_fewest => k_is); (case c_ask_fewest => k_is); (case k_ask_fewest => k_is); (case a_ask_cheapest => k_is); (case l_ask_cheapest => k_is); (case c_ask_cheapest => k_is); (case k_ask_cheapest => k_is); (case a_ask_if_table => k_is); (case l_ask_if_table => k_is); (case c_ask_if_table => k_is); (case k_ask_if_table => k_is); (case a_ask_if_trust => k_is); (case l_ask_if_trust => k_is); (case c_ask_if_trust => k_is); (case k_ask_if_trust => k_is); (case a_answer_of_all => k_is); (case l_answer_of_all => k_is); (case c_answer_of_all => k_is); (case k_answer_of_all => k_is); (case a_answer_of_some => k_is); (case l_answer_of_some => k_is); (case c_answer_of_some => k_is); (case k_answer_of_some => k_is); (case a_answer_question => k_is); (case l_answer_question => k_is); (case c_answer_question => k_is); (case k_answer_question => k_is); (case a_answer_call => k_is); (case l_answer_call => k_is); (case c_answer_call => k_is); (case k_answer_call => k_is); (case a_answers => k_is); (case l_answers => k_is); (case c_answers => k_is); (case k_answers => k_is); (case u_fewest_cheapest => decide); (case u_cheapest_fewest => decide); (case z_len => k_is); (case z_range => k_is); (case z_sum => k_is); (case z_all => k_is); (case z_any => k_is); (case z_max => k_is); (case z_min => k_is); (case z_list => k_is); (case z_enumerate => k_is); (case z_zip => k_is); (case g_NO_VIEW => k_is); (case g_NOT_BEGUN => k_is); (case g_TAKEN => k_is); (case g_WRONG => k_is); (case g_FULL => k_is); (case g_MOST_VIEWS => k_is); (case g_MOST_SEEN => k_is); (case g_MOST_TRUST => k_is); (case g_HIGHEST_KIND => k_is); (case r_fewest => first | rfl | decide +kernel); (case r_cheapest => first | rfl | decide +kernel)
#print axioms PySem.Challenge.cw_doubtviews_s01_answers_holds
