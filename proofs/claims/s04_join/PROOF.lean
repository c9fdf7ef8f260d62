import PyProof.Rows.All
import Wide.All
import OpenK.AllK
import Wide.FinOn
import Open.SpecLaws
import KE.OsGo
import KE.OsArith
import HandS.ForSpec
import HandS.Comp
import HandS.Iter
import HandS.WideBits
import PySem.Challenge.RW_risingrules_s04_join
set_option Elab.async false
set_option maxRecDepth 100000
set_option maxHeartbeats 2000000
namespace RR
open Kzk1 Kzk6
/-! # The mathematics: bits, steps, chains. Plain Lean. -/
/-- all flags of x are flags of y -/
def Sub (x y : Nat) : Prop := ∀ j, x.testBit j = true → y.testBit j = true
theorem Sub.refl (x : Nat) : Sub x x := fun _ h => h
theorem Sub.trans {x y z : Nat} (a : Sub x y) (b : Sub y z) : Sub x z := fun j h => b j (a j h)
theorem Sub.antisymm {x y : Nat} (a : Sub x y) (b : Sub y x) : x = y := by
  apply Nat.eq_of_testBit_eq
  intro j
  rw [Bool.eq_iff_iff]
  exact ⟨a j, b j⟩
theorem sub_zero (x : Nat) : Sub 0 x := fun j h => by simp at h
theorem bit_tb (s i : Nat) : bit s i = s.testBit i := by
  rw [Nat.testBit_eq_decide_div_mod_eq]
  unfold bit
  by_cases h : s / 2 ^ i % 2 = 1
  · simp [h]
  · simp [h]
theorem and_iff {x y : Nat} : x &&& y = x ↔ Sub x y := by
  constructor
  · intro h j hj
    rw [← h, Nat.testBit_and, Bool.and_eq_true] at hj
    exact hj.2
  · intro h
    apply Nat.eq_of_testBit_eq
    intro j
    rw [Nat.testBit_and]
    by_cases c : x.testBit j = true
    · rw [c, h j c]
      rfl
    · have c' : x.testBit j = false := by simpa using c
      rw [c']
      rfl
theorem tb_high {x n j : Nat} (hx : x < 2 ^ n) (hj : n ≤ j) : x.testBit j = false :=
  Nat.testBit_lt_two_pow (Nat.lt_of_lt_of_le hx (Nat.pow_le_pow_right (by decide) hj))
theorem under_iff {n x y : Nat} (hx : x < 2 ^ n) : under n x y = true ↔ Sub x y := by
  unfold under
  rw [List.all_eq_true]
  constructor
  · intro h j hj
    by_cases c : j < n
    · have q := h j (List.mem_range.mpr c)
      rw [bit_tb, bit_tb, hj] at q
      simpa using q
    · rw [tb_high hx (by omega)] at hj
      cases hj
  · intro h j _
    rw [bit_tb, bit_tb]
    by_cases c : x.testBit j = true
    · rw [h j c]
      simp
    · have c' : x.testBit j = false := by simpa using c
      rw [c']
      rfl
theorem under_and {n x y : Nat} (hx : x < 2 ^ n) : under n x y = decide (x &&& y = x) := by
  rw [Bool.eq_iff_iff, under_iff hx, decide_eq_true_eq, and_iff]
/-! ### make -/
theorem make_zero (p : Nat → Bool) : make 0 p = 0 := rfl
theorem make_succ (n : Nat) (p : Nat → Bool) : make (n + 1) p = make n p + if p n then 2 ^ n else 0 := by
  unfold make sum
  rw [List.range_succ, List.map_append, List.foldl_append]
  rfl
theorem make_lt (n : Nat) (p : Nat → Bool) : make n p < 2 ^ n := by
  induction n with
  | zero => exact Nat.one_pos
  | succ n ih =>
    rw [make_succ, Nat.pow_succ]
    split <;> omega
theorem make_or (n : Nat) (p : Nat → Bool) : make (n + 1) p = make n p ||| (if p n then 1 else 0) * 2 ^ n := by
  rw [make_succ]
  have h := make_lt n p
  by_cases c : p n = true
  · rw [if_pos c, if_pos c, Nat.one_mul]
    have q := Nat.two_pow_add_eq_or_of_lt h 1
    rw [Nat.mul_one] at q
    rw [Nat.add_comm, q, Nat.or_comm]
  · rw [if_neg c, if_neg c, Nat.zero_mul]
    simp
theorem make_tb (n : Nat) (p : Nat → Bool) (j : Nat) : (make n p).testBit j = (decide (j < n) && p j) := by
  induction n with
  | zero => simp [make_zero]
  | succ n ih =>
    rw [make_or, Nat.testBit_or, ih]
    by_cases c : j = n
    · subst c
      cases h : p j <;> simp
    · have e : ((if p n then 1 else 0) * 2 ^ n).testBit j = false := by
        cases h : p n
        · simp
        · simp only [if_true, Nat.one_mul]
          rw [Nat.testBit_two_pow]
          exact decide_eq_false (fun z => c z.symm)
      rw [e, Bool.or_false]
      have e2 : decide (j < n) = decide (j < n + 1) := by
        rw [Bool.eq_iff_iff, decide_eq_true_eq, decide_eq_true_eq]
        omega
      rw [e2]
theorem next_lt (n : Nat) (t : List Nat) (s : Nat) : next n t s < 2 ^ n := make_lt _ _
/-! ### rising -/
def Rising (n : Nat) (t : List Nat) : Prop := ∀ x y, x < 2 ^ n → y < 2 ^ n → Sub x y → Sub (next n t x) (next n t y)
theorem rises_iff {n : Nat} {t : List Nat} : rises n t = true ↔ Rising n t := by
  unfold rises states
  rw [List.all_eq_true]
  constructor
  · intro h x y hx hy q
    have a := h x (List.mem_range.mpr hx)
    rw [List.all_eq_true] at a
    have b := a y (List.mem_range.mpr hy)
    rw [(under_iff hx).mpr q] at b
    exact (under_iff (next_lt n t x)).mp (by simpa using b)
  · intro h x hx
    rw [List.all_eq_true]
    intro y hy
    rw [List.mem_range] at hx hy
    by_cases c : under n x y = true
    · rw [(under_iff (next_lt n t x)).mpr (h x y hx hy ((under_iff hx).mp c))]
      simp
    · have c' : under n x y = false := by simpa using c
      rw [c']
      rfl
/-! ### after -/
theorem after_zero (n : Nat) (t : List Nat) (s : Nat) : after n t 0 s = s := rfl
theorem after_succ (n : Nat) (t : List Nat) (k s : Nat) : after n t (k + 1) s = next n t (after n t k s) := by
  unfold after
  rw [List.range_succ, List.foldl_append]
  rfl
theorem after_lt {n : Nat} {t : List Nat} {s : Nat} (hs : s < 2 ^ n) (k : Nat) : after n t k s < 2 ^ n := by
  cases k with
  | zero => exact hs
  | succ k =>
    rw [after_succ]
    exact next_lt _ _ _
theorem after_stays {n : Nat} {t : List Nat} {s K : Nat} (h : next n t (after n t K s) = after n t K s) (m : Nat) : after n t (K + m) s = after n t K s := by
  induction m with
  | zero => rfl
  | succ m ih => rw [Nat.add_succ, after_succ, ih, h]
theorem after_up {n : Nat} {t : List Nat} {s : Nat} (R : Rising n t) (hs : s < 2 ^ n) (h : Sub s (next n t s)) (k : Nat) : Sub (after n t k s) (after n t (k + 1) s) := by
  induction k with
  | zero => exact h
  | succ k ih =>
    rw [after_succ n t k, after_succ n t (k + 1)]
    exact R _ _ (after_lt hs _) (after_lt hs _) ih
theorem after_down {n : Nat} {t : List Nat} {s : Nat} (R : Rising n t) (hs : s < 2 ^ n) (h : Sub (next n t s) s) (k : Nat) : Sub (after n t (k + 1) s) (after n t k s) := by
  induction k with
  | zero => exact h
  | succ k ih =>
    rw [after_succ n t k, after_succ n t (k + 1)]
    exact R _ _ (after_lt hs _) (after_lt hs _) ih
theorem after_sub {n : Nat} {t : List Nat} {x y : Nat} (R : Rising n t) (hx : x < 2 ^ n) (hy : y < 2 ^ n) (h : Sub x y) (k : Nat) : Sub (after n t k x) (after n t k y) := by
  induction k with
  | zero => exact h
  | succ k ih =>
    rw [after_succ, after_succ]
    exact R _ _ (after_lt hx _) (after_lt hy _) ih
/-! ### how many flags are up -/
theorem size_succ (n x : Nat) : size (n + 1) x = size n x + if x.testBit n then 1 else 0 := by
  unfold size
  rw [List.range_succ, List.filter_append, List.length_append]
  congr 1
  cases h : x.testBit n
  · rw [List.filter_cons_of_neg (by rw [bit_tb, h]; simp)]
    rfl
  · rw [List.filter_cons_of_pos (by rw [bit_tb, h])]
    rfl
theorem size_le (n x : Nat) : size n x ≤ n := by
  induction n with
  | zero => exact Nat.le_refl _
  | succ n ih =>
    rw [size_succ]
    split <;> omega
theorem size_mono {x y : Nat} (h : Sub x y) (n : Nat) : size n x ≤ size n y := by
  induction n with
  | zero => exact Nat.le_refl _
  | succ n ih =>
    rw [size_succ, size_succ]
    by_cases c : x.testBit n = true
    · rw [if_pos c, if_pos (h n c)]
      omega
    · rw [if_neg c]
      split <;> omega
theorem size_eq {x y : Nat} (h : Sub x y) (n : Nat) (e : size n x = size n y) : ∀ j, j < n → x.testBit j = y.testBit j := by
  induction n with
  | zero => intro j hj; omega
  | succ n ih =>
    rw [size_succ, size_succ] at e
    have m := size_mono h n
    intro j hj
    by_cases c : x.testBit n = true
    · rw [if_pos c, if_pos (h n c)] at e
      by_cases hjn : j = n
      · rw [hjn, c, h n c]
      · exact ih (by omega) j (by omega)
    · rw [if_neg c] at e
      by_cases d : y.testBit n = true
      · rw [if_pos d] at e
        omega
      · rw [if_neg d] at e
        by_cases hjn : j = n
        · rw [hjn]
          have c' : x.testBit n = false := by simpa using c
          have d' : y.testBit n = false := by simpa using d
          rw [c', d']
        · exact ih (by omega) j (by omega)
theorem size_lt {n x y : Nat} (hx : x < 2 ^ n) (hy : y < 2 ^ n) (h : Sub x y) (ne : x ≠ y) : size n x < size n y := by
  have m := size_mono h n
  by_cases e : size n x = size n y
  · exfalso
    apply ne
    apply Nat.eq_of_testBit_eq
    intro j
    by_cases c : j < n
    · exact size_eq h n e j c
    · rw [tb_high hx (by omega), tb_high hy (by omega)]
  · omega
/-! ### a chain comes to rest in no more steps than towers -/
/-- a least number with a property that is decided, below a bound where it holds -/
theorem first_of (p : Nat → Bool) : ∀ m, p m = true → ∃ K, K ≤ m ∧ p K = true ∧ ∀ j, j < K → p j = false := by
  intro m
  induction m using Nat.strongRecOn with
  | _ m ih =>
    intro h
    by_cases c : ∃ j, j < m ∧ p j = true
    · obtain ⟨j, hj, pj⟩ := c
      obtain ⟨K, hK, pK, q⟩ := ih j hj pj
      exact ⟨K, by omega, pK, q⟩
    · refine ⟨m, Nat.le_refl _, h, fun j hj => ?_⟩
      cases e : p j
      · rfl
      · exact absurd ⟨j, hj, e⟩ c
/-- the first place of rest -/
structure Climb (n : Nat) (t : List Nat) (s K : Nat) : Prop where
  le : K ≤ n
  rest : next n t (after n t K s) = after n t K s
  first : ∀ j, j < K → next n t (after n t j s) ≠ after n t j s
theorem climb_of {n : Nat} {t : List Nat} {s : Nat} (ex : ∃ m, m ≤ n ∧ next n t (after n t m s) = after n t m s) : ∃ K, Climb n t s K := by
  obtain ⟨m, hm, e⟩ := ex
  obtain ⟨K, hK, pK, q⟩ := first_of (fun k => decide (next n t (after n t k s) = after n t k s)) m (by simpa using e)
  exact ⟨K, by omega, by simpa using pK, fun j hj => by simpa using q j hj⟩
theorem climb_up {n : Nat} {t : List Nat} {s : Nat} (R : Rising n t) (hs : s < 2 ^ n) (h : Sub s (next n t s)) : ∃ K, Climb n t s K := by
  apply climb_of
  apply Classical.byContradiction
  intro c
  have ne : ∀ m, m ≤ n → after n t m s ≠ after n t (m + 1) s := fun m hm e => c ⟨m, hm, by rw [← after_succ, ← e]⟩
  have g : ∀ m, m ≤ n + 1 → m ≤ size n (after n t m s) := by
    intro m
    induction m with
    | zero => intro _; exact Nat.zero_le _
    | succ m ih =>
      intro hm
      have := ih (by omega)
      have := size_lt (after_lt hs m) (after_lt hs (m + 1)) (after_up R hs h m) (ne m (by omega))
      omega
  have := g (n + 1) (Nat.le_refl _)
  have := size_le n (after n t (n + 1) s)
  omega
theorem climb_down {n : Nat} {t : List Nat} {s : Nat} (R : Rising n t) (hs : s < 2 ^ n) (h : Sub (next n t s) s) : ∃ K, Climb n t s K := by
  apply climb_of
  apply Classical.byContradiction
  intro c
  have ne : ∀ m, m ≤ n → after n t m s ≠ after n t (m + 1) s := fun m hm e => c ⟨m, hm, by rw [← after_succ, ← e]⟩
  have g : ∀ m, m ≤ n + 1 → size n (after n t m s) + m ≤ n := by
    intro m
    induction m with
    | zero => intro _; exact size_le _ _
    | succ m ih =>
      intro hm
      have := ih (by omega)
      have := size_lt (after_lt hs (m + 1)) (after_lt hs m) (after_down R hs h m) (fun z => ne m (by omega) z.symm)
      omega
  have := g (n + 1) (Nat.le_refl _)
  omega
theorem Climb.after_n {n : Nat} {t : List Nat} {s K : Nat} (C : Climb n t s K) : after n t n s = after n t K s := by
  have e : n = K + (n - K) := by have := C.le; omega
  have q := after_stays C.rest (n - K)
  rw [← e] at q
  exact q
theorem find_range {p : Nat → Bool} {K m : Nat} (hK : K < m) (h : p K = true) (first : ∀ j, j < K → p j = false) : (List.range m).find? p = some K := by
  rw [List.find?_range_eq_some]
  refine ⟨h, List.mem_range.mpr hK, fun j hj => ?_⟩
  rw [first j hj]
  rfl
theorem Climb.climb {n : Nat} {t : List Nat} {s K : Nat} (C : Climb n t s K) : Kzk6.climb n t s = some K := by
  unfold Kzk6.climb
  apply find_range (by have := C.le; omega)
  · simpa using C.rest
  · intro j hj
    simpa using C.first j hj
/-! ### what is due, case by case -/
def ups (ts : List Nat) : List Int := ts.map fun (r : Nat) => (r : Int)
theorem natsOf_ups (ts : List Nat) : Kzk6Neutral.natsOf (ups ts) = ts := by
  unfold Kzk6Neutral.natsOf ups
  rw [List.map_map]
  have e : (Int.toNat ∘ fun (r : Nat) => (r : Int)) = id := by
    funext r
    rfl
  rw [e, List.map_id]
theorem due_rises (n : Nat) (ts : List Nat) : PyKzk6.rises n (ups ts) = if okTowers n ts = false then [-22] else [if rises n ts then 1 else 0] := by
  show (let a := Kzk6.answer (.rises ((n : Int).toNat) (Kzk6Neutral.natsOf (ups ts))); a.value :: Kzk6Neutral.ints a.nums) = _
  rw [natsOf_ups]
  show (let a := Kzk6.answer (.rises n ts); a.value :: Kzk6Neutral.ints a.nums) = _
  unfold Kzk6.answer
  by_cases h : okTowers n ts = false
  · simp only [h, if_true]
    rfl
  · simp only [h]
    rfl
theorem due_least (n : Nat) (ts : List Nat) : PyKzk6.least n (ups ts) = if okTowers n ts = false then [-22] else if rises n ts = false then [-16] else [(leastRest n ts : Int), ((climb n ts 0).getD 0 : Nat)] := by
  show (let a := Kzk6.answer (.least ((n : Int).toNat) (Kzk6Neutral.natsOf (ups ts))); a.value :: Kzk6Neutral.ints a.nums) = _
  rw [natsOf_ups]
  show (let a := Kzk6.answer (.least n ts); a.value :: Kzk6Neutral.ints a.nums) = _
  unfold Kzk6.answer
  by_cases h : okTowers n ts = false
  · simp only [h, if_true]
    rfl
  · by_cases h2 : rises n ts = false
    · simp only [h, h2, if_true]
      rfl
    · simp only [h, h2]
      rfl
/-- the least, by the climb's first rest -/
theorem due_least_of {n : Nat} {ts : List Nat} {K : Nat} (h1 : okTowers n ts = true) (h2 : rises n ts = true) (C : Climb n ts 0 K) : PyKzk6.least n (ups ts) = [((after n ts K 0 : Nat) : Int), (K : Int)] := by
  rw [due_least, if_neg (by rw [h1]; decide), if_neg (by rw [h2]; decide), C.climb]
  unfold leastRest
  rw [C.after_n]
  rfl
theorem okTowers_iff {n : Nat} {ts : List Nat} : okTowers n ts = true ↔ 1 ≤ n ∧ n ≤ 4 ∧ ts.length = n ∧ ∀ r ∈ ts, r < 2 ^ 2 ^ n := by
  unfold okTowers
  simp only [Bool.and_eq_true, decide_eq_true_eq, beq_iff_eq, List.all_eq_true]
  constructor
  · rintro ⟨⟨⟨a, b⟩, c⟩, d⟩
    exact ⟨a, b, c, d⟩
  · rintro ⟨a, b, c, d⟩
    exact ⟨⟨⟨a, b⟩, c⟩, d⟩
theorem okTowers_not {n : Nat} {ts : List Nat} (h : ¬ (1 ≤ n ∧ n ≤ 4 ∧ ts.length = n ∧ ∀ r ∈ ts, r < 2 ^ 2 ^ n)) : okTowers n ts = false := by
  cases e : okTowers n ts
  · rfl
  · exact absurd (okTowers_iff.mp e) h
/-- by pairs, with & -/
theorem rises_pairs {n : Nat} {ts : List Nat} : rises n ts = true ↔ ∀ x, x < 2 ^ n → ∀ y, y < 2 ^ n → x &&& y = x → next n ts x &&& next n ts y = next n ts x := by
  rw [rises_iff]
  constructor
  · intro h x hx y hy q
    exact and_iff.mpr (h x y hx hy (and_iff.mp q))
  · intro h x y hx hy q
    exact and_iff.mp (h x hx y hy (and_iff.mpr q))
theorem rises_not {n : Nat} {ts : List Nat} {x y : Nat} (hx : x < 2 ^ n) (hy : y < 2 ^ n) (q : x &&& y = x) (c : ¬ next n ts x &&& next n ts y = next n ts x) : rises n ts = false := by
  cases e : rises n ts
  · rfl
  · exact absurd (rises_pairs.mp e x hx y hy q) c
theorem two_le16 {n : Nat} (h : n ≤ 4) : 2 ^ n ≤ 16 := Nat.pow_le_pow_right (n := 2) (by decide) h
/-- one tower more -/
theorem step_make {ts : List Nat} {i r : Nat} (s : Nat) (h : ts[i]? = some r) : make (i + 1) (fun j => isUp ts j s) = make i (fun j => isUp ts j s) ||| r / 2 ^ s % 2 * 2 ^ i := by
  rw [make_or]
  have e : isUp ts i s = (r / 2 ^ s % 2 == 1) := by
    unfold isUp bit
    rw [List.getD_eq_getElem?_getD, h]
    rfl
  rw [e]
  have : r / 2 ^ s % 2 < 2 := Nat.mod_lt _ (by decide)
  by_cases c : r / 2 ^ s % 2 = 1
  · rw [c]
    rfl
  · have c0 : r / 2 ^ s % 2 = 0 := by omega
    rw [c0]
    rfl
/-! ### greatest, join, meet -/
theorem full_lt (n : Nat) : full n < 2 ^ n := by
  have := Nat.two_pow_pos n
  unfold full
  omega
theorem sub_full {n x : Nat} (hx : x < 2 ^ n) : Sub x (full n) := fun j hj => by
  unfold full
  rw [Nat.testBit_two_pow_sub_one]
  by_cases c : j < n
  · exact decide_eq_true c
  · rw [tb_high hx (by omega)] at hj
    cases hj
theorem due_greatest (n : Nat) (ts : List Nat) : PyKzk6.greatest n (ups ts) = if okTowers n ts = false then [-22] else if rises n ts = false then [-16] else [(greatestRest n ts : Int), ((climb n ts (full n)).getD 0 : Nat)] := by
  show (let a := Kzk6.answer (.greatest ((n : Int).toNat) (Kzk6Neutral.natsOf (ups ts))); a.value :: Kzk6Neutral.ints a.nums) = _
  rw [natsOf_ups]
  show (let a := Kzk6.answer (.greatest n ts); a.value :: Kzk6Neutral.ints a.nums) = _
  unfold Kzk6.answer
  by_cases h : okTowers n ts = false
  · simp only [h, if_true]
    rfl
  · by_cases h2 : rises n ts = false
    · simp only [h, h2, if_true]
      rfl
    · simp only [h, h2]
      rfl
theorem due_greatest_of {n : Nat} {ts : List Nat} {K : Nat} (h1 : okTowers n ts = true) (h2 : rises n ts = true) (C : Climb n ts (full n) K) : PyKzk6.greatest n (ups ts) = [((after n ts K (full n) : Nat) : Int), (K : Int)] := by
  rw [due_greatest, if_neg (by rw [h1]; decide), if_neg (by rw [h2]; decide), C.climb]
  unfold greatestRest
  rw [C.after_n]
  rfl
theorem climb_full {n : Nat} {ts : List Nat} (h2 : rises n ts = true) : ∃ K, Climb n ts (full n) K :=
  climb_down (rises_iff.mp h2) (full_lt n) (sub_full (next_lt _ _ _))
theorem climb_none {n : Nat} {ts : List Nat} (h2 : rises n ts = true) : ∃ K, Climb n ts 0 K :=
  climb_up (rises_iff.mp h2) (Nat.two_pow_pos n) (sub_zero _)
theorem either_or {n x y : Nat} (hx : x < 2 ^ n) (hy : y < 2 ^ n) : either n x y = x ||| y := by
  apply Nat.eq_of_testBit_eq
  intro j
  unfold either
  rw [make_tb, Nat.testBit_or, bit_tb, bit_tb]
  by_cases c : j < n
  · simp [c]
  · rw [tb_high hx (by omega), tb_high hy (by omega)]
    simp
theorem both_and {n x y : Nat} (hx : x < 2 ^ n) : both n x y = x &&& y := by
  apply Nat.eq_of_testBit_eq
  intro j
  unfold both
  rw [make_tb, Nat.testBit_and, bit_tb, bit_tb]
  by_cases c : j < n
  · simp [c]
  · rw [tb_high hx (by omega)]
    simp
theorem climb_or {n : Nat} {ts : List Nat} {x y : Nat} (h2 : rises n ts = true) (hx : x < 2 ^ n) (hy : y < 2 ^ n) (rx : next n ts x = x) (ry : next n ts y = y) : ∃ K, Climb n ts (x ||| y) K := by
  have R := rises_iff.mp h2
  have hs : x ||| y < 2 ^ n := Nat.or_lt_two_pow hx hy
  refine climb_up R hs fun j hj => ?_
  rw [Nat.testBit_or, Bool.or_eq_true] at hj
  rcases hj with h | h
  · exact R x (x ||| y) hx hs (fun i hi => by rw [Nat.testBit_or, hi]; rfl) j (by rw [rx]; exact h)
  · exact R y (x ||| y) hy hs (fun i hi => by rw [Nat.testBit_or, hi, Bool.or_true]) j (by rw [ry]; exact h)
theorem climb_and {n : Nat} {ts : List Nat} {x y : Nat} (h2 : rises n ts = true) (hx : x < 2 ^ n) (hy : y < 2 ^ n) (rx : next n ts x = x) (ry : next n ts y = y) : ∃ K, Climb n ts (x &&& y) K := by
  have R := rises_iff.mp h2
  have hs : x &&& y < 2 ^ n := Nat.lt_of_le_of_lt Nat.and_le_left hx
  refine climb_down R hs fun j hj => ?_
  rw [Nat.testBit_and, Bool.and_eq_true]
  constructor
  · have q := R (x &&& y) x hs hx (fun i hi => by rw [Nat.testBit_and, Bool.and_eq_true] at hi; exact hi.1) j hj
    rw [rx] at q
    exact q
  · have q := R (x &&& y) y hs hy (fun i hi => by rw [Nat.testBit_and, Bool.and_eq_true] at hi; exact hi.2) j hj
    rw [ry] at q
    exact q
/-- the refusal of all calls but rises; ss are the states handed in -/
def refusal (n : Nat) (ss ts : List Nat) : Int :=
  if okTowers n ts = false ∨ ∃ s ∈ ss, 2 ^ n ≤ s then -22 else if rises n ts = false then -16 else if ∃ s ∈ ss, next n ts s ≠ s then -33 else 0
theorem refusal_zero {n : Nat} {ss ts : List Nat} (h : refusal n ss ts = 0) : okTowers n ts = true ∧ (∀ s ∈ ss, s < 2 ^ n) ∧ rises n ts = true ∧ ∀ s ∈ ss, next n ts s = s := by
  unfold refusal at h
  split at h
  · cases h
  · rename_i c1
    split at h
    · cases h
    · rename_i c2
      split at h
      · cases h
      · rename_i c3
        refine ⟨by cases e : okTowers n ts; exact absurd (.inl e) c1; rfl, fun s hs => ?_, by simpa using c2, fun s hs => ?_⟩
        · apply Classical.byContradiction
          intro z
          exact c1 (.inr ⟨s, hs, by omega⟩)
        · apply Classical.byContradiction
          intro z
          exact c3 ⟨s, hs, z⟩
theorem refusal_of_towers {n : Nat} {ss ts : List Nat} (h : okTowers n ts = false) : refusal n ss ts = -22 := if_pos (.inl h)
theorem refusal_of_state {n : Nat} {ss ts : List Nat} {s : Nat} (hs : s ∈ ss) (h : 2 ^ n ≤ s) : refusal n ss ts = -22 := if_pos (.inr ⟨s, hs, h⟩)
theorem refusal_of_rises {n : Nat} {ss ts : List Nat} (h1 : okTowers n ts = true) (h2 : ∀ s ∈ ss, s < 2 ^ n) (h3 : rises n ts = false) : refusal n ss ts = -16 := by
  unfold refusal
  rw [if_neg (fun z => by rcases z with z | ⟨s, hs, z⟩; rw [h1] at z; cases z; have := h2 s hs; omega), if_pos h3]
theorem refusal_of_rest {n : Nat} {ss ts : List Nat} {s : Nat} (h1 : okTowers n ts = true) (h2 : ∀ s ∈ ss, s < 2 ^ n) (h3 : rises n ts = true) (hs : s ∈ ss) (h : next n ts s ≠ s) : refusal n ss ts = -33 := by
  unfold refusal
  rw [if_neg (fun z => by rcases z with z | ⟨s, hs, z⟩; rw [h1] at z; cases z; have := h2 s hs; omega), if_neg (by rw [h3]; decide), if_pos ⟨s, hs, h⟩]
theorem refusal_none {n : Nat} {ss ts : List Nat} (h1 : okTowers n ts = true) (h2 : ∀ s ∈ ss, s < 2 ^ n) (h3 : rises n ts = true) (h : ∀ s ∈ ss, next n ts s = s) : refusal n ss ts = 0 := by
  unfold refusal
  rw [if_neg (fun z => by rcases z with z | ⟨s, hs, z⟩; rw [h1] at z; cases z; have := h2 s hs; omega), if_neg (by rw [h3]; decide), if_neg (fun ⟨s, hs, z⟩ => z (h s hs))]
theorem refusal_nil {n : Nat} {ts : List Nat} : refusal n [] ts = if okTowers n ts = false then -22 else if rises n ts = false then -16 else 0 := by
  unfold refusal
  by_cases h1 : okTowers n ts = false
  · rw [if_pos h1, if_pos (.inl h1)]
  · rw [if_neg h1, if_neg (fun z => by rcases z with z | ⟨s, hs, _⟩; exact h1 z; cases hs)]
    by_cases h2 : rises n ts = false
    · rw [if_pos h2, if_pos h2]
    · rw [if_neg h2, if_neg h2, if_neg (fun ⟨s, hs, _⟩ => by cases hs)]
theorem due_least_no {n : Nat} {ts : List Nat} (h : refusal n [] ts ≠ 0) : PyKzk6.least n (ups ts) = [refusal n [] ts] := by
  rw [refusal_nil] at h ⊢
  rw [due_least]
  by_cases h1 : okTowers n ts = false
  · rw [if_pos h1, if_pos h1]
  · rw [if_neg h1, if_neg h1]
    by_cases h2 : rises n ts = false
    · rw [if_pos h2, if_pos h2]
    · rw [if_neg h1, if_neg h2] at h
      exact absurd rfl h
theorem due_greatest_no {n : Nat} {ts : List Nat} (h : refusal n [] ts ≠ 0) : PyKzk6.greatest n (ups ts) = [refusal n [] ts] := by
  rw [refusal_nil] at h ⊢
  rw [due_greatest]
  by_cases h1 : okTowers n ts = false
  · rw [if_pos h1, if_pos h1]
  · rw [if_neg h1, if_neg h1]
    by_cases h2 : rises n ts = false
    · rw [if_pos h2, if_pos h2]
    · rw [if_neg h1, if_neg h2] at h
      exact absurd rfl h
theorem rests_iff {n : Nat} {ts : List Nat} {x : Nat} (hx : x < 2 ^ n) : (Kzk3.rests n ts).contains x = true ↔ next n ts x = x := by
  rw [List.contains_iff_mem]
  unfold Kzk3.rests states
  rw [List.mem_filter, List.mem_range, beq_iff_eq]
  exact ⟨fun h => h.2, fun h => ⟨hx, h⟩⟩
/-- what is due of join and meet, both as one: f is join or meet -/
theorem two_due {n x y : Nat} {ts : List Nat} (f : Nat) :
    (if okTowers n ts = false ∨ 2 ^ n ≤ x ∨ 2 ^ n ≤ y then say (-22) else if rises n ts = false then say (-16) else if (Kzk3.rests n ts).contains x && (Kzk3.rests n ts).contains y then say ((f : Nat) : Int) else say (-33)) = if refusal n [x, y] ts = 0 then say ((f : Nat) : Int) else say (refusal n [x, y] ts) := by
  by_cases h1 : okTowers n ts = false
  · rw [if_pos (.inl h1), refusal_of_towers h1]
    rfl
  have h1' : okTowers n ts = true := by simpa using h1
  by_cases hx : x < 2 ^ n
  case neg =>
    rw [if_pos (.inr (.inl (by omega))), refusal_of_state (s := x) (by simp) (by omega)]
    rfl
  by_cases hy : y < 2 ^ n
  case neg =>
    rw [if_pos (.inr (.inr (by omega))), refusal_of_state (s := y) (by simp) (by omega)]
    rfl
  have hb : ∀ s ∈ [x, y], s < 2 ^ n := by
    intro s hs
    simp only [List.mem_cons, List.not_mem_nil, or_false] at hs
    rcases hs with rfl | rfl <;> assumption
  rw [if_neg (by rintro (z | z | z); exact h1 z; omega; omega)]
  by_cases h2 : rises n ts = false
  · rw [if_pos h2, refusal_of_rises h1' hb h2]
    rfl
  have h2' : rises n ts = true := by simpa using h2
  rw [if_neg h2]
  by_cases rx : next n ts x = x
  case neg =>
    rw [refusal_of_rest h1' hb h2' (s := x) (by simp) rx, if_neg]
    · rfl
    · rw [Bool.and_eq_true, rests_iff hx]
      exact fun z => rx z.1
  by_cases ry : next n ts y = y
  case neg =>
    rw [refusal_of_rest h1' hb h2' (s := y) (by simp) ry, if_neg]
    · rfl
    · rw [Bool.and_eq_true, rests_iff hy]
      exact fun z => ry z.2
  rw [if_pos (by rw [Bool.and_eq_true, rests_iff hx, rests_iff hy]; exact ⟨rx, ry⟩), refusal_none h1' hb h2', if_pos rfl]
  intro s hs
  simp only [List.mem_cons, List.not_mem_nil, or_false] at hs
  rcases hs with rfl | rfl <;> assumption
theorem due_join (n x y : Nat) (ts : List Nat) : PyKzk6.join n x y (ups ts) = if refusal n [x, y] ts = 0 then [((join n ts x y : Nat) : Int)] else [refusal n [x, y] ts] := by
  show (let a := Kzk6.answer (.join ((n : Int).toNat) ((x : Int).toNat) ((y : Int).toNat) (Kzk6Neutral.natsOf (ups ts))); a.value :: Kzk6Neutral.ints a.nums) = _
  rw [natsOf_ups]
  show (let a := Kzk6.answer (.join n x y ts); a.value :: Kzk6Neutral.ints a.nums) = _
  unfold Kzk6.answer
  simp only []
  rw [two_due]
  by_cases h : refusal n [x, y] ts = 0
  · rw [if_pos h, if_pos h]
    rfl
  · rw [if_neg h, if_neg h]
    rfl
theorem due_meet (n x y : Nat) (ts : List Nat) : PyKzk6.meet n x y (ups ts) = if refusal n [x, y] ts = 0 then [((meet n ts x y : Nat) : Int)] else [refusal n [x, y] ts] := by
  show (let a := Kzk6.answer (.meet ((n : Int).toNat) ((x : Int).toNat) ((y : Int).toNat) (Kzk6Neutral.natsOf (ups ts))); a.value :: Kzk6Neutral.ints a.nums) = _
  rw [natsOf_ups]
  show (let a := Kzk6.answer (.meet n x y ts); a.value :: Kzk6Neutral.ints a.nums) = _
  unfold Kzk6.answer
  simp only []
  rw [two_due]
  by_cases h : refusal n [x, y] ts = 0
  · rw [if_pos h, if_pos h]
    rfl
  · rw [if_neg h, if_neg h]
    rfl
theorem due_join_of {n x y K : Nat} {ts : List Nat} (h : refusal n [x, y] ts = 0) (C : Climb n ts (x ||| y) K) : PyKzk6.join n x y (ups ts) = [((after n ts K (x ||| y) : Nat) : Int)] := by
  obtain ⟨_, hb, _, _⟩ := refusal_zero h
  rw [due_join, if_pos h]
  unfold join
  rw [either_or (hb x (by simp)) (hb y (by simp)), C.after_n]
theorem due_meet_of {n x y K : Nat} {ts : List Nat} (h : refusal n [x, y] ts = 0) (C : Climb n ts (x &&& y) K) : PyKzk6.meet n x y (ups ts) = [((after n ts K (x &&& y) : Nat) : Int)] := by
  obtain ⟨_, hb, _, _⟩ := refusal_zero h
  rw [due_meet, if_pos h]
  unfold meet
  rw [both_and (hb x (by simp)), C.after_n]
/-! ### seeds -/
/-- the rules with the towers of s held up -/
def held (n : Nat) (ts : List Nat) (s : Nat) : List Nat := ts.mapIdx fun j r => if bit s j then 2 ^ 2 ^ n - 1 else r
theorem next_held {n : Nat} {ts : List Nat} {s x : Nat} (hl : ts.length = n) (hs : s < 2 ^ n) (hx : x < 2 ^ n) : next n (held n ts s) x = next n ts x ||| s := by
  apply Nat.eq_of_testBit_eq
  intro j
  unfold next
  rw [Nat.testBit_or, make_tb, make_tb]
  by_cases c : j < n
  · have e : isUp (held n ts s) j x = (isUp ts j x || s.testBit j) := by
      unfold isUp held
      rw [List.getD_eq_getElem?_getD, List.getD_eq_getElem?_getD, List.getElem?_mapIdx, List.getElem?_eq_getElem (by omega)]
      simp only [Option.map_some, Option.getD_some]
      rw [bit_tb s j]
      cases h : s.testBit j
      · simp
      · rw [if_pos rfl, bit_tb, Nat.testBit_two_pow_sub_one, Bool.or_true]
        exact decide_eq_true hx
    rw [e]
    simp [c]
  · rw [tb_high hs (by omega)]
    simp [c]
theorem held_rising {n : Nat} {ts : List Nat} {s : Nat} (hl : ts.length = n) (hs : s < 2 ^ n) (R : Rising n ts) : Rising n (held n ts s) := by
  intro x y hx hy h j hj
  rw [next_held hl hs hx, Nat.testBit_or, Bool.or_eq_true] at hj
  rw [next_held hl hs hy, Nat.testBit_or, Bool.or_eq_true]
  rcases hj with q | q
  · exact .inl (R x y hx hy h j q)
  · exact .inr q
theorem climb_held {n : Nat} {ts : List Nat} {s : Nat} (hl : ts.length = n) (hs : s < 2 ^ n) (h2 : rises n ts = true) : ∃ K, Climb n (held n ts s) s K := by
  refine climb_up (held_rising hl hs (rises_iff.mp h2)) hs fun j hj => ?_
  rw [next_held hl hs hs, Nat.testBit_or, hj, Bool.or_true]
theorem full_or {n x : Nat} (hx : x < 2 ^ n) : x ||| full n = full n := by
  apply Sub.antisymm
  · intro j hj
    rw [Nat.testBit_or, Bool.or_eq_true] at hj
    rcases hj with q | q
    · exact sub_full hx j q
    · exact q
  · intro j hj
    rw [Nat.testBit_or, hj, Bool.or_true]
/-- held up, all flags come up from just these -/
def Brings (n : Nat) (ts : List Nat) (s : Nat) : Prop := after n (held n ts s) n s = full n
theorem full_brings {n : Nat} {ts : List Nat} (hl : ts.length = n) : Brings n ts (full n) := by
  have h : next n (held n ts (full n)) (after n (held n ts (full n)) 0 (full n)) = after n (held n ts (full n)) 0 (full n) := by
    show next n (held n ts (full n)) (full n) = full n
    rw [next_held hl (full_lt n) (full_lt n), full_or (next_lt _ _ _)]
  have q := after_stays h n
  rw [Nat.zero_add] at q
  exact q
theorem brings_climb {n : Nat} {ts : List Nat} {s K : Nat} (C : Climb n (held n ts s) s K) : Brings n ts s ↔ after n (held n ts s) K s = full n := by
  unfold Brings
  rw [C.after_n]
theorem seeds_of {n : Nat} {ts : List Nat} {s : Nat} (hs : s < 2 ^ n) (hb : Brings n ts s) (min : ∀ x, x < 2 ^ n → Brings n ts x → size n s < size n x ∨ size n s = size n x ∧ s ≤ x) : seeds n ts = s := by
  unfold seeds
  simp only []
  rw [List.find?_filter]
  unfold states
  rw [find_range (K := s) hs]
  · rfl
  · rw [Bool.decide_and, Bool.and_eq_true, decide_eq_true_eq, decide_eq_true_eq, beq_iff_eq, List.all_eq_true]
    refine ⟨hb, fun x hx => ?_⟩
    rw [List.mem_filter, List.mem_range, beq_iff_eq] at hx
    rcases min x hx.1 hx.2 with z | z
    · exact decide_eq_true (by omega)
    · exact decide_eq_true (by omega)
  · intro j hj
    rw [Bool.decide_and, Bool.and_eq_false_iff, decide_eq_false_iff_not, decide_eq_false_iff_not, beq_iff_eq]
    by_cases c : after n (held n ts j) n j = full n
    · right
      intro z
      rw [List.all_eq_true] at z
      have q := z s (List.mem_filter.mpr ⟨List.mem_range.mpr hs, by rw [beq_iff_eq]; exact hb⟩)
      rw [decide_eq_true_eq] at q
      rcases min j (by omega) c with w | w
      · omega
      · omega
    · left
      exact c
theorem due_seeds (n : Nat) (ts : List Nat) : PyKzk6.seeds n (ups ts) = if okTowers n ts = false then [-22] else if rises n ts = false then [-16] else [((size n (seeds n ts) : Nat) : Int), ((seeds n ts : Nat) : Int)] := by
  show (let a := Kzk6.answer (.seeds ((n : Int).toNat) (Kzk6Neutral.natsOf (ups ts))); a.value :: Kzk6Neutral.ints a.nums) = _
  rw [natsOf_ups]
  show (let a := Kzk6.answer (.seeds n ts); a.value :: Kzk6Neutral.ints a.nums) = _
  unfold Kzk6.answer
  by_cases h : okTowers n ts = false
  · simp only [h, if_true]
    rfl
  · by_cases h2 : rises n ts = false
    · simp only [h, h2, if_true]
      rfl
    · simp only [h, h2]
      rfl
theorem due_seeds_no {n : Nat} {ts : List Nat} (h : refusal n [] ts ≠ 0) : PyKzk6.seeds n (ups ts) = [refusal n [] ts] := by
  rw [refusal_nil] at h ⊢
  rw [due_seeds]
  by_cases h1 : okTowers n ts = false
  · rw [if_pos h1, if_pos h1]
  · rw [if_neg h1, if_neg h1]
    by_cases h2 : rises n ts = false
    · rw [if_pos h2, if_pos h2]
    · rw [if_neg h1, if_neg h2] at h
      exact absurd rfl h
theorem due_seeds_of {n : Nat} {ts : List Nat} {s : Nat} (h1 : okTowers n ts = true) (h2 : rises n ts = true) (hs : s < 2 ^ n) (hb : Brings n ts s) (min : ∀ x, x < 2 ^ n → Brings n ts x → size n s < size n x ∨ size n s = size n x ∧ s ≤ x) : PyKzk6.seeds n (ups ts) = [((size n s : Nat) : Int), (s : Int)] := by
  rw [due_seeds, if_neg (by rw [h1]; decide), if_neg (by rw [h2]; decide), seeds_of hs hb min]
/-! ### what the program's seeds counts and keeps -/
theorem full_int (n : Nat) : (((2 ^ n : Nat) : Int) - 1) = ((full n : Nat) : Int) := by
  have := Nat.two_pow_pos n
  unfold full
  omega
/-- the flags of s, one after another -/
def flagsOf (n s : Nat) : List Nat := (List.range n).map fun j => s / 2 ^ j % 2
theorem flagsOf_succ (n s : Nat) : flagsOf (n + 1) s = flagsOf n s ++ [s / 2 ^ n % 2] := by
  unfold flagsOf
  rw [List.range_succ, List.map_append]
  rfl
theorem flagsOf_length (n s : Nat) : (flagsOf n s).length = n := by
  unfold flagsOf
  rw [List.length_map, List.length_range]
theorem flag_tb (s j : Nat) : s / 2 ^ j % 2 = if s.testBit j then 1 else 0 := by
  rw [Nat.testBit_eq_decide_div_mod_eq]
  have : s / 2 ^ j % 2 < 2 := Nat.mod_lt _ (by decide)
  by_cases c : s / 2 ^ j % 2 = 1
  · simp [c]
  · have c0 : s / 2 ^ j % 2 = 0 := by omega
    simp [c0]
theorem sum_flags (n s : Nat) : (ups (flagsOf n s)).sum = ((size n s : Nat) : Int) := by
  induction n with
  | zero => rfl
  | succ n ih =>
    rw [flagsOf_succ, size_succ, flag_tb]
    unfold ups at ih ⊢
    rw [List.map_append, List.sum_append, ih]
    cases s.testBit n <;> simp
theorem held_length (n : Nat) (ts : List Nat) (s : Nat) : (held n ts s).length = ts.length := by
  unfold held
  rw [List.length_mapIdx]
theorem held_get {n : Nat} {ts : List Nat} {s i r : Nat} (h : ts[i]? = some r) : (held n ts s)[i]? = some (if s.testBit i then 2 ^ 2 ^ n - 1 else r) := by
  unfold held
  rw [List.getElem?_mapIdx, h, bit_tb]
  rfl
theorem held_take {n : Nat} {ts : List Nat} {s i r : Nat} (h : ts[i]? = some r) : (held n ts s).take (i + 1) = (held n ts s).take i ++ [if s.testBit i then 2 ^ 2 ^ n - 1 else r] := by
  rw [List.take_add_one, held_get h]
  rfl
/-- of the sets below i the best that brings all up, or all towers -/
structure Best (n : Nat) (ts : List Nat) (i f : Nat) : Prop where
  lt : f < 2 ^ n
  brings : Brings n ts f
  min : ∀ x, x < i → Brings n ts x → size n f < size n x ∨ size n f = size n x ∧ f ≤ x
  seen : f = full n ∨ f < i
theorem best_start {n : Nat} {ts : List Nat} (hl : ts.length = n) : Best n ts 0 (full n) := ⟨full_lt n, full_brings hl, fun x hx => by omega, .inl rfl⟩
theorem best_take {n : Nat} {ts : List Nat} {i f : Nat} (hi : i < full n) (B : Best n ts i f) (hs : size n i < size n f) (hb : Brings n ts i) : Best n ts (i + 1) i := by
  refine ⟨by have := full_lt n; omega, hb, fun x hx bx => ?_, .inr (by omega)⟩
  by_cases e : x = i
  · rw [e]
    exact .inr ⟨rfl, Nat.le_refl _⟩
  · rcases B.min x (by omega) bx with z | z <;> exact .inl (by omega)
theorem best_skip {n : Nat} {ts : List Nat} {i f : Nat} (hi : i < full n) (B : Best n ts i f) (c : ¬ (size n i < size n f ∧ Brings n ts i)) : Best n ts (i + 1) f := by
  refine ⟨B.lt, B.brings, fun x hx bx => ?_, ?_⟩
  · by_cases e : x = i
    · subst e
      have hle : size n f ≤ size n x := by
        apply Classical.byContradiction
        intro z
        exact c ⟨by omega, bx⟩
      rcases B.seen with z | z
      · have := size_lt (n := n) (x := x) (y := full n) (by have := full_lt n; omega) (full_lt n) (sub_full (by have := full_lt n; omega)) (by omega)
        rw [z] at hle
        omega
      · by_cases q : size n f = size n x
        · exact .inr ⟨q, by omega⟩
        · exact .inl (by omega)
    · exact B.min x (by omega) bx
  · rcases B.seen with z | z
    · exact .inl z
    · exact .inr (by omega)
theorem best_end {n : Nat} {ts : List Nat} {f : Nat} (h1 : okTowers n ts = true) (h2 : rises n ts = true) (B : Best n ts (full n) f) : PyKzk6.seeds n (ups ts) = [((size n f : Nat) : Int), (f : Int)] := by
  refine due_seeds_of h1 h2 B.lt B.brings fun x hx bx => ?_
  have e1 : full n + 1 = 2 ^ n := by
    have := Nat.two_pow_pos n
    unfold full
    omega
  by_cases e : x < full n
  · exact B.min x e bx
  · have e2 : x = full n := by omega
    rw [e2]
    have m := size_mono (sub_full B.lt) n
    have : f ≤ full n := by
      have := B.lt
      omega
    by_cases q : size n f = size n (full n)
    · exact .inr ⟨q, this⟩
    · exact .inl (by omega)
end RR
namespace RR
open PySem PySem.Spec PyProof.Rows L2
/-! ### the text: the i-th statement of the program -/
def top (i : Nat) : Stmt := PySem.Challenge.pw_risingrules_s04_join.main.body.getD i (.Pass ⟨0, 0, 0, 0⟩)
abbrev sFits : Stmt := top 5
abbrev sSA : Stmt := top 6
abbrev sUnd : Stmt := top 7
abbrev sRR : Stmt := top 8
abbrev sRD : Stmt := top 9
abbrev sRA : Stmt := top 10
abbrev sTop : Stmt := top 11
end RR
namespace RR
open PySem PySem.Spec PyProof.Rows L2
open PySem.W (Codec)
/-! ### ints of the program and numbers from 0 -/
def vN (r : Nat) : V := V.int (r : Int)
def vNs (ts : List Nat) : List V := ts.map vN
theorem vNs_ups (ts : List Nat) : (ups ts).map V.int = vNs ts := by
  unfold ups vNs
  rw [List.map_map]
  rfl
theorem vNs_get {ts : List Nat} {i : Nat} {y : V} (h : (vNs ts)[i]? = some y) : ∃ r, ts[i]? = some r ∧ y = vN r := by
  unfold vNs at h
  rw [List.getElem?_map] at h
  cases e : ts[i]? with
  | none =>
    rw [e] at h
    cases h
  | some r =>
    rw [e] at h
    exact ⟨r, rfl, (Option.some.inj h).symm⟩
theorem vNs_len (ts : List Nat) : (vNs ts).length = ts.length := List.length_map ..
theorem and_nat (x y : Nat) : Builtin.bitAnd (x : Int) (y : Int) = ((x &&& y : Nat) : Int) := PySem.W.os_band x y
theorem or_nat (x y : Nat) : Builtin.bitOr (x : Int) (y : Int) = ((x ||| y : Nat) : Int) := bitOr_nn (Int.natCast_nonneg x) (Int.natCast_nonneg y)
theorem shl_nat (x k : Nat) : (x : Int) * 2 ^ ((k : Int).toNat) = ((x * 2 ^ k : Nat) : Int) := by
  rw [Int.toNat_natCast, Int.natCast_mul, Int.natCast_pow]
  rfl
theorem shr_nat (x k : Nat) : (x : Int) / 2 ^ ((k : Int).toNat) = ((x / 2 ^ k : Nat) : Int) := by
  rw [Int.toNat_natCast, Int.natCast_ediv, Int.natCast_pow]
  rfl
theorem shl_one (k : Nat) : (1 : Int) * 2 ^ ((k : Int).toNat) = ((2 ^ k : Nat) : Int) := by
  have e := shl_nat 1 k
  rw [Nat.one_mul] at e
  exact e
theorem same_upd {H : Hp} {p : Addr} {o : HO} (h : H p = none) : Same H (upd H p o) := fun b z e => by
  rw [upd_ne (ne_of_none e h)]
  exact e
theorem same_more {H H1 : Hp} {p : Addr} {o : HO} (s : Same H H1) (h : H1 p = none) : Same H (upd H1 p o) := s.trans (same_upd h)
/-- a range's bounds -/
theorem rg_lo (m : Nat) : -(2 ^ 62) ≤ (m : Int) := by omega
theorem rg_hi {m : Nat} (h : m ≤ 65536) : (m : Int) < 2 ^ 62 := by omega
/-- x << k, x >> k of numbers from 0, as the readings ask -/
theorem r_shl {H : Hp} {Q : VK} (x k : Nat) (hk : k ≤ 1000) (hx : x < 2 ^ 64) (q : Q (vN (x * 2 ^ k)) H) : rI CPow (fun i j => .int (i * 2 ^ j.toNat)) (vN x) (vN k) H Q := by
  refine ⟨(x : Int), (k : Int), rfl, rfl, ⟨Int.natCast_nonneg k, by omega, by rw [Int.natAbs_natCast]; exact hx⟩, ?_⟩
  show Q (V.int ((x : Int) * 2 ^ ((k : Int).toNat))) H
  rw [shl_nat]
  exact q
theorem r_shl1 {H : Hp} {Q : VK} (k : Nat) (hk : k ≤ 1000) (q : Q (vN (2 ^ k)) H) : rI CPow (fun i j => .int (i * 2 ^ j.toNat)) (.int 1) (vN k) H Q := by
  refine r_shl 1 k hk (by decide) ?_
  rw [Nat.one_mul]
  exact q
/-- an if whose test is known -/
theorem if_true_of {c : Bool} {A B : Prop} (hc : c = true) (h : A) : if c = true then A else B := by
  rw [if_pos hc]
  exact h
theorem if_false_of {c : Bool} {A B : Prop} (hc : c = false) (h : B) : if c = true then A else B := by
  rw [hc, if_neg Bool.false_ne_true]
  exact h
theorem yes_of {σ : L2.St} {H : Hp} {A B : Hp → Prop} (h : A H) : tYes σ H fun b H3 => if b = true then A H3 else B H3 := by
  show if true = true then A H else B H
  rw [if_pos rfl]
  exact h
/-- what one turn of a for asks: the names, then the body, which goes on at N and breaks to what is behind the loop -/
abbrev TurnF (g : TG) (tb : TS) (D : Ends) (N : L2.St → Hp → Prop) (v : V) (σ : L2.St) (H : Hp) : Prop :=
  g v σ H fun τ H2 => tb { D with nx := N, ct := N, bk := D.nx } τ H2
/-- over enumerate(list), the list left as it is: M by the turn, each item in a new pair -/
theorem for_enum {K : PySem.W.Frag} {a : Addr} {xs : List V} {g : TG} {tb : TS} {D : Ends} {σ : L2.St} {H : Hp}
    (M : Nat → L2.St → Hp → Prop) (start : M 0 σ H) (still : ∀ k τ H, k ≤ xs.length → M k τ H → SqL K H a xs)
    (turn : ∀ k v T τ H, xs[k]? = some v → M k τ H → H T = none → TurnF g tb D (M (k + 1)) (.ref T) τ (upd H T (.tup [.int (k : Nat), v])))
    (done : ∀ τ H, M xs.length τ H → D.nx τ H) :
    ∃ W : Nat → Nat → L2.St → Hp → Prop, (∃ m, W 0 m σ H) ∧
      ∀ k m τ H, W k m τ H → ((Ite K a).stop k H ∧ D.nx τ H) ∨ ((Ite K a).go k H ∧ ∃ N : L2.St → Hp → Prop,
        (∀ τ' H', N τ' H' → ∃ m', m' < m ∧ W (k + 1) m' τ' H') ∧ ∀ v H', (Ite K a).yld k H v H' → TurnF g tb D N v τ H') := by
  refine ⟨fun k m τ H => k + m = xs.length ∧ M k τ H, ⟨xs.length, Nat.zero_add _, start⟩, fun k m τ H ⟨hm, hM⟩ => ?_⟩
  have sq := still k τ H (by omega) hM
  cases m with
  | zero =>
    have hk : k = xs.length := hm
    exact .inl ⟨⟨xs, sq, by omega⟩, done τ H (hk ▸ hM)⟩
  | succ m =>
    have hk : k < xs.length := by omega
    refine .inr ⟨⟨xs, xs[k], sq, List.getElem?_eq_getElem hk⟩, M (k + 1), fun τ' H' h => ⟨m, Nat.lt_succ_self m, by omega, h⟩, fun v H' hy => ?_⟩
    obtain ⟨T, u, rfl, new, rfl, is⟩ := hy
    exact turn k u T τ H (is xs sq) hM new
/-- what one turn of a comprehension that keeps each item asks: the names, then the item, put behind those at D -/
abbrev TurnC (g : TG) (tt : TT) (te : TE) (own : List Nat) (σ : L2.St) (D : Addr) (N : Hp → Prop) (v : V) (H : Hp) : Prop :=
  g v (wipe σ own) H fun τ H2 => wipe τ own = wipe σ own ∧
    tt τ H2 fun c H3 =>
      if c = true then te τ H3 fun z H4 => ∃ ys, H4 D = some (.lst ys) ∧ ys.length < sizeLine ∧ N (upd H4 D (.lst (ys ++ [z])))
      else N H3
/-- a comprehension over enumerate(list), the list left as it is: M by the turn, each item in a new pair -/
theorem lc_enum {K : PySem.W.Frag} {a : Addr} {xs : List V} {g : TG} {tt : TT} {te : TE} {own : List Nat} {σ : L2.St} {H1 : Hp} {D : Addr} {R : Hp → Prop}
    (M : Nat → Hp → Prop) (start : M 0 (upd H1 D (.lst []))) (still : ∀ k H, k ≤ xs.length → M k H → SqL K H a xs)
    (turn : ∀ k v T H, xs[k]? = some v → M k H → H T = none → TurnC g tt te own σ D (M (k + 1)) (.ref T) (upd H T (.tup [.int (k : Nat), v])))
    (done : ∀ H, M xs.length H → R H) :
    ∃ W : Nat → Nat → Hp → Prop, (∃ m, W 0 m (upd H1 D (.lst []))) ∧
      ∀ k m H, W k m H → ((Ite K a).stop k H ∧ R H) ∨ ((Ite K a).go k H ∧ ∃ N : Hp → Prop,
        (∀ H', N H' → ∃ m', m' < m ∧ W (k + 1) m' H') ∧ ∀ v H', (Ite K a).yld k H v H' → TurnC g tt te own σ D N v H') := by
  refine ⟨fun k m H => k + m = xs.length ∧ M k H, ⟨xs.length, Nat.zero_add _, start⟩, fun k m H ⟨hm, hM⟩ => ?_⟩
  have sq := still k H (by omega) hM
  cases m with
  | zero =>
    have hk : k = xs.length := hm
    exact .inl ⟨⟨xs, sq, by omega⟩, done H (hk ▸ hM)⟩
  | succ m =>
    have hk : k < xs.length := by omega
    refine .inr ⟨⟨xs, xs[k], sq, List.getElem?_eq_getElem hk⟩, M (k + 1), fun H' h => ⟨m, Nat.lt_succ_self m, by omega, h⟩, fun v H' hy => ?_⟩
    obtain ⟨T, u, rfl, new, rfl, is⟩ := hy
    exact turn k u T H (is xs sq) hM new
/-! ### input_fits -/
def spFits (K : PySem.W.Frag) : Sp := fun vs H Q _ => ∃ (n : Nat) (a : Addr) (ts : List Nat), vs = [vN n, .ref a] ∧ SqL K H a (vNs ts) ∧ Q (.bl (Kzk1.okTowers n ts)) H
/-! ### state_after -/
def spSA (K : PySem.W.Frag) : Sp := fun vs H Q _ => ∃ (a : Addr) (ts : List Nat) (s : Nat), vs = [.ref a, vN s] ∧ SqL K H a (vNs ts) ∧ ts.length ≤ 10 ∧ ∀ H', Same H H' → Q (vN (Kzk1.next ts.length ts s)) H'
/-! ### is_under -/
def spUnd : Sp := fun vs H Q _ => ∃ (x y : Nat), vs = [vN x, vN y] ∧ Q (.bl (decide (x &&& y = x))) H
/-! ### rules_rise -/
def spRR (K : PySem.W.Frag) : Sp := fun vs H Q _ => ∃ (n : Nat) (a : Addr) (ts : List Nat), vs = [vN n, .ref a] ∧ SqL K H a (vNs ts) ∧ ts.length = n ∧ n ≤ 4 ∧ ∀ H', Same H H' → Q (.bl (Kzk6.rises n ts)) H'
section
variable {P : Program} {w : World} {K : PySem.W.Frag} {mg : Str → Option Value} {base : Heap}
theorem scF : FnScope ["n", "t", "bound", "rule"] ["n", "t"] (defScope sFits) := ⟨rfl, rfl, rfl, by decide +kernel, rfl, by decide +kernel, by decide +kernel⟩
theorem ok_fits {f : Addr} {fd : FuncData} {tk : Tok} (F : Fun K "input_fits" "input_fits" sFits f fd) (ml : mg "len" = none) (mM : mg "MOST_TOWERS" = some (.int 4 tk)) : FnOk P w K mg base CX0 1 f fd ["n", "t"] (spFits K) := by
  refine F.ok scF (fun vs H Q E h => ?_) (fun cdv A outer s H vs Q E hr h => ?_)
  · obtain ⟨n, a, ts, rfl, _⟩ := h
    rfl
  · obtain ⟨n, a, ts, rfl, hS, q⟩ := h
    refine ⟨_, pss_cons (ps_if (PW.pt (pw_or (pt_cmpR op_lt (pv 0) pe_int (nomark _)) (pw_or (pt_cmpR op_gt (pv 0) (pe_glob (v := .int 4) rfl mM ⟨_, rfl⟩) (nomark _)) (pw_or1 (pt_cmpR op_ne (pe_callB call_len_seq (by rfl) ml PySem.boot_len (pa_cons (pv 1) pa_nil)) (pv 0) (nomark _))))))
        (pss_one (ps_ret pe_bl)) pss_nil)
      (pss_cons (ps_set (i := 2) scF.nd rfl (.inl rfl) (pe_op op_shl pe_int (pe_op op_shl pe_int (pv 0))))
      (pss_cons (ps_for PassesOwn.never rfl (pi_list (pv 1)) (pg_name (i := 3) scF.nd rfl (.inl rfl))
        (pss_one (ps_if (pt_cmpR op_ge (pv 3) (pv 2) (nomark _)) (pss_one (ps_ret pe_bl)) pss_nil)))
      (pss_one (ps_ret pe_bl)))), ?_⟩
    refine ⟨vN n, rfl, (n : Int), 1, rfl, rfl, _, rfl, ?_⟩
    by_cases c1 : (n : Int) < 1
    · refine if_true_of (decide_eq_true c1) (iteT ?_)
      have e : Kzk1.okTowers n ts = false := okTowers_not fun z => by omega
      rw [e] at q
      exact q
    refine if_false_of (decide_eq_false c1) ?_
    refine ⟨vN n, rfl, (n : Int), 4, rfl, rfl, _, rfl, ?_⟩
    by_cases c2 : (4 : Int) < (n : Int)
    · refine if_true_of (decide_eq_true c2) (iteT ?_)
      have e : Kzk1.okTowers n ts = false := okTowers_not fun z => by omega
      rw [e] at q
      exact q
    refine if_false_of (decide_eq_false c2) ?_
    refine ⟨.ref a, rfl, a, vNs ts, rfl, .inl hS, vN n, rfl, rfl, _, rfl, ?_⟩
    by_cases c3 : ts.length = n
    case neg =>
      have e : Kzk1.okTowers n ts = false := okTowers_not fun z => c3 z.2.2.1
      have d : decide (V.int ((vNs ts).length : Nat) = vN n) = false := decide_eq_false fun z => by
        have z := V.int.inj z
        rw [vNs_len] at z
        omega
      rw [d]
      refine iteT ?_
      rw [e] at q
      exact q
    have d : decide (V.int ((vNs ts).length : Nat) = vN n) = true := decide_eq_true (by rw [vNs_len, c3]; rfl)
    rw [d]
    refine iteF ?_
    have hn : n ≤ 4 := by omega
    have h16 := two_le16 hn
    refine ⟨vN n, rfl, r_shl1 n (by omega) (r_shl1 (2 ^ n) (by omega) ?_)⟩
    refine ⟨.ref a, rfl, a, rfl, ⟨_, hS⟩, for_list (K := K) (a := a) (xs := vNs ts) (fun i σ H' => ∃ v : Option V, σ = [some (vN n), some (.ref a), some (vN (2 ^ 2 ^ n)), v] ∧ H' = H ∧ ∀ r ∈ ts.take i, r < 2 ^ 2 ^ n)
      ⟨none, rfl, rfl, fun r hr => by simp at hr⟩ (fun i σ H' _ ⟨_, _, e, _⟩ => by rw [e]; exact hS) ?_ ?_⟩
    · rintro i y σ H' hi ⟨v, rfl, rfl, all⟩
      obtain ⟨r, hr, rfl⟩ := vNs_get hi
      refine ⟨vN r, rfl, vN (2 ^ 2 ^ n), rfl, (r : Int), ((2 ^ 2 ^ n : Nat) : Int), rfl, rfl, _, rfl, ?_⟩
      by_cases c : ((2 ^ 2 ^ n : Nat) : Int) ≤ (r : Int)
      · refine if_true_of (decide_eq_true c) ?_
        have e : Kzk1.okTowers n ts = false := okTowers_not fun z => by
          have := z.2.2.2 r (List.mem_of_getElem? hr)
          omega
        rw [e] at q
        exact q
      · refine if_false_of (decide_eq_false c) ?_
        refine ⟨some (vN r), rfl, rfl, fun r' hr' => ?_⟩
        rw [List.take_add_one, hr] at hr'
        rcases List.mem_append.mp hr' with z | z
        · exact all r' z
        · have e : r' = r := by simpa using z
          rw [e]
          omega
    · rintro σ H' ⟨v, rfl, rfl, all⟩
      have e : Kzk1.okTowers n ts = true := okTowers_iff.mpr ⟨by omega, by omega, c3, by rw [vNs_len, List.take_length] at all; exact all⟩
      rw [e] at q
      exact q
theorem scA : FnScope ["t", "state", "after", "tower", "rule"] ["t", "state"] (defScope sSA) := ⟨rfl, rfl, rfl, by decide +kernel, rfl, by decide +kernel, by decide +kernel⟩
theorem ok_sa {f : Addr} {fd : FuncData} (F : Fun K "state_after" "state_after" sSA f fd) (me : mg "enumerate" = none) : FnOk P w K mg base CX0 1 f fd ["t", "state"] (spSA K) := by
  refine F.ok scA (fun vs H Q E h => ?_) (fun cdv A outer s H vs Q E hr h => ?_)
  · obtain ⟨a, ts, s, rfl, _⟩ := h
    rfl
  · obtain ⟨a, ts, s, rfl, hS, hlen, q⟩ := h
    refine ⟨_, pss_cons (ps_set (i := 2) scA.nd rfl (.inl rfl) pe_int)
      (pss_cons (ps_for PassesOwn.never rfl (pi_enum (by rfl) me (pa_cons (pv 0) pa_nil))
        (pg_tup rfl (pgs_cons (pg_name (i := 3) scA.nd rfl (.inl rfl)) (pgs_cons (pg_name (i := 4) scA.nd rfl (.inl rfl)) pgs_nil)))
        (pss_one (ps_set (i := 2) scA.nd rfl (.inl rfl) (pe_op op_or (pv 2) (pe_op op_shl (pe_op op_and (pe_op op_shr (pv 4) (pv 1)) pe_int) (pv 3))))))
      (pss_one (ps_ret (pv 2)))), ?_⟩
    refine ⟨.ref a, rfl, a, vNs ts, rfl, hS, for_enum (K := K) (a := a) (xs := vNs ts) (fun i σ H' => ∃ v3 v4 : Option V, σ = [some (.ref a), some (vN s), some (vN (Kzk1.make i fun j => Kzk1.isUp ts j s)), v3, v4] ∧ Same H H')
      ⟨none, none, rfl, Same.refl H⟩ (fun i σ H' _ ⟨_, _, _, sm⟩ => sm.seq hS) ?_ ?_⟩
    · rintro i y T σ H' hi ⟨v3, v4, rfl, sm⟩ nT
      obtain ⟨r, hr, rfl⟩ := vNs_get hi
      have hil : i < ts.length := by
        obtain ⟨z, _⟩ := List.getElem?_eq_some_iff.mp hr
        exact z
      refine ⟨T, [vN i, vN r], rfl, .inl (.inl upd_same), rfl, vN i, [vN r], rfl, vN r, [], rfl, rfl, ?_⟩
      refine ⟨_, rfl, _, rfl, _, rfl, (r : Int), (s : Int), rfl, rfl, Int.natCast_nonneg s, _, 1, rfl, rfl, _, rfl, _, (i : Int), rfl, rfl, ?_, _, _, rfl, rfl, ?_⟩
      · rw [shr_nat]
        refine ⟨Int.natCast_nonneg i, by omega, ?_⟩
        rw [show (1 : Int) = ((1 : Nat) : Int) from rfl, and_nat, Nat.and_one_is_mod, Int.natAbs_natCast]
        exact Nat.lt_trans (Nat.mod_lt _ (by decide)) (by decide)
      · refine ⟨some (vN i), some (vN r), ?_, same_more sm nT⟩
        have e : Builtin.bitOr ((Kzk1.make i fun j => Kzk1.isUp ts j s : Nat) : Int) (Builtin.bitAnd ((r : Int) / 2 ^ ((s : Int).toNat)) 1 * 2 ^ ((i : Int).toNat)) = ((Kzk1.make (i + 1) fun j => Kzk1.isUp ts j s : Nat) : Int) := by
          rw [shr_nat, show (1 : Int) = ((1 : Nat) : Int) from rfl, and_nat, Nat.and_one_is_mod, shl_nat, or_nat, step_make s hr]
        show [some (V.ref a), some (vN s), some (V.int (Builtin.bitOr ((Kzk1.make i fun j => Kzk1.isUp ts j s : Nat) : Int) (Builtin.bitAnd ((r : Int) / 2 ^ ((s : Int).toNat)) 1 * 2 ^ ((i : Int).toNat)))), some (vN i), some (vN r)] = _
        rw [e]
        rfl
    · rintro σ H' ⟨v3, v4, rfl, sm⟩
      rw [vNs_len]
      exact ⟨_, rfl, q H' sm⟩
theorem scU : FnScope ["low", "high"] ["low", "high"] (defScope sUnd) := ⟨rfl, rfl, rfl, by decide +kernel, rfl, by decide +kernel, by decide +kernel⟩
theorem ok_und {f : Addr} {fd : FuncData} (F : Fun K "is_under" "is_under" sUnd f fd) : FnOk P w K mg base CX0 1 f fd ["low", "high"] spUnd := by
  refine F.ok scU (fun vs H Q E h => ?_) (fun cdv A outer s H vs Q E hr h => ?_)
  · obtain ⟨x, y, rfl, _⟩ := h
    rfl
  · obtain ⟨x, y, rfl, q⟩ := h
    refine ⟨_, pss_one (ps_ret (pe_cmpR op_eq (pe_op op_and (pv 0) (pv 1)) (pv 0) (nomark _))), ?_⟩
    refine ⟨_, rfl, _, rfl, (x : Int), (y : Int), rfl, rfl, _, rfl, rfl, ?_⟩
    have e : decide (V.int (Builtin.bitAnd (x : Int) (y : Int)) = vN x) = decide (x &&& y = x) := by
      rw [and_nat, Bool.eq_iff_iff, decide_eq_true_eq, decide_eq_true_eq]
      constructor
      · intro z
        have z := V.int.inj z
        omega
      · intro z
        rw [z]
        rfl
    rw [e]
    exact q
theorem scR : FnScope ["n", "t", "states", "afters", "low", "high", "state"] ["n", "t"] (defScope sRR) := ⟨rfl, rfl, rfl, by decide +kernel, rfl, by decide +kernel, by decide +kernel⟩
theorem ok_rr {f fS fU : Addr} {fd fdS fdU : FuncData} (F : Fun K "rules_rise" "rules_rise" sRR f fd) (FS : Fun K "state_after" "state_after" sSA fS fdS) (bS : Binds K fdS ["t", "state"] []) (gS : mg "state_after" = some (.ref fS))
    (FU : Fun K "is_under" "is_under" sUnd fU fdU) (bU : Binds K fdU ["low", "high"] []) (gU : mg "is_under" = some (.ref fU)) (me : mg "enumerate" = none) (mr : mg "range" = none) : FnOk P w K mg base CX0 2 f fd ["n", "t"] (spRR K) := by
  have GS : FnOk P w K mg base CX0 1 fS fdS ["t", "state"] (spSA K) := ok_sa FS me
  have GU : FnOk P w K mg base CX0 1 fU fdU ["low", "high"] spUnd := ok_und FU
  refine F.ok scR (fun vs H Q E h => ?_) (fun cdv A outer s H vs Q E hr h => ?_)
  · obtain ⟨n, a, ts, rfl, _⟩ := h
    rfl
  · obtain ⟨n, a, ts, rfl, hS, hlen, hn, q⟩ := h
    refine ⟨_, pss_cons (ps_set (i := 2) scR.nd rfl (.inl rfl) (pe_op op_shl pe_int (pv 0)))
      (pss_cons (ps_setLc (i := 3) (own := [("state", 6)]) (g := gName 6) (tt := tYes) (by rfl) scR.nd rfl rfl (sw_true rfl rfl rfl (by decide +kernel)) (pi_range1 (by rfl) mr (pa_cons (pv 2) pa_nil))
          (blkOk_by (N := ["n", "t", "states", "afters", "low", "high", "state"]) (sc := defScope sRR) (by decide +kernel)) (fun _ _ _ _ _ => pg_name (i := 6) scR.nd rfl (Or.inl rfl)) (fun _ _ _ _ _ => pts_nil)
          (fun _ _ _ _ _ => pe_call GS hr (by rfl) gS FS.kp bS .nil pass0 (pa_cons (pv 1) (pa_cons (pv 6) pa_nil))))
      (pss_cons (ps_for PassesOwn.never rfl (pi_range1 (by rfl) mr (pa_cons (pv 2) pa_nil)) (pg_name (i := 4) scR.nd rfl (.inl rfl))
        (pss_one (ps_for PassesOwn.never rfl (pi_range1 (by rfl) mr (pa_cons (pv 2) pa_nil)) (pg_name (i := 5) scR.nd rfl (.inl rfl))
          (pss_one (ps_if (PW.pt (pw_and (pt_val (pe_call GU hr (by rfl) gU FU.kp bU .nil pass0 (pa_cons (pv 4) (pa_cons (pv 5) pa_nil))))
              (pw_and1 (pt_not (pt_val (pe_call GU hr (by rfl) gU FU.kp bU .nil pass0 (pa_cons (pe_ix ix_list (pv 3) (pv 4) (fun _ _ => rfl)) (pa_cons (pe_ix ix_list (pv 3) (pv 5) (fun _ _ => rfl)) pa_nil))))))))
            (pss_one (ps_ret pe_bl)) pss_nil)))))
      (pss_one (ps_ret pe_bl)))), ?_⟩
    have h16 := two_le16 hn
    refine ⟨vN n, rfl, r_shl1 n (by omega) ?_⟩
    refine ⟨vN (2 ^ n), rfl, ((2 ^ n : Nat) : Int), rfl, rg_lo _, rg_hi (by omega), fun D hD => ?_⟩
    refine lc_range (lo := 0) (n := 2 ^ n) (fun i H' => Same H H' ∧ H' D = some (.lst (vNs ((List.range i).map (Kzk1.next n ts))))) ⟨same_upd hD, upd_same⟩ ?_ ?_
    · rintro i H' hi ⟨sm, eD⟩
      refine ⟨rfl, yes_of ?_⟩
      refine ⟨.ref a, rfl, _, rfl, a, ts, i, ?_, sm.seq hS, by omega, fun H2 sm2 => ⟨_, sm2 _ _ eD, ?_, ?_, ?_⟩⟩
      · show [V.ref a, V.int (0 + (i : Int))] = _
        rw [Int.zero_add]
        rfl
      · rw [vNs_len, List.length_map, List.length_range]
        exact small1000 (by omega)
      · intro b o e
        rw [upd_ne (ne_of_none e hD)]
        exact sm2 _ _ (sm _ _ e)
      · rw [upd_same, List.range_succ, List.map_append, hlen]
        unfold vNs
        rw [List.map_append]
        rfl
    · rintro H1 ⟨sm, eD⟩
      have get : ∀ x : Nat, x < 2 ^ n → atI (vNs ((List.range (2 ^ n)).map (Kzk1.next n ts))) (x : Int) = some (vN (Kzk1.next n ts x)) := fun x hx => atI_nat (by
        unfold vNs
        rw [List.getElem?_map, List.getElem?_map, List.getElem?_range hx]
        rfl)
      refine ⟨vN (2 ^ n), rfl, ((2 ^ n : Nat) : Int), rfl, rg_lo _, rg_hi (by omega), ?_⟩
      refine for_range (lo := 0) (n := 2 ^ n) (fun i σ H' => ∃ v4 v5 : Option V, σ = [some (vN n), some (.ref a), some (vN (2 ^ n)), some (.ref D), v4, v5, none] ∧ H' = H1 ∧ ∀ x, x < i → ∀ y, y < 2 ^ n → x &&& y = x → Kzk1.next n ts x &&& Kzk1.next n ts y = Kzk1.next n ts x)
        ⟨none, none, rfl, rfl, fun x hx => by omega⟩ ?_ ?_
      · rintro x σ H' hx ⟨v4, v5, rfl, rfl, all⟩
        refine ⟨vN (2 ^ n), rfl, ((2 ^ n : Nat) : Int), rfl, rg_lo _, rg_hi (by omega), ?_⟩
        refine for_range (lo := 0) (n := 2 ^ n) (fun i σ H2 => ∃ v5 : Option V, σ = [some (vN n), some (.ref a), some (vN (2 ^ n)), some (.ref D), some (vN x), v5, none] ∧ H2 = H' ∧ ∀ y, y < i → x &&& y = x → Kzk1.next n ts x &&& Kzk1.next n ts y = Kzk1.next n ts x)
          ⟨v5, by show [_, _, _, _, some (V.int (0 + (x : Int))), _, _] = _; rw [Int.zero_add]; rfl, rfl, fun y hy => by omega⟩ ?_ ?_
        · rintro y σ H2 hy ⟨w5, rfl, rfl, ally⟩
          have ey : (0 : Int) + (y : Int) = (y : Int) := Int.zero_add _
          rw [ey]
          refine ⟨vN x, rfl, vN y, rfl, x, y, rfl, _, rfl, ?_⟩
          by_cases c : x &&& y = x
          · refine if_true_of (decide_eq_true c) ?_
            refine ⟨_, rfl, vN x, rfl, D, _, (x : Int), _, rfl, rfl, SqL.of eD, get x hx, _, rfl, vN y, rfl, D, _, (y : Int), _, rfl, rfl, SqL.of eD, get y hy, Kzk1.next n ts x, Kzk1.next n ts y, rfl, _, rfl, ?_⟩
            by_cases d : Kzk1.next n ts x &&& Kzk1.next n ts y = Kzk1.next n ts x
            · rw [decide_eq_true d]
              refine iteF ⟨some (vN y), rfl, rfl, fun y' hy' cy => ?_⟩
              by_cases e : y' = y
              · rw [e]
                exact d
              · exact ally y' (by omega) cy
            · rw [decide_eq_false d]
              refine iteT ?_
              have z := q H2 sm
              rw [rises_not hx hy c d] at z
              exact z
          · refine if_false_of (decide_eq_false c) ?_
            refine iteF ⟨some (vN y), rfl, rfl, fun y' hy' cy => ?_⟩
            by_cases e : y' = y
            · rw [e] at cy
              exact absurd cy c
            · exact ally y' (by omega) cy
        · rintro σ H2 ⟨w5, rfl, rfl, ally⟩
          refine ⟨some (vN x), w5, rfl, rfl, fun x' hx' y hy cy => ?_⟩
          by_cases e : x' = x
          · rw [e] at cy ⊢
            exact ally y hy cy
          · exact all x' (by omega) y hy cy
      · rintro σ H' ⟨v4, v5, rfl, rfl, all⟩
        have e : Kzk6.rises n ts = true := rises_pairs.mpr all
        have z := q H' sm
        rw [e] at z
        exact z
/-! ### refusal_due, rest_after -/
def spRD (K : PySem.W.Frag) : Sp := fun vs H Q _ => ∃ (n : Nat) (b a : Addr) (ss ts : List Nat), vs = [vN n, .ref b, .ref a] ∧ SqL K H b (vNs ss) ∧ SqL K H a (vNs ts) ∧ ts.length ≤ 10 ∧ ∀ H', Same H H' → Q (.int (refusal n ss ts)) H'
def spRA (K : PySem.W.Frag) : Sp := fun vs H Q _ => ∃ (a : Addr) (n : Nat) (ts : List Nat) (s L : Nat), vs = [.ref a, vN s] ∧ SqL K H a (vNs ts) ∧ ts.length ≤ 10 ∧ ts.length = n ∧ Climb n ts s L ∧ ∀ H' p, Same H H' → H' p = some (.lst [vN (Kzk1.after n ts L s), vN L]) → Q (.ref p) H'
theorem scD : FnScope ["n", "states", "t", "state"] ["n", "states", "t"] (defScope sRD) := ⟨rfl, rfl, rfl, by decide +kernel, rfl, by decide +kernel, by decide +kernel⟩
theorem ok_rd {f fF fR fS : Addr} {fd fdF fdR fdS : FuncData} {tW tN tA : Tok} (F : Fun K "refusal_due" "refusal_due" sRD f fd)
    (GF : FnOk P w K mg base CX0 1 fF fdF ["n", "t"] (spFits K)) (kF : PySem.W.keepIn K (.ref fF) = true) (bF : Binds K fdF ["n", "t"] []) (gF : mg "input_fits" = some (.ref fF))
    (GR : FnOk P w K mg base CX0 2 fR fdR ["n", "t"] (spRR K)) (kR : PySem.W.keepIn K (.ref fR) = true) (bR : Binds K fdR ["n", "t"] []) (gR : mg "rules_rise" = some (.ref fR))
    (GS : FnOk P w K mg base CX0 1 fS fdS ["t", "state"] (spSA K)) (kS : PySem.W.keepIn K (.ref fS) = true) (bS : Binds K fdS ["t", "state"] []) (gS : mg "state_after" = some (.ref fS))
    (mW : mg "WRONG_INPUT" = some (.int (-22) tW)) (mN : mg "NOT_RISING" = some (.int (-16) tN)) (mA : mg "NOT_AT_REST" = some (.int (-33) tA)) : FnOk P w K mg base CX0 3 f fd ["n", "states", "t"] (spRD K) := by
  refine F.ok scD (fun vs H Q E h => ?_) (fun cdv A outer s H vs Q E hr h => ?_)
  · obtain ⟨n, b, a, ss, ts, rfl, _⟩ := h
    rfl
  · obtain ⟨n, b, a, ss, ts, rfl, hB, hS, hlen, q⟩ := h
    have hr1 : Room 1 _ := hr.mono (by decide)
    refine ⟨_, pss_cons (ps_if (pt_not (pt_val (pe_call GF hr1 (by rfl) gF kF bF .nil pass0 (pa_cons (pv 0) (pa_cons (pv 2) pa_nil))))) (pss_one (ps_ret (pe_glob (v := .int (-22)) rfl mW ⟨_, rfl⟩))) pss_nil)
      (pss_cons (ps_for PassesOwn.never rfl (pi_list (pv 1)) (pg_name (i := 3) scD.nd rfl (.inl rfl))
        (pss_one (ps_if (pt_cmpR op_ge (pv 3) (pe_op op_shl pe_int (pv 0)) (nomark _)) (pss_one (ps_ret (pe_glob (v := .int (-22)) rfl mW ⟨_, rfl⟩))) pss_nil)))
      (pss_cons (ps_if (pt_not (pt_val (pe_call GR hr (by rfl) gR kR bR .nil pass0 (pa_cons (pv 0) (pa_cons (pv 2) pa_nil))))) (pss_one (ps_ret (pe_glob (v := .int (-16)) rfl mN ⟨_, rfl⟩))) pss_nil)
      (pss_cons (ps_for PassesOwn.never rfl (pi_list (pv 1)) (pg_name (i := 3) scD.nd rfl (.inl rfl))
        (pss_one (ps_if (pt_cmpR op_ne (pe_call GS hr1 (by rfl) gS kS bS .nil pass0 (pa_cons (pv 2) (pa_cons (pv 3) pa_nil))) (pv 3) (nomark _)) (pss_one (ps_ret (pe_glob (v := .int (-33)) rfl mA ⟨_, rfl⟩))) pss_nil)))
      (pss_one (ps_ret pe_int))))), ?_⟩
    refine ⟨_, rfl, _, rfl, n, a, ts, rfl, hS, _, rfl, ?_⟩
    cases ok : Kzk1.okTowers n ts
    · refine iteT ?_
      have z := q H (Same.refl H)
      rw [refusal_of_towers ok] at z
      exact z
    refine iteF ?_
    obtain ⟨hn1, hn4, hl, _⟩ := okTowers_iff.mp ok
    refine ⟨.ref b, rfl, b, rfl, ⟨_, hB⟩, for_list (K := K) (a := b) (xs := vNs ss) (fun i σ H' => ∃ v : Option V, σ = [some (vN n), some (.ref b), some (.ref a), v] ∧ H' = H ∧ ∀ r ∈ ss.take i, r < 2 ^ n)
      ⟨none, rfl, rfl, fun r hr => by simp at hr⟩ (fun i σ H' _ ⟨_, _, e, _⟩ => by rw [e]; exact hB) ?_ ?_⟩
    · rintro i y σ H' hi ⟨v, rfl, rfl, all⟩
      obtain ⟨r, hr, rfl⟩ := vNs_get hi
      refine ⟨vN r, rfl, vN n, rfl, r_shl1 n (by omega) ?_⟩
      refine ⟨(r : Int), ((2 ^ n : Nat) : Int), rfl, rfl, _, rfl, ?_⟩
      by_cases c : ((2 ^ n : Nat) : Int) ≤ (r : Int)
      · refine if_true_of (decide_eq_true c) ?_
        have z := q H' (Same.refl _)
        rw [refusal_of_state (List.mem_of_getElem? hr) (by omega)] at z
        exact z
      · refine if_false_of (decide_eq_false c) ?_
        refine ⟨some (vN r), rfl, rfl, fun r' hr' => ?_⟩
        rw [List.take_add_one, hr] at hr'
        rcases List.mem_append.mp hr' with z | z
        · exact all r' z
        · have e : r' = r := by simpa using z
          rw [e]
          omega
    · rintro σ H' ⟨v, rfl, rfl, all⟩
      rw [vNs_len, List.take_length] at all
      refine ⟨_, rfl, _, rfl, n, a, ts, rfl, hS, hl, hn4, fun H1 s1 => ⟨_, rfl, ?_⟩⟩
      cases rs : Kzk6.rises n ts
      · refine iteT ?_
        have z := q H1 s1
        rw [refusal_of_rises ok all rs] at z
        exact z
      refine iteF ?_
      refine ⟨.ref b, rfl, b, rfl, ⟨_, s1.seq hB⟩, for_list (K := K) (a := b) (xs := vNs ss) (fun i σ H2 => ∃ v : Option V, σ = [some (vN n), some (.ref b), some (.ref a), v] ∧ Same H' H2 ∧ ∀ r ∈ ss.take i, Kzk1.next n ts r = r)
        ⟨v, rfl, s1, fun r hr => by simp at hr⟩ (fun i σ H2 _ ⟨_, _, e, _⟩ => e.seq hB) ?_ ?_⟩
      · rintro i y σ H2 hi ⟨v, rfl, s2, alr⟩
        obtain ⟨r, hr, rfl⟩ := vNs_get hi
        refine ⟨.ref a, rfl, vN r, rfl, a, ts, r, rfl, s2.seq hS, hlen, fun H3 s3 => ?_⟩
        refine ⟨vN r, rfl, rfl, _, rfl, ?_⟩
        rw [hl]
        by_cases c : Kzk1.next n ts r = r
        · have d : decide (vN (Kzk1.next n ts r) = vN r) = true := decide_eq_true (by rw [c])
          rw [d]
          refine iteF ⟨some (vN r), rfl, s2.trans s3, fun r' hr' => ?_⟩
          rw [List.take_add_one, hr] at hr'
          rcases List.mem_append.mp hr' with z | z
          · exact alr r' z
          · have e : r' = r := by simpa using z
            rw [e]
            exact c
        · have d : decide (vN (Kzk1.next n ts r) = vN r) = false := decide_eq_false fun z => by
            have z := V.int.inj z
            exact c (by omega)
          rw [d]
          refine iteT ?_
          have z := q H3 (s2.trans s3)
          rw [refusal_of_rest ok all rs (List.mem_of_getElem? hr) c] at z
          exact z
      · rintro σ H2 ⟨v, rfl, s2, alr⟩
        rw [vNs_len, List.take_length] at alr
        have z := q H2 s2
        rw [refusal_none ok all rs alr] at z
        exact z
theorem scW : FnScope ["t", "state", "steps", "after"] ["t", "state"] (defScope sRA) := ⟨rfl, rfl, rfl, by decide +kernel, rfl, by decide +kernel, by decide +kernel⟩
theorem ok_ra {f fS : Addr} {fd fdS : FuncData} (F : Fun K "rest_after" "rest_after" sRA f fd)
    (GS : FnOk P w K mg base CX0 1 fS fdS ["t", "state"] (spSA K)) (kS : PySem.W.keepIn K (.ref fS) = true) (bS : Binds K fdS ["t", "state"] []) (gS : mg "state_after" = some (.ref fS)) (ml : mg "len" = none) (mr : mg "range" = none) : FnOk P w K mg base CX0 2 f fd ["t", "state"] (spRA K) := by
  refine F.ok scW (fun vs H Q E h => ?_) (fun cdv A outer s H vs Q E hr h => ?_)
  · obtain ⟨a, n, ts, s, L, rfl, _⟩ := h
    rfl
  · obtain ⟨a, n, ts, s0, L, rfl, hS, hlen, hl, C, q⟩ := h
    refine ⟨_, pss_cons (ps_for PassesOwn.never rfl (pi_range1 (by rfl) mr (pa_cons (pe_callB call_len_seq (by rfl) ml PySem.boot_len (pa_cons (pv 0) pa_nil)) pa_nil)) (pg_name (i := 2) scW.nd rfl (.inl rfl))
        (pss_cons (ps_set (i := 3) scW.nd rfl (.inl rfl) (pe_call GS hr (by rfl) gS kS bS .nil pass0 (pa_cons (pv 0) (pa_cons (pv 1) pa_nil))))
        (pss_cons (ps_if (pt_cmpR op_eq (pv 3) (pv 1) (nomark _)) (pss_one (ps_ret (pe_lst (pa_cons (pv 1) (pa_cons (pv 2) pa_nil))))) pss_nil)
        (pss_one (ps_set (i := 1) scW.nd rfl (.inl rfl) (pv 3))))))
      (pss_one (ps_ret (pe_lst (pa_cons (pv 1) (pa_cons (pe_callB call_len_seq (by rfl) ml PySem.boot_len (pa_cons (pv 0) pa_nil)) pa_nil))))), ?_⟩
    have hlv : (vNs ts).length = n := by rw [vNs_len, hl]
    refine ⟨.ref a, rfl, a, vNs ts, rfl, .inl hS, ((vNs ts).length : Int), rfl, rg_lo _, rg_hi (by omega), ?_⟩
    refine for_range (lo := 0) (n := (vNs ts).length) (fun k σ H' => ∃ v2 v3 : Option V, σ = [some (.ref a), some (vN (Kzk1.after n ts k s0)), v2, v3] ∧ Same H H' ∧ k ≤ L)
      ⟨none, none, rfl, Same.refl H, Nat.zero_le _⟩ ?_ ?_
    · rintro k σ H' hk ⟨v2, v3, rfl, sm, hkL⟩
      have ek : (0 : Int) + (k : Int) = (k : Int) := Int.zero_add _
      rw [ek]
      refine ⟨.ref a, rfl, vN (Kzk1.after n ts k s0), rfl, a, ts, Kzk1.after n ts k s0, rfl, sm.seq hS, hlen, fun H2 s2 => ?_⟩
      rw [hl]
      refine ⟨_, rfl, _, rfl, rfl, _, rfl, ?_⟩
      by_cases e : k = L
      · have d : decide (vN (Kzk1.next n ts (Kzk1.after n ts k s0)) = vN (Kzk1.after n ts k s0)) = true := decide_eq_true (by rw [e, C.rest])
        rw [d]
        refine iteT ⟨_, rfl, _, rfl, by show 2 ≤ sizeLine; decide, fun p hp => q _ p (same_more (sm.trans s2) hp) ?_⟩
        rw [← e]
        exact upd_same
      · have d : decide (vN (Kzk1.next n ts (Kzk1.after n ts k s0)) = vN (Kzk1.after n ts k s0)) = false := decide_eq_false fun z => by
          have z := V.int.inj z
          exact C.first k (by omega) (by omega)
        rw [d]
        refine iteF ⟨_, rfl, some (vN k), some (vN (Kzk1.next n ts (Kzk1.after n ts k s0))), ?_, sm.trans s2, by omega⟩
        rw [after_succ]
        rfl
    · rintro σ H' ⟨v2, v3, rfl, sm, hkL⟩
      have eL : L = n := by
        have := C.le
        omega
      refine ⟨_, rfl, .ref a, rfl, a, vNs ts, rfl, .inl (sm.seq hS), by show 2 ≤ sizeLine; decide, fun p hp => q _ p (same_more sm hp) ?_⟩
      rw [upd_same, eL]
      show some (HO.lst [vN (Kzk1.after n ts (vNs ts).length s0), V.int ((vNs ts).length : Nat)]) = _
      rw [hlv]
      rfl
/-! ### what a call of n, x, y and t is asked -/
def spTop4 (due : Nat → Nat → Nat → List Nat → List Int) (K : PySem.W.Frag) : Sp := fun vs H Q _ => ∃ (n x y : Nat) (a : Addr) (ts : List Nat), vs = [vN n, vN x, vN y, .ref a] ∧ SqL K H a (vNs ts) ∧ ts.length ≤ 10 ∧
  ∀ (H' : Hp) (p : Addr), H' p = some (.lst ((due n x y ts).map V.int)) → Q (.ref p) H'
/-! ### join, meet: a walk from two states, together -/
def dueJoin (n x y : Nat) (ts : List Nat) : List Int := PyKzk6.join n x y (ups ts)
theorem scL : FnScope ["n", "x", "y", "t", "refusal"] ["n", "x", "y", "t"] (defScope sTop) := ⟨rfl, rfl, rfl, by decide +kernel, rfl, by decide +kernel, by decide +kernel⟩
theorem ok_top {f fD fA : Addr} {fd fdD fdA : FuncData} (F : Fun K "join" "join" sTop f fd)
    (GD : FnOk P w K mg base CX0 3 fD fdD ["n", "states", "t"] (spRD K)) (kD : PySem.W.keepIn K (.ref fD) = true) (bD : Binds K fdD ["n", "states", "t"] []) (gD : mg "refusal_due" = some (.ref fD))
    (GA : FnOk P w K mg base CX0 2 fA fdA ["t", "state"] (spRA K)) (kA : PySem.W.keepIn K (.ref fA) = true) (bA : Binds K fdA ["t", "state"] []) (gA : mg "rest_after" = some (.ref fA)) : FnOk P w K mg base CX0 4 f fd ["n", "x", "y", "t"] (spTop4 dueJoin K) := by
  refine F.ok scL (fun vs H Q E h => ?_) (fun cdv A outer s H vs Q E hr h => ?_)
  · obtain ⟨n, x, y, a, ts, rfl, _⟩ := h
    rfl
  · obtain ⟨n, x, y, a, ts, rfl, hS, hlen, q⟩ := h
    have hr2 : Room 2 _ := hr.mono (by decide)
    refine ⟨_, pss_cons (ps_set (i := 4) scL.nd rfl (.inl rfl) (pe_call GD hr (by rfl) gD kD bD .nil pass0 (pa_cons (pv 0) (pa_cons (pe_lst (pa_cons (pv 1) (pa_cons (pv 2) pa_nil))) (pa_cons (pv 3) pa_nil)))))
      (pss_cons (ps_if (pt_cmpR op_ne (pv 4) pe_int (nomark _)) (pss_one (ps_ret (pe_lst (pa_cons (pv 4) pa_nil)))) pss_nil)
      (pss_one (ps_ret (pe_lst (pa_cons (pe_ix ix_list (pe_call GA hr2 (by rfl) gA kA bA .nil pass0 (pa_cons (pv 3) (pa_cons (pe_op op_or (pv 1) (pv 2)) pa_nil))) pe_int (fun _ _ => rfl)) pa_nil))))), ?_⟩
    refine ⟨vN n, rfl, vN x, rfl, vN y, rfl, by show 2 ≤ sizeLine; decide, fun b hb => ?_⟩
    refine ⟨.ref a, rfl, n, b, a, [x, y], ts, rfl, SqL.of upd_same, (same_upd hb).seq hS, hlen, fun H1 s1 => ?_⟩
    have s01 : Same H H1 := (same_upd hb).trans s1
    refine ⟨.int (refusal n [x, y] ts), rfl, rfl, _, rfl, ?_⟩
    by_cases c : refusal n [x, y] ts = 0
    · have d : decide (V.int (refusal n [x, y] ts) = V.int 0) = true := decide_eq_true (by rw [c])
      rw [d]
      refine iteF ?_
      obtain ⟨ok, hb, rs, at'⟩ := refusal_zero c
      obtain ⟨L, C⟩ := climb_or rs (hb x (by simp)) (hb y (by simp)) (at' x (by simp)) (at' y (by simp))
      refine ⟨.ref a, rfl, vN x, rfl, vN y, rfl, (x : Int), (y : Int), rfl, rfl, a, n, ts, x ||| y, L, ?_, s01.seq hS, hlen, (okTowers_iff.mp ok).2.2.1, C, fun H2 p _ hp => ?_⟩
      · show [V.ref a, V.int (Builtin.bitOr (x : Int) (y : Int))] = _
        rw [or_nat]
        rfl
      refine ⟨p, _, 0, _, rfl, rfl, SqL.of hp, atI_nat (j := 0) rfl, by show 1 ≤ sizeLine; decide, fun p2 hp2 => q _ p2 ?_⟩
      unfold dueJoin
      rw [due_join_of c C]
      exact upd_same
    · have d : decide (V.int (refusal n [x, y] ts) = V.int 0) = false := decide_eq_false fun z => c (V.int.inj z)
      rw [d]
      refine iteT ⟨_, rfl, by show 1 ≤ sizeLine; decide, fun p hp => q _ p ?_⟩
      unfold dueJoin
      rw [due_join, if_neg c]
      exact upd_same
end
/-! ### the end: what the top has written -/
theorem all_mk {P : Program} {w : World} {K : PySem.W.Frag} {h : Heap} {mg : Str → Option Value} {fa f1 f2 f3 f4 f5 f6 f7 : Addr} (X : K.In h) (G : h.Ns mainGlobals mg) (hfa : mg "join" = some (.ref fa))
    {od1 an1 od2 an2 od3 an3 od4 an4 od5 an5 od6 an6 od7 an7 : Option Addr} {sl1 sl2 sl3 sl4 sl5 sl6 sl7 : Array (Option Value)} {oc1 kV1 dc1 pm1 cd1 ct1 oc2 kV2 dc2 pm2 cd2 ct2 oc3 kV3 dc3 pm3 cd3 ct3 oc4 kV4 dc4 pm4 cd4 ct4 oc5 kV5 dc5 pm5 cd5 ct5 oc6 kV6 dc6 pm6 cd6 ct6 oc7 kV7 dc7 pm7 cd7 ct7 : Value} {t_MOST_TOWERS t_WRONG_INPUT t_NOT_RISING t_NOT_AT_REST : Tok}
    (a1 : PySem.W.nsIn K mainGlobals "input_fits" = some (some (.ref f1))) (l1 : K.lookup f1 = some ⟨oc1, od1, .func (PySem.W.fnOf "input_fits" "input_fits" (defArgs sFits) (defBody sFits) (defScope sFits) .none kV1 dc1 pm1 an1 cd1 ct1), sl1⟩) (c1 : PySem.W.codeIn K cd1 "input_fits" = true) (k1 : PySem.W.keepIn K (.ref f1) = true)
    (a2 : PySem.W.nsIn K mainGlobals "state_after" = some (some (.ref f2))) (l2 : K.lookup f2 = some ⟨oc2, od2, .func (PySem.W.fnOf "state_after" "state_after" (defArgs sSA) (defBody sSA) (defScope sSA) .none kV2 dc2 pm2 an2 cd2 ct2), sl2⟩) (c2 : PySem.W.codeIn K cd2 "state_after" = true) (k2 : PySem.W.keepIn K (.ref f2) = true)
    (a3 : PySem.W.nsIn K mainGlobals "is_under" = some (some (.ref f3))) (l3 : K.lookup f3 = some ⟨oc3, od3, .func (PySem.W.fnOf "is_under" "is_under" (defArgs sUnd) (defBody sUnd) (defScope sUnd) .none kV3 dc3 pm3 an3 cd3 ct3), sl3⟩) (c3 : PySem.W.codeIn K cd3 "is_under" = true) (k3 : PySem.W.keepIn K (.ref f3) = true)
    (a4 : PySem.W.nsIn K mainGlobals "rules_rise" = some (some (.ref f4))) (l4 : K.lookup f4 = some ⟨oc4, od4, .func (PySem.W.fnOf "rules_rise" "rules_rise" (defArgs sRR) (defBody sRR) (defScope sRR) .none kV4 dc4 pm4 an4 cd4 ct4), sl4⟩) (c4 : PySem.W.codeIn K cd4 "rules_rise" = true) (k4 : PySem.W.keepIn K (.ref f4) = true)
    (a5 : PySem.W.nsIn K mainGlobals "refusal_due" = some (some (.ref f5))) (l5 : K.lookup f5 = some ⟨oc5, od5, .func (PySem.W.fnOf "refusal_due" "refusal_due" (defArgs sRD) (defBody sRD) (defScope sRD) .none kV5 dc5 pm5 an5 cd5 ct5), sl5⟩) (c5 : PySem.W.codeIn K cd5 "refusal_due" = true) (k5 : PySem.W.keepIn K (.ref f5) = true)
    (a6 : PySem.W.nsIn K mainGlobals "rest_after" = some (some (.ref f6))) (l6 : K.lookup f6 = some ⟨oc6, od6, .func (PySem.W.fnOf "rest_after" "rest_after" (defArgs sRA) (defBody sRA) (defScope sRA) .none kV6 dc6 pm6 an6 cd6 ct6), sl6⟩) (c6 : PySem.W.codeIn K cd6 "rest_after" = true) (k6 : PySem.W.keepIn K (.ref f6) = true)
    (a7 : PySem.W.nsIn K mainGlobals "join" = some (some (.ref f7))) (l7 : K.lookup f7 = some ⟨oc7, od7, .func (PySem.W.fnOf "join" "join" (defArgs sTop) (defBody sTop) (defScope sTop) .none kV7 dc7 pm7 an7 cd7 ct7), sl7⟩) (c7 : PySem.W.codeIn K cd7 "join" = true) (k7 : PySem.W.keepIn K (.ref f7) = true)
    (g_MOST_TOWERS : PySem.W.nsIn K mainGlobals "MOST_TOWERS" = some (some (.int 4 t_MOST_TOWERS)))
    (g_WRONG_INPUT : PySem.W.nsIn K mainGlobals "WRONG_INPUT" = some (some (.int (-22) t_WRONG_INPUT)))
    (g_NOT_RISING : PySem.W.nsIn K mainGlobals "NOT_RISING" = some (some (.int (-16) t_NOT_RISING)))
    (g_NOT_AT_REST : PySem.W.nsIn K mainGlobals "NOT_AT_REST" = some (some (.int (-33) t_NOT_AT_REST)))
    (z_len : PySem.W.nsIn K mainGlobals "len" = some none)
    (z_enumerate : PySem.W.nsIn K mainGlobals "enumerate" = some none)
    (z_range : PySem.W.nsIn K mainGlobals "range" = some none) :
    ∃ fd : FuncData, (∀ (s : Shared) (us : List Value), us.length = (["n", "x", "y", "t"] : List Str).length → BindsTo s fd ⟨us, []⟩ ((["n", "x", "y", "t"] : List Str).zip us)) ∧ ∀ base : Heap, K.In base → base.Ns mainGlobals mg → FnOk P w K mg base CX0 4 fa fd ["n", "x", "y", "t"] (spTop4 dueJoin K) := by
  have e := hfa.symm.trans (PySem.W.mg_of X G a7)
  cases e
  have F1 := fun_mk (st := sFits) l1 c1 k1
  have b1 := F1.binds (ps := ["n", "t"]) fun _ _ _ _ _ _ us hl => match us, hl with | [_, _], _ => rfl
  have m1 := PySem.W.mg_of X G a1
  have F2 := fun_mk (st := sSA) l2 c2 k2
  have b2 := F2.binds (ps := ["t", "state"]) fun _ _ _ _ _ _ us hl => match us, hl with | [_, _], _ => rfl
  have m2 := PySem.W.mg_of X G a2
  have F3 := fun_mk (st := sUnd) l3 c3 k3
  have b3 := F3.binds (ps := ["low", "high"]) fun _ _ _ _ _ _ us hl => match us, hl with | [_, _], _ => rfl
  have m3 := PySem.W.mg_of X G a3
  have F4 := fun_mk (st := sRR) l4 c4 k4
  have b4 := F4.binds (ps := ["n", "t"]) fun _ _ _ _ _ _ us hl => match us, hl with | [_, _], _ => rfl
  have m4 := PySem.W.mg_of X G a4
  have F5 := fun_mk (st := sRD) l5 c5 k5
  have b5 := F5.binds (ps := ["n", "states", "t"]) fun _ _ _ _ _ _ us hl => match us, hl with | [_, _, _], _ => rfl
  have m5 := PySem.W.mg_of X G a5
  have F6 := fun_mk (st := sRA) l6 c6 k6
  have b6 := F6.binds (ps := ["t", "state"]) fun _ _ _ _ _ _ us hl => match us, hl with | [_, _], _ => rfl
  have m6 := PySem.W.mg_of X G a6
  have F7 := fun_mk (st := sTop) l7 c7 k7
  have m_MOST_TOWERS := PySem.W.mg_of X G g_MOST_TOWERS
  have m_WRONG_INPUT := PySem.W.mg_of X G g_WRONG_INPUT
  have m_NOT_RISING := PySem.W.mg_of X G g_NOT_RISING
  have m_NOT_AT_REST := PySem.W.mg_of X G g_NOT_AT_REST
  have m_len := PySem.W.mg_none_of X G z_len
  have m_enumerate := PySem.W.mg_none_of X G z_enumerate
  have m_range := PySem.W.mg_none_of X G z_range
  exact ⟨PySem.W.fnOf "join" "join" (defArgs sTop) (defBody sTop) (defScope sTop) .none kV7 dc7 pm7 an7 cd7 ct7, fun s us hu => match us, hu with | [_, _, _, _], _ => .of_eq rfl, fun base _ _ => ok_top F7 (ok_rd F5 (ok_fits F1 m_len m_MOST_TOWERS) k1 b1 m1 (ok_rr F4 F2 b2 m2 F3 b3 m3 m_enumerate m_range) k4 b4 m4 (ok_sa F2 m_enumerate) k2 b2 m2 m_WRONG_INPUT m_NOT_RISING m_NOT_AT_REST) k5 b5 m5 (ok_ra F6 (ok_sa F2 m_enumerate) k2 b2 m2 m_len m_range) k6 b6 m6⟩
/-- a list of ints from 0 is the image of numbers -/
theorem ups_of : ∀ (l : List Int), (∀ x ∈ l, 0 ≤ x) → ∃ ts : List Nat, l = ups ts
  | [], _ => ⟨[], rfl⟩
  | x :: r, h => by
    obtain ⟨ts, e⟩ := ups_of r fun y hy => h y (List.mem_cons_of_mem _ hy)
    obtain ⟨k, hk⟩ := Int.eq_ofNat_of_zero_le (h x List.mem_cons_self)
    exact ⟨k :: ts, by rw [hk, e]; rfl⟩
end RR
open PySem PySem.W PyProof.Rows
set_option maxRecDepth 100000 in
set_option maxHeartbeats 8000000 in
theorem PySem.Challenge.cw_risingrules_s04_join_holds : PySem.Challenge.rw_risingrules_s04_join.Holds := by
  w_on; k_headS; (case hw => exact ⟨[.int 0, .int 0, .int 0, .list []], by decide +kernel, by decide +kernel⟩)
  k_fillS
  refine L2.walk_specK (r := PySem.Challenge.rw_risingrules_s04_join) (k := 4) (CX := L2.CX0) (ps := ["n", "x", "y", "t"]) (sp := RR.spTop4 RR.dueJoin) (by decide +kernel) rfl rfl ⟨rfl, by decide, by decide⟩ (fun w h Y => PySem.W.kIn_of Y) ?F ?S (fun _ _ _ _ z => z)
  case F =>
    intro w mg fa h Y KX G hmg
    refine' RR.all_mk KX G hmg ?a1 ?l1 ?c1 ?k1 ?a2 ?l2 ?c2 ?k2 ?a3 ?l3 ?c3 ?k3 ?a4 ?l4 ?c4 ?k4 ?a5 ?l5 ?c5 ?k5 ?a6 ?l6 ?c6 ?k6 ?a7 ?l7 ?c7 ?k7 ?g_MOST_TOWERS ?g_WRONG_INPUT ?g_NOT_RISING ?g_NOT_AT_REST ?z_len ?z_enumerate ?z_range
    (case a1 => k_is); (case l1 => k_is); (case c1 => k_is); (case k1 => k_is)
    (case a2 => k_is); (case l2 => k_is); (case c2 => k_is); (case k2 => k_is)
    (case a3 => k_is); (case l3 => k_is); (case c3 => k_is); (case k3 => k_is)
    (case a4 => k_is); (case l4 => k_is); (case c4 => k_is); (case k4 => k_is)
    (case a5 => k_is); (case l5 => k_is); (case c5 => k_is); (case k5 => k_is)
    (case a6 => k_is); (case l6 => k_is); (case c6 => k_is); (case k6 => k_is)
    (case a7 => k_is); (case l7 => k_is); (case c7 => k_is); (case k7 => k_is)
    (case g_MOST_TOWERS => k_is); (case g_WRONG_INPUT => k_is); (case g_NOT_RISING => k_is); (case g_NOT_AT_REST => k_is)
    (case z_len => k_is); (case z_enumerate => k_is); (case z_range => k_is)
  case S =>
    intro K H xs a hO hwi hask hx
    obtain ⟨n0, x0, y0, t0, u0⟩ := a
    have q : (Codec.inInt 0 4294967295 n0 && (Codec.inInt 0 4294967295 x0 && (Codec.inInt 0 4294967295 y0 && ((Codec.inLen 0 10 t0 && t0.all (Codec.inInt 0 65535)) && true)))) = true := hwi
    cases hx with
    | cons h1 h2 =>
      cases h1
      cases h2 with
      | cons h1 h2 =>
        cases h1
        cases h2 with
        | cons h1 h2 =>
          cases h1
          cases h2 with
          | cons h2 h3 =>
            cases h3
            cases h2 with
            | lst hs ha =>
              have e := L2.ints_dw t0 _ ha
              subst e
              simp only [Bool.and_eq_true, List.all_eq_true] at q
              obtain ⟨q1, qx, qy, ⟨q2, q3⟩, _⟩ := q
              obtain ⟨n, rfl⟩ := Int.eq_ofNat_of_zero_le (Codec.inInt_iff.mp q1).1
              obtain ⟨x, rfl⟩ := Int.eq_ofNat_of_zero_le (Codec.inInt_iff.mp qx).1
              obtain ⟨y, rfl⟩ := Int.eq_ofNat_of_zero_le (Codec.inInt_iff.mp qy).1
              obtain ⟨ts, rfl⟩ := RR.ups_of t0 fun x hx => (Codec.inInt_iff.mp (q3 x hx)).1
              rw [RR.vNs_ups] at hs
              have hl : ts.length ≤ 10 := by
                have z := (Codec.inNat_iff.mp q2).2
                rw [show (RR.ups ts).length = ts.length from List.length_map ..] at z
                exact z
              exact ⟨n, x, y, _, ts, rfl, hs, hl, fun H' p hp => .lst (L2.SqL.of hp) (L2.dw_ints _)⟩
#print axioms PySem.Challenge.cw_risingrules_s04_join_holds
