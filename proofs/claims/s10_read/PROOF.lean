import PyProof.Rows.All
import Wide.All
import OpenK.AllK
import Wide.FinOn
import PyProof.EqAt
import PyProof.EqKinds
import PyProof.TupleCall
import KE.BitLaws
import KE.OsGo
import PySem.Challenge.RW_eightcalendars_s10_read
set_option Elab.async false
set_option linter.all false

section
namespace Cal
open Kg24

theorem fd_eq (a : Int) {b : Int} (h : 0 ≤ b) : fd a b = a / b := Int.fdiv_eq_ediv_of_nonneg a h
theorem fm_eq (a : Int) {b : Int} (h : 0 ≤ b) : fm a b = a % b := Int.fmod_eq_emod_of_nonneg a h

/-- Days ahead of what is put right, of so many months. -/
theorem el_shape (y : Int) : ∃ M q p D r s : Int, 19 * M + s = 235 * y - 234 ∧ 0 ≤ s ∧ s < 19 ∧
    12084 + 13753 * M = 25920 * q + p ∧ 0 ≤ p ∧ p < 25920 ∧ D = 29 * M + q ∧ r = (3 * (D + 1)) % 7 ∧
    (elapsed y = D ∧ 3 ≤ r ∨ elapsed y = D + 1 ∧ r < 3) := by
  refine ⟨(235 * y - 234) / 19, (12084 + 13753 * ((235 * y - 234) / 19)) / 25920, (12084 + 13753 * ((235 * y - 234) / 19)) % 25920, _, _, (235 * y - 234) % 19, ?_, ?_, ?_, ?_, ?_, ?_, rfl, rfl, ?_⟩
  · omega
  · omega
  · omega
  · omega
  · omega
  · omega
  · unfold elapsed
    simp only [fd_eq _ (show (0 : Int) ≤ 19 by decide), fd_eq _ (show (0 : Int) ≤ 25920 by decide), fm_eq _ (show (0 : Int) ≤ 7 by decide)]
    split
    · right; exact ⟨rfl, by assumption⟩
    · left; exact ⟨rfl, by omega⟩

theorem el_step (y : Int) : (353 ≤ elapsed (y + 1) - elapsed y ∧ elapsed (y + 1) - elapsed y ≤ 356) ∨ (382 ≤ elapsed (y + 1) - elapsed y ∧ elapsed (y + 1) - elapsed y ≤ 385) := by
  obtain ⟨M, q, p, D, r, s, h1, h2, h3, h4, h5, h6, h7, h8, h9⟩ := el_shape y
  obtain ⟨M', q', p', D', r', s', g1, g2, g3, g4, g5, g6, g7, g8, g9⟩ := el_shape (y + 1)
  have : M' = M + 12 ∨ M' = M + 13 := by omega
  rcases this with e | e <;> subst e
  · have : D' = D + 354 ∨ D' = D + 355 := by omega
    omega
  · have : D' = D + 383 ∨ D' = D + 384 := by omega
    omega

/-- What is put right of a Hebrew year. -/
theorem hebrew_shape (y : Int) : ∃ c : Int, newYear 2 y = -1373427 + elapsed y + c ∧
    (c = 2 ∧ elapsed (y + 1) - elapsed y = 356 ∨ c = 1 ∧ elapsed (y + 1) - elapsed y ≠ 356 ∧ elapsed y - elapsed (y - 1) = 382 ∨ c = 0 ∧ elapsed (y + 1) - elapsed y ≠ 356 ∧ elapsed y - elapsed (y - 1) ≠ 382) := by
  refine ⟨_, rfl, ?_⟩
  split
  · left; exact ⟨rfl, by assumption⟩
  · right
    split
    · left; exact ⟨rfl, by assumption, by assumption⟩
    · right; exact ⟨rfl, by assumption, by assumption⟩

theorem gregorian_eq (y : Int) : gregorian y = 365 * (y - 1) + (y - 1) / 4 - (y - 1) / 100 + (y - 1) / 400 + 1 := by
  unfold gregorian
  simp only [fd_eq _ (show (0 : Int) ≤ 4 by decide), fd_eq _ (show (0 : Int) ≤ 100 by decide), fd_eq _ (show (0 : Int) ≤ 400 by decide)]

theorem new0 (y : Int) : newYear 0 y = 365 * (y - 1) + (y - 1) / 4 - (y - 1) / 100 + (y - 1) / 400 + 1 := gregorian_eq y
theorem new1 (y : Int) : newYear 1 y = 365 * (y - 1) + (y - 1) / 4 - 1 := by
  show 365 * (y - 1) + fd (y - 1) 4 - 1 = _
  rw [fd_eq _ (by decide)]
theorem new3 (y : Int) : newYear 3 y = 227015 + 354 * (y - 1) + (3 + 11 * y) / 30 := by
  show 227015 + 354 * (y - 1) + fd (3 + 11 * y) 30 = _
  rw [fd_eq _ (by decide)]
theorem new4 (y : Int) : newYear 4 y = 103605 + 365 * (y - 1) + y / 4 := by
  show 103605 + 365 * (y - 1) + fd y 4 = _
  rw [fd_eq _ (by decide)]
theorem new5 (y : Int) : newYear 5 y = 2796 + 365 * (y - 1) + y / 4 := by
  show 2796 + 365 * (y - 1) + fd y 4 = _
  rw [fd_eq _ (by decide)]
theorem new6 (y : Int) : newYear 6 y = 226896 + 1029983 * ((y - 474) / 2820) + 365 * ((y - 474) % 2820 + 474 - 1) + (31 * ((y - 474) % 2820 + 474) - 5) / 128 := by
  show 226896 + 1029983 * fd (y - 474) 2820 + 365 * (fm (y - 474) 2820 + 474 - 1) + fd (31 * (fm (y - 474) 2820 + 474) - 5) 128 = _
  rw [fd_eq _ (by decide), fd_eq _ (by decide), fm_eq _ (by decide)]
theorem new7 (k : Nat) (y : Int) : newYear (k + 7) y = (newYear 0 y + 3) - (newYear 0 y + 2) % 7 := by
  show gregorian y + 3 - fm (gregorian y + 3 - 1) 7 = (gregorian y + 3) - (gregorian y + 2) % 7
  rw [fm_eq _ (by decide)]
  omega

/-- Years are years: from kind to kind. -/
theorem len0 (y : Int) : length 0 y = 365 ∨ length 0 y = 366 := by
  unfold length
  rw [new0, new0]
  omega
theorem len1 (y : Int) : length 1 y = 365 ∨ length 1 y = 366 := by
  unfold length
  rw [new1, new1]
  omega
theorem len2 (y : Int) : 351 ≤ length 2 y ∧ length 2 y ≤ 387 := by
  unfold length
  obtain ⟨c, h1, h2⟩ := hebrew_shape y
  obtain ⟨c', h3, h4⟩ := hebrew_shape (y + 1)
  have := el_step y
  omega
theorem len3 (y : Int) : length 3 y = 354 ∨ length 3 y = 355 := by
  unfold length
  rw [new3, new3]
  omega
theorem len4 (y : Int) : length 4 y = 365 ∨ length 4 y = 366 := by
  unfold length
  rw [new4, new4]
  omega
theorem len5 (y : Int) : length 5 y = 365 ∨ length 5 y = 366 := by
  unfold length
  rw [new5, new5]
  omega
theorem len6 (y : Int) : length 6 y = 365 ∨ length 6 y = 366 := by
  unfold length
  rw [new6, new6]
  omega
theorem len7 (k : Nat) (y : Int) : length (k + 7) y = 364 ∨ length (k + 7) y = 371 := by
  have h := len0 y
  unfold length at h ⊢
  rw [new7, new7]
  omega

theorem len_all (k : Nat) (y : Int) : 351 ≤ length k y ∧ length k y ≤ 387 := by
  match k with
  | 0 => have := len0 y; omega
  | 1 => have := len1 y; omega
  | 2 => exact len2 y
  | 3 => have := len3 y; omega
  | 4 => have := len4 y; omega
  | 5 => have := len5 y; omega
  | 6 => have := len6 y; omega
  | k + 7 => have := len7 k y; omega

/-- Where a year begins lies near the mean, on both sides. -/
theorem near00 (y : Int) : 146097 * y - 2000 ≤ 400 * (newYear 0 y - newYear 0 0) ∧ 400 * (newYear 0 y - newYear 0 0) ≤ 146097 * y + 2000 := by
  have e : newYear 0 0 = -365 := by decide
  rw [e, new0]
  omega
theorem near0 (y : Int) : 146097 * y - 146097 ≤ 400 * (newYear 0 y - newYear 0 0) ∧ 400 * (newYear 0 y - newYear 0 0) ≤ 146097 * y + 146097 := by
  have := near00 y
  omega
theorem near1 (y : Int) : 1461 * y - 1461 ≤ 4 * (newYear 1 y - newYear 1 0) ∧ 4 * (newYear 1 y - newYear 1 0) ≤ 1461 * y + 1461 := by
  have e : newYear 1 0 = -367 := by decide
  rw [e, new1]
  omega
theorem near2 (y : Int) : 35975351 * y - 35975351 ≤ 98496 * (newYear 2 y - newYear 2 0) ∧ 98496 * (newYear 2 y - newYear 2 0) ≤ 35975351 * y + 35975351 := by
  have e : newYear 2 0 = -1373811 := by decide
  obtain ⟨c, h1, h2⟩ := hebrew_shape y
  obtain ⟨M, q, p, D, r, s, g1, g2, g3, g4, g5, g6, g7, g8, g9⟩ := el_shape y
  rw [e]
  omega
theorem near3 (y : Int) : 10631 * y - 10631 ≤ 30 * (newYear 3 y - newYear 3 0) ∧ 30 * (newYear 3 y - newYear 3 0) ≤ 10631 * y + 10631 := by
  have e : newYear 3 0 = 226661 := by decide
  rw [e, new3]
  omega
theorem near4 (y : Int) : 1461 * y - 1461 ≤ 4 * (newYear 4 y - newYear 4 0) ∧ 4 * (newYear 4 y - newYear 4 0) ≤ 1461 * y + 1461 := by
  have e : newYear 4 0 = 103240 := by decide
  rw [e, new4]
  omega
theorem near5 (y : Int) : 1461 * y - 1461 ≤ 4 * (newYear 5 y - newYear 5 0) ∧ 4 * (newYear 5 y - newYear 5 0) ≤ 1461 * y + 1461 := by
  have e : newYear 5 0 = 2431 := by decide
  rw [e, new5]
  omega
theorem near6 (y : Int) : 1029983 * y - 1029983 ≤ 2820 * (newYear 6 y - newYear 6 0) ∧ 2820 * (newYear 6 y - newYear 6 0) ≤ 1029983 * y + 1029983 := by
  have e : newYear 6 0 = 226530 := by decide
  rw [e, new6]
  omega
theorem near7 (k : Nat) (y : Int) : 146097 * y - 146097 ≤ 400 * (newYear (k + 7) y - newYear (k + 7) 0) ∧ 400 * (newYear (k + 7) y - newYear (k + 7) 0) ≤ 146097 * y + 146097 := by
  have e : newYear 0 0 = -365 := by decide
  have h := near00 y
  rw [new7, new7]
  rw [e] at h ⊢
  omega

theorem near (k : Nat) (y : Int) : (mean k).1 * y - (mean k).1 ≤ (mean k).2 * (newYear k y - newYear k 0) ∧ (mean k).2 * (newYear k y - newYear k 0) ≤ (mean k).1 * y + (mean k).1 := by
  match k with
  | 0 => exact near0 y
  | 1 => exact near1 y
  | 2 => exact near2 y
  | 3 => exact near3 y
  | 4 => exact near4 y
  | 5 => exact near5 y
  | 6 => exact near6 y
  | k + 7 => exact near7 k y

theorem mean_pos (k : Nat) : 0 < (mean k).1 ∧ 0 < (mean k).2 := by
  match k with
  | 0 => decide
  | 1 => decide
  | 2 => decide
  | 3 => decide
  | 4 => decide
  | 5 => decide
  | 6 => decide
  | k + 7 => exact (by decide : (0 : Int) < 146097 ∧ (0 : Int) < 400)

/-- The guess at a day's year. -/
def guess (k : Nat) (d : Int) : Int := fd ((d - newYear k 0) * (mean k).2) (mean k).1

theorem guess_near (k : Nat) (d : Int) : newYear k (guess k d - 2) ≤ d ∧ d < newYear k (guess k d + 3) := by
  obtain ⟨ha, hb⟩ := mean_pos k
  have n1 := (near k (guess k d - 2)).2
  have n2 := (near k (guess k d + 3)).1
  have e : guess k d = ((d - newYear k 0) * (mean k).2) / (mean k).1 := fd_eq _ (Int.le_of_lt ha)
  have l1 : (mean k).1 * guess k d ≤ (d - newYear k 0) * (mean k).2 := by
    rw [e]; exact Int.mul_ediv_self_le (by omega)
  have l2 : (d - newYear k 0) * (mean k).2 < (mean k).1 * guess k d + (mean k).1 := by
    rw [e]; exact Int.lt_mul_ediv_self_add ha
  generalize guess k d = g at *
  generalize (mean k).1 = a at *
  generalize (mean k).2 = b at *
  have x1 : a * (g - 2) = a * g - 2 * a := by rw [Int.mul_sub]; omega
  have x2 : a * (g + 3) = a * g + 3 * a := by rw [Int.mul_add]; omega
  rw [x1] at n1
  rw [x2] at n2
  rw [Int.mul_comm (d - _) b] at l1 l2
  have y1 : b * (newYear k (g - 2) - newYear k 0) ≤ b * (d - newYear k 0) := by
    omega
  have y2 : b * (d - newYear k 0) < b * (newYear k (g + 3) - newYear k 0) := by
    omega
  have z1 := Int.le_of_mul_le_mul_left y1 hb
  have z2 := Int.lt_of_mul_lt_mul_left y2 (Int.le_of_lt hb)
  omega

theorem new_step (k : Nat) (y : Int) : newYear k y < newYear k (y + 1) := by
  have := len_all k y
  unfold length at this
  omega

theorem new_add (k : Nat) (y : Int) (n : Nat) : newYear k y + n ≤ newYear k (y + n) := by
  induction n with
  | zero => simp
  | succ n ih =>
    have := new_step k (y + n)
    have e : y + ((n + 1 : Nat) : Int) = y + n + 1 := by omega
    rw [e]
    omega

theorem new_mono (k : Nat) {y z : Int} (h : y ≤ z) : newYear k y ≤ newYear k z := by
  have := new_add k y (z - y).toNat
  have e : y + ((z - y).toNat : Int) = z := by omega
  rw [e] at this
  omega

theorem new_lt (k : Nat) {y z : Int} (h : y < z) : newYear k y < newYear k z := by
  have := new_add k y (z - y).toNat
  have e : y + ((z - y).toNat : Int) = z := by omega
  rw [e] at this
  omega

/-- The year of a day, by what it is. -/
structure YearIs (k : Nat) (d y : Int) : Prop where
  lo : newYear k y ≤ d
  hi : d < newYear k (y + 1)

theorem YearIs.unique {k : Nat} {d y z : Int} (h : YearIs k d y) (g : YearIs k d z) : y = z := by
  rcases Int.lt_trichotomy y z with l | l | l
  · have := new_mono k (show y + 1 ≤ z by omega)
    have := h.hi
    have := g.lo
    omega
  · exact l
  · have := new_mono k (show z + 1 ≤ y by omega)
    have := g.hi
    have := h.lo
    omega

theorem last_is (k : Nat) (d y : Int) (h0 : newYear k y ≤ d) : ∀ n : Nat, (∃ j : Nat, j ≤ n ∧ d < newYear k (y + j + 1)) →
    YearIs k d ((List.range (n + 1)).foldl (fun z (i : Nat) => if newYear k (y + (i : Int)) ≤ d then y + (i : Int) else z) y) := by
  have go : ∀ n : Nat, ∃ z, (List.range (n + 1)).foldl (fun z (i : Nat) => if newYear k (y + (i : Int)) ≤ d then y + (i : Int) else z) y = z ∧ newYear k z ≤ d ∧ z ≤ y + n ∧ (z = y + n ∨ d < newYear k (z + 1)) := by
    intro n
    induction n with
    | zero =>
      refine ⟨_, rfl, ?_⟩
      simp [List.range_succ]
      exact h0
    | succ n ih =>
      obtain ⟨z, e, l, zn, o⟩ := ih
      rw [List.range_succ, List.foldl_append, e]
      simp only [List.foldl_cons, List.foldl_nil]
      split
      · exact ⟨_, rfl, by assumption, Int.le_refl _, Or.inl rfl⟩
      · refine ⟨z, rfl, l, by omega, ?_⟩
        right
        rcases o with o | o
        · subst o
          have : y + (n : Int) + 1 = y + ((n + 1 : Nat) : Int) := by omega
          rw [this]
          omega
        · exact o
  intro n ⟨j, jn, hj⟩
  obtain ⟨z, e, l, zn, o⟩ := go n
  rw [e]
  refine ⟨l, ?_⟩
  rcases o with o | o
  · have := new_mono k (show y + (j : Int) + 1 ≤ z + 1 by omega)
    omega
  · exact o

theorem yearOf_is (k : Nat) (d : Int) : YearIs k d (yearOf k d) := by
  have h := guess_near k d
  have e : yearOf k d = (List.range (8 + 1)).foldl (fun z (i : Nat) => if newYear k (guess k d - 4 + (i : Int)) ≤ d then guess k d - 4 + (i : Int) else z) (guess k d - 4) := rfl
  rw [e]
  refine last_is k d (guess k d - 4) ?_ 8 ⟨6, by decide, ?_⟩
  · have := new_mono k (show guess k d - 4 ≤ guess k d - 2 by omega)
    omega
  · have e2 : guess k d - 4 + ((6 : Nat) : Int) + 1 = guess k d + 3 := by omega
    rw [e2]
    exact h.2

theorem yearOf_eq {k : Nat} {d y : Int} (h : YearIs k d y) : yearOf k d = y := (yearOf_is k d).unique h

end Cal

end

section
namespace Cal
open Kg24 Kg24Neutral

theorem i32_of {x : Int} (h : -2147483648 ≤ x) (g : x ≤ 2147483647) : i32 (unsigned 32 x) = x := by
  unfold i32 unsigned
  have e : ((2 ^ 32 : Nat) : Int) = 4294967296 := by decide
  have e2 : (2 : Int) ^ 32 = 4294967296 := by decide
  have e1 : (2 ^ 31 : Nat) = 2147483648 := by decide
  rw [e, e1, e2]
  split <;> omega
theorem i64_of {x : Int} (h : -9223372036854775808 ≤ x) (g : x ≤ 9223372036854775807) : i64 (unsigned 64 x) = x := by
  unfold i64 unsigned
  have e : ((2 ^ 64 : Nat) : Int) = 18446744073709551616 := by decide
  have e2 : (2 : Int) ^ 64 = 18446744073709551616 := by decide
  have e1 : (2 ^ 63 : Nat) = 9223372036854775808 := by decide
  rw [e, e1, e2]
  split <;> omega

/-- A number of 32 bits, of 64. -/
def W32 (x : Int) : Prop := -2147483648 ≤ x ∧ x ≤ 2147483647
def W64 (x : Int) : Prop := -9223372036854775808 ≤ x ∧ x ≤ 9223372036854775807

def told (a : Ans) : List Int := a.value :: a.out

theorem day_told {k y m d : Int} (h1 : W32 k) (h2 : W32 y) (h3 : W32 m) (h4 : W32 d) : PyKg24.day k y m d = told (does (.day k ⟨y, m, d⟩)) := by
  have e : PyKg24.day k y m d = told (does (.day (i32 (unsigned 32 k)) ⟨i32 (unsigned 32 y), i32 (unsigned 32 m), i32 (unsigned 32 d)⟩)) := rfl
  rw [e, i32_of h1.1 h1.2, i32_of h2.1 h2.2, i32_of h3.1 h3.2, i32_of h4.1 h4.2]
theorem date_told {k d : Int} (h1 : W32 k) (h2 : W64 d) : PyKg24.date k d = told (does (.date k d)) := by
  have e : PyKg24.date k d = told (does (.date (i32 (unsigned 32 k)) (i64 (unsigned 64 d)))) := rfl
  rw [e, i32_of h1.1 h1.2, i64_of h2.1 h2.2]
theorem convert_told {k y m d to : Int} (h1 : W32 k) (h2 : W32 y) (h3 : W32 m) (h4 : W32 d) (h5 : W32 to) : PyKg24.convert k y m d to = told (does (.convert k ⟨y, m, d⟩ to)) := by
  have e : PyKg24.convert k y m d to = told (does (.convert (i32 (unsigned 32 k)) ⟨i32 (unsigned 32 y), i32 (unsigned 32 m), i32 (unsigned 32 d)⟩ (i32 (unsigned 32 to)))) := rfl
  rw [e, i32_of h1.1 h1.2, i32_of h2.1 h2.2, i32_of h3.1 h3.2, i32_of h4.1 h4.2, i32_of h5.1 h5.2]
theorem weekday_told {d : Int} (h : W64 d) : PyKg24.weekday d = told (does (.weekday d)) := by
  have e : PyKg24.weekday d = told (does (.weekday (i64 (unsigned 64 d)))) := rfl
  rw [e, i64_of h.1 h.2]
theorem easter_told {w y : Int} (h1 : W32 w) (h2 : W32 y) : PyKg24.easter w y = told (does (.easter w y)) := by
  have e : PyKg24.easter w y = told (does (.easter (i32 (unsigned 32 w)) (i32 (unsigned 32 y)))) := rfl
  rw [e, i32_of h1.1 h1.2, i32_of h2.1 h2.2]
theorem add_told {k y m d n : Int} (h1 : W32 k) (h2 : W32 y) (h3 : W32 m) (h4 : W32 d) (h5 : W32 n) : PyKg24.add k y m d n = told (does (.add k ⟨y, m, d⟩ n)) := by
  have e : PyKg24.add k y m d n = told (does (.add (i32 (unsigned 32 k)) ⟨i32 (unsigned 32 y), i32 (unsigned 32 m), i32 (unsigned 32 d)⟩ (i32 (unsigned 32 n)))) := rfl
  rw [e, i32_of h1.1 h1.2, i32_of h2.1 h2.2, i32_of h3.1 h3.2, i32_of h4.1 h4.2, i32_of h5.1 h5.2]
theorem between_told {k a b : Int} (h1 : W32 k) (h2 : W64 a) (h3 : W64 b) : PyKg24.between k a b = told (does (.between k a b)) := by
  have e : PyKg24.between k a b = told (does (.between (i32 (unsigned 32 k)) (i64 (unsigned 64 a)) (i64 (unsigned 64 b)))) := rfl
  rw [e, i32_of h1.1 h1.2, i64_of h2.1 h2.2, i64_of h3.1 h3.2]
theorem nth_told {k y m d n : Int} (h1 : W32 k) (h2 : W32 y) (h3 : W32 m) (h4 : W32 d) (h5 : W32 n) : PyKg24.nth k y m d n = told (does (.nth k y m d n)) := by
  have e : PyKg24.nth k y m d n = told (does (.nth (i32 (unsigned 32 k)) (i32 (unsigned 32 y)) (i32 (unsigned 32 m)) (i32 (unsigned 32 d)) (i32 (unsigned 32 n)))) := rfl
  rw [e, i32_of h1.1 h1.2, i32_of h2.1 h2.2, i32_of h3.1 h3.2, i32_of h4.1 h4.2, i32_of h5.1 h5.2]
theorem tell_told {s d : Int} (h1 : W32 s) (h2 : W64 d) : PyKg24.tell s d = told (does (.tell s d)) := by
  have e : PyKg24.tell s d = told (does (.tell (i32 (unsigned 32 s)) (i64 (unsigned 64 d)))) := rfl
  rw [e, i32_of h1.1 h1.2, i64_of h2.1 h2.2]
theorem read_told {t : List Int} (h : t.length ≤ 65536) : PyKg24.read t = told (does (.read (some (t.map fun c => UInt8.ofNat c.toNat)))) := by
  have e : PyKg24.read t = told (does (.read (bytes (counted 0 65536 1 (unsigned 32 (t.length : Int) :: (t.map Int.toNat ++ []))).1))) := rfl
  rw [e]
  have hn : i32 (unsigned 32 (t.length : Int)) = (t.length : Int) := i32_of (by omega) (by omega)
  have c : (counted 0 65536 1 (unsigned 32 (t.length : Int) :: (t.map Int.toNat ++ []))).1 = some (t.map Int.toNat) := by
    unfold counted h32
    simp only [List.headD_cons, hn]
    rw [if_pos ⟨by omega, by omega⟩]
    simp
    exact List.take_of_length_le (by simp)
  rw [c]
  simp [bytes, Function.comp_def]
end Cal

end

section
namespace Cal
open Kg24

/-- Days of so many years, a Sunday or Wednesday or Friday not yet put off. -/
def raw (y : Int) : Int := 29 * ((235 * y - 234) / 19) + (12084 + 13753 * ((235 * y - 234) / 19)) / 25920
def off (D : Int) : Int := if D % 7 = 2 ∨ D % 7 = 4 ∨ D % 7 = 6 then 1 else 0
theorem el_raw (y : Int) : elapsed y = raw y + off (raw y) := by
  unfold elapsed
  simp only [fd_eq _ (show (0 : Int) ≤ 19 by decide), fd_eq _ (show (0 : Int) ≤ 25920 by decide), fm_eq _ (show (0 : Int) ≤ 7 by decide)]
  show (if 3 * (raw y + 1) % 7 < 3 then raw y + 1 else raw y) = _
  unfold off
  generalize raw y = D
  have h : D % 7 = 0 ∨ D % 7 = 1 ∨ D % 7 = 2 ∨ D % 7 = 3 ∨ D % 7 = 4 ∨ D % 7 = 5 ∨ D % 7 = 6 := by omega
  have g : 3 * (D + 1) % 7 = 3 * (D % 7 + 1) % 7 := by omega
  rw [g]
  rcases h with h | h | h | h | h | h | h <;> rw [h] <;> simp
theorem raw_step (y : Int) : raw (y + 1) = raw y + 354 ∨ raw (y + 1) = raw y + 355 ∨ raw (y + 1) = raw y + 383 ∨ raw (y + 1) = raw y + 384 := by
  unfold raw
  have h : (235 * (y + 1) - 234) / 19 = (235 * y - 234) / 19 + 12 ∨ (235 * (y + 1) - 234) / 19 = (235 * y - 234) / 19 + 13 := by omega
  generalize (235 * y - 234) / 19 = M at *
  rcases h with h | h <;> rw [h] <;> omega
theorem raw_two (y : Int) : raw (y + 2) - raw y ≠ 710 ∧ raw (y + 2) - raw y < 766 := by
  unfold raw
  have h : (235 * (y + 2) - 234) / 19 = (235 * y - 234) / 19 + 24 ∨ (235 * (y + 2) - 234) / 19 = (235 * y - 234) / 19 + 25 := by omega
  generalize (235 * y - 234) / 19 = M at *
  rcases h with h | h <;> rw [h] <;> omega

theorem hebrew_off (y : Int) : newYear 2 y = -1373427 + elapsed y + (if elapsed (y + 1) - elapsed y = 356 then 2 else if elapsed y - elapsed (y - 1) = 382 then 1 else 0) := rfl

def fix (a b c : Int) : Int := if c - b = 356 then 2 else if b - a = 382 then 1 else 0
def el (D : Int) : Int := D + off D
theorem el_shift (t r : Int) : el (7 * t + r) = 7 * t + el r := by
  unfold el off
  have e : (7 * t + r) % 7 = r % 7 := by omega
  rw [e]
  omega
theorem fix_shift (t a b c : Int) : fix (t + a) (t + b) (t + c) = fix a b c := by
  unfold fix
  have e1 : t + c - (t + b) = c - b := by omega
  have e2 : t + b - (t + a) = b - a := by omega
  rw [e1, e2]

def six (r : Int) (d1 d2 d3 : Int) : Bool :=
  decide (el (r + d1 + d2) + fix (el (r + d1)) (el (r + d1 + d2)) (el (r + d1 + d2 + d3)) - (el (r + d1) + fix (el r) (el (r + d1)) (el (r + d1 + d2))) ∈ ([353, 354, 355, 383, 384, 385] : List Int))
theorem six_all : ∀ r ∈ ([0, 1, 2, 3, 4, 5, 6] : List Int), ∀ d1 ∈ ([354, 355, 383, 384] : List Int), ∀ d2 ∈ ([354, 355, 383, 384] : List Int), ∀ d3 ∈ ([354, 355, 383, 384] : List Int),
    d1 + d2 ≠ 710 → d1 + d2 < 766 → d2 + d3 ≠ 710 → d2 + d3 < 766 → six r d1 d2 d3 = true := by decide +kernel

theorem hebrew_six (y : Int) : length 2 y ∈ ([353, 354, 355, 383, 384, 385] : List Int) := by
  have s1 := raw_step (y - 1)
  have s2 := raw_step y
  have s3 := raw_step (y + 1)
  have t1 := raw_two (y - 1)
  have t2 := raw_two y
  have e1 : y - 1 + 1 = y := by omega
  have e2 : y - 1 + 2 = y + 1 := by omega
  have e3 : y + 1 + 1 = y + 2 := by omega
  rw [e1] at s1
  rw [e2] at t1
  rw [e3] at s3
  have L : length 2 y = (el (raw (y + 1)) + fix (el (raw y)) (el (raw (y + 1))) (el (raw (y + 2)))) - (el (raw y) + fix (el (raw (y - 1))) (el (raw y)) (el (raw (y + 1)))) := by
    unfold length
    rw [hebrew_off, hebrew_off]
    have f1 : y + 1 - 1 = y := by omega
    rw [f1, e3, el_raw, el_raw, el_raw, el_raw]
    unfold fix el
    omega
  rw [L]
  generalize raw (y - 1) = A at *
  generalize raw y = B at *
  generalize raw (y + 1) = C at *
  generalize raw (y + 2) = D at *
  have hr : A % 7 ∈ ([0, 1, 2, 3, 4, 5, 6] : List Int) := by
    have : A % 7 = 0 ∨ A % 7 = 1 ∨ A % 7 = 2 ∨ A % 7 = 3 ∨ A % 7 = 4 ∨ A % 7 = 5 ∨ A % 7 = 6 := by omega
    simpa using this
  have m1 : B - A ∈ ([354, 355, 383, 384] : List Int) := by
    have : B - A = 354 ∨ B - A = 355 ∨ B - A = 383 ∨ B - A = 384 := by omega
    simpa using this
  have m2 : C - B ∈ ([354, 355, 383, 384] : List Int) := by
    have : C - B = 354 ∨ C - B = 355 ∨ C - B = 383 ∨ C - B = 384 := by omega
    simpa using this
  have m3 : D - C ∈ ([354, 355, 383, 384] : List Int) := by
    have : D - C = 354 ∨ D - C = 355 ∨ D - C = 383 ∨ D - C = 384 := by omega
    simpa using this
  have h := six_all _ hr _ m1 _ m2 _ m3 (by omega) (by omega) (by omega) (by omega)
  unfold six at h
  have a1 : A = 7 * (A / 7) + A % 7 := by omega
  have b1 : B = 7 * (A / 7) + (A % 7 + (B - A)) := by omega
  have c1 : C = 7 * (A / 7) + (A % 7 + (B - A) + (C - B)) := by omega
  have d1 : D = 7 * (A / 7) + (A % 7 + (B - A) + (C - B) + (D - C)) := by omega
  have a2 : el A = 7 * (A / 7) + el (A % 7) := (congrArg el a1).trans (el_shift _ _)
  have b2 : el B = 7 * (A / 7) + el (A % 7 + (B - A)) := (congrArg el b1).trans (el_shift _ _)
  have c2 : el C = 7 * (A / 7) + el (A % 7 + (B - A) + (C - B)) := (congrArg el c1).trans (el_shift _ _)
  have d2 : el D = 7 * (A / 7) + el (A % 7 + (B - A) + (C - B) + (D - C)) := (congrArg el d1).trans (el_shift _ _)
  have h := of_decide_eq_true h
  rw [a2, b2, c2, d2, fix_shift, fix_shift]
  have e : ∀ t c f b g : Int, t + c + f - (t + b + g) = c + f - (b + g) := by intros; omega
  rw [e]
  exact h
end Cal

end

section
namespace Cal
open Kg24

theorem sum_rep (n : Nat) (a : Int) : (List.replicate n a).sum = n * a := by
  induction n with
  | zero => simp
  | succ n ih =>
    rw [List.replicate_succ, List.sum_cons, ih]
    have : ((n + 1 : Nat) : Int) * a = n * a + a := by
      rw [Int.natCast_add, Int.add_mul]; simp
    omega

theorem months7 (y : Int) : months 7 y = List.replicate (length 7 y / 7).toNat 7 := by
  show List.replicate (fd (length 7 y) 7).toNat 7 = _
  rw [fd_eq _ (by decide)]

/-- The months of a Hebrew year of a length. -/
def hebMonths (n : Int) : List Int := [30, if fm n 10 = 5 then 30 else 29, if fm n 10 = 3 then 29 else 30, 29, 30] ++ (if 380 < n then [30] else []) ++ [29, 30, 29, 30, 29, 30, 29]

theorem heb_facts : ∀ n ∈ ([353, 354, 355, 383, 384, 385] : List Int), (hebMonths n).sum = n ∧ (∀ x ∈ hebMonths n, 29 ≤ x ∧ x ≤ 30) ∧ ((hebMonths n).length = 12 ∨ (hebMonths n).length = 13) := by decide +kernel

theorem months2 (y : Int) : months 2 y = hebMonths (length 2 y) := rfl

structure Full (k : Nat) (y : Int) : Prop where
  sum : (months k y).sum = length k y
  least : ∀ x ∈ months k y, 5 ≤ x
  most : ∀ x ∈ months k y, x ≤ 31
  few : 12 ≤ (months k y).length
  many : (months k y).length ≤ 53

theorem full0 (k : Nat) (y : Int) (n : Int) (hm : months k y = [31, n - 337, 31, 30, 31, 30, 31, 31, 30, 31, 30, 31]) (hn : length k y = n) (h : n = 365 ∨ n = 366) : Full k y := by
  constructor
  · rw [hm, hn]; simp; omega
  · rw [hm]; intro x hx; simp at hx; omega
  · rw [hm]; intro x hx; simp at hx; omega
  · rw [hm]; simp
  · rw [hm]; simp

theorem full4 (k : Nat) (y : Int) (n : Int) (hm : months k y = List.replicate 12 30 ++ [n - 360]) (hn : length k y = n) (h : n = 365 ∨ n = 366) : Full k y := by
  constructor
  · rw [hm, hn, List.sum_append, sum_rep]; simp; omega
  · rw [hm]; intro x hx; simp [List.replicate] at hx; omega
  · rw [hm]; intro x hx; simp [List.replicate] at hx; omega
  · rw [hm]; simp
  · rw [hm]; simp

theorem full (k : Nat) (hk : k < 8) (y : Int) : Full k y := by
  match k, hk with
  | 0, _ => exact full0 0 y _ rfl rfl (len0 y)
  | 1, _ => exact full0 1 y _ rfl rfl (len1 y)
  | 2, _ =>
    obtain ⟨h1, h2, h3⟩ := heb_facts _ (hebrew_six y)
    exact ⟨h1, fun x hx => by have := h2 x hx; omega, fun x hx => by have := h2 x hx; omega, by rw [months2]; omega, by rw [months2]; omega⟩
  | 3, _ =>
    have hm : months 3 y = [30, 29, 30, 29, 30, 29, 30, 29, 30, 29, 30, length 3 y - 325] := rfl
    have h := len3 y
    constructor
    · rw [hm]; simp; omega
    · rw [hm]; intro x hx; simp at hx; omega
    · rw [hm]; intro x hx; simp at hx; omega
    · rw [hm]; simp
    · rw [hm]; simp
  | 4, _ => exact full4 4 y _ rfl rfl (len4 y)
  | 5, _ => exact full4 5 y _ rfl rfl (len5 y)
  | 6, _ =>
    have hm : months 6 y = List.replicate 6 31 ++ List.replicate 5 30 ++ [length 6 y - 336] := rfl
    have h := len6 y
    constructor
    · rw [hm, List.sum_append, List.sum_append, sum_rep, sum_rep]; simp; omega
    · rw [hm]; intro x hx; simp [List.replicate] at hx; omega
    · rw [hm]; intro x hx; simp [List.replicate] at hx; omega
    · rw [hm]; simp
    · rw [hm]; simp
  | 7, _ =>
    have h := len7 0 y
    have h : length 7 y = 364 ∨ length 7 y = 371 := h
    constructor
    · rw [months7, sum_rep]; omega
    · rw [months7]; intro x hx; rw [List.eq_of_mem_replicate hx]; decide
    · rw [months7]; intro x hx; rw [List.eq_of_mem_replicate hx]; decide
    · rw [months7, List.length_replicate]; omega
    · rw [months7, List.length_replicate]; omega

theorem within_is : ∀ (l : List Int) (m r : Int), 0 ≤ r → r < l.sum → ∃ (j : Nat) (n : Int), l[j]? = some n ∧ within m l r = (m + j, r - (l.take j).sum + 1) ∧ 0 ≤ r - (l.take j).sum ∧ r - (l.take j).sum < n
  | [], m, r, h0, h => by simp at h; omega
  | n :: l, m, r, h0, h => by
    unfold within
    split
    · exact ⟨0, n, rfl, by simp, by simpa using h0, by simpa using (by assumption)⟩
    · obtain ⟨j, x, e, w, a, b⟩ := within_is l (m + 1) (r - n) (by omega) (by rw [List.sum_cons] at h; omega)
      refine ⟨j + 1, x, by simpa using e, ?_, ?_, ?_⟩
      · rw [w]
        simp only [List.take_succ_cons, List.sum_cons, Prod.mk.injEq]
        exact ⟨by omega, by omega⟩
      · simp only [List.take_succ_cons, List.sum_cons]; omega
      · simp only [List.take_succ_cons, List.sum_cons]; omega

theorem take_sum_nonneg : ∀ (l : List Int) (j : Nat), (∀ x ∈ l, 0 ≤ x) → 0 ≤ (l.take j).sum
  | [], j, h => by simp
  | n :: l, 0, h => by simp
  | n :: l, j + 1, h => by
    have := take_sum_nonneg l j (fun x hx => h x (List.mem_cons_of_mem _ hx))
    have := h n List.mem_cons_self
    simp only [List.take_succ_cons, List.sum_cons]; omega

theorem within_at : ∀ (l : List Int) (m : Int) (j : Nat) (n x : Int), (∀ v ∈ l, 0 ≤ v) → l[j]? = some n → 0 ≤ x → x < n → within m l ((l.take j).sum + x) = (m + j, x + 1)
  | [], m, j, n, x, h, e, h0, h1 => by simp at e
  | a :: l, m, 0, n, x, h, e, h0, h1 => by
    simp at e
    rw [List.take_zero, List.sum_nil, Int.zero_add]
    unfold within
    rw [if_pos (by omega)]
    simp
  | a :: l, m, j + 1, n, x, h, e, h0, h1 => by
    have hn : ∀ v ∈ l, 0 ≤ v := fun v hv => h v (List.mem_cons_of_mem _ hv)
    have p := take_sum_nonneg l j hn
    rw [List.take_succ_cons, List.sum_cons]
    unfold within
    rw [if_neg (by omega)]
    have e2 : a + (l.take j).sum + x - a = (l.take j).sum + x := by omega
    rw [e2, within_at l (m + 1) j n x hn (by simpa using e) h0 h1]
    simp only [Prod.mk.injEq]
    exact ⟨by omega, trivial⟩

theorem take_succ_sum (l : List Int) (j : Nat) (n : Int) (e : l[j]? = some n) : (l.take (j + 1)).sum = (l.take j).sum + n := by
  rw [List.take_add_one, List.sum_append, e]
  simp

theorem take_sum_le : ∀ (l : List Int) (i j : Nat), (∀ v ∈ l, 0 ≤ v) → i ≤ j → (l.take i).sum ≤ (l.take j).sum
  | [], i, j, h, g => by simp
  | a :: l, 0, j, h, g => by
    have := take_sum_nonneg (a :: l) j h
    simpa using this
  | a :: l, i + 1, 0, h, g => by omega
  | a :: l, i + 1, j + 1, h, g => by
    have := take_sum_le l i j (fun v hv => h v (List.mem_cons_of_mem _ hv)) (by omega)
    simp only [List.take_succ_cons, List.sum_cons]; omega

theorem take_all_sum (l : List Int) (j : Nat) (h : l.length ≤ j) : (l.take j).sum = l.sum := by
  rw [List.take_of_length_le h]

/-- A date that there is: the month's place and its days. -/
theorem valid_iff (k : Nat) (d : Date) : valid k d = true ↔ 1 ≤ d.month ∧ ∃ n, (months k d.year)[(d.month - 1).toNat]? = some n ∧ 1 ≤ d.day ∧ d.day ≤ n := by
  unfold valid
  rw [Bool.and_eq_true, decide_eq_true_eq]
  constructor
  · intro ⟨a, b⟩
    refine ⟨a, ?_⟩
    cases e : (months k d.year)[(d.month - 1).toNat]? with
    | none => rw [e] at b; cases b
    | some n =>
      rw [e] at b
      simp only [Bool.and_eq_true, decide_eq_true_eq] at b
      exact ⟨n, rfl, b⟩
  · intro ⟨a, n, e, b⟩
    rw [e]
    simp only [Bool.and_eq_true, decide_eq_true_eq]
    exact ⟨a, b⟩

theorem full_nonneg {k : Nat} (hk : k < 8) (y : Int) : ∀ v ∈ months k y, 0 ≤ v := fun v hv => by
  have := (full k hk y).least v hv
  omega

/-- A date that there is lies in its year. -/
theorem dayOf_in {k : Nat} (hk : k < 8) {d : Date} (h : valid k d = true) : YearIs k (dayOf k d) d.year := by
  obtain ⟨h1, n, e, h2, h3⟩ := (valid_iff k d).mp h
  have f := full k hk d.year
  have nn := full_nonneg hk d.year
  have p := take_sum_nonneg (months k d.year) (d.month - 1).toNat nn
  have q := take_succ_sum _ _ _ e
  have t := take_sum_le (months k d.year) ((d.month - 1).toNat + 1) (max (months k d.year).length ((d.month - 1).toNat + 1)) nn (by omega)
  rw [take_all_sum _ (max _ _) (by omega), f.sum] at t
  unfold length at t
  constructor
  · unfold dayOf; omega
  · unfold dayOf; omega

theorem dateOf_dayOf {k : Nat} (hk : k < 8) {d : Date} (h : valid k d = true) : dateOf k (dayOf k d) = d := by
  have e := yearOf_eq (dayOf_in hk h)
  obtain ⟨h1, n, em, h2, h3⟩ := (valid_iff k d).mp h
  unfold dateOf
  simp only [e]
  have w := within_at (months k d.year) 1 (d.month - 1).toNat n (d.day - 1) (full_nonneg hk d.year) em (by omega) (by omega)
  have r : dayOf k d - newYear k d.year = ((months k d.year).take (d.month - 1).toNat).sum + (d.day - 1) := by
    unfold dayOf; omega
  rw [r, w]
  obtain ⟨y, m, dd⟩ := d
  simp only [Date.mk.injEq]
  refine ⟨trivial, ?_, ?_⟩
  · simp only at h1 ⊢; omega
  · omega

theorem dayOf_dateOf {k : Nat} (hk : k < 8) (d : Int) : valid k (dateOf k d) = true ∧ dayOf k (dateOf k d) = d := by
  have y := yearOf_is k d
  have f := full k hk (yearOf k d)
  obtain ⟨j, n, e, w, a, b⟩ := within_is (months k (yearOf k d)) 1 (d - newYear k (yearOf k d)) (by have := y.lo; omega) (by
    rw [f.sum]; unfold length; have := y.hi; omega)
  have ed : dateOf k d = ⟨yearOf k d, 1 + (j : Int), d - newYear k (yearOf k d) - ((months k (yearOf k d)).take j).sum + 1⟩ := by
    show (⟨yearOf k d, (within 1 (months k (yearOf k d)) (d - newYear k (yearOf k d))).1, (within 1 (months k (yearOf k d)) (d - newYear k (yearOf k d))).2⟩ : Date) = _
    rw [w]
  have ej : (1 + (j : Int) - 1).toNat = j := by omega
  rw [ed]
  constructor
  · rw [valid_iff]
    dsimp only
    rw [ej]
    exact ⟨by omega, n, e, by omega, by omega⟩
  · unfold dayOf
    dsimp only
    rw [ej]
    omega
end Cal

end

section
namespace Cal
open Kg24

/-- How many months lie ahead of a year. -/
def T (k : Nat) (y : Int) : Int := match k with
  | 2 => (235 * y - 234) / 19
  | 4 => 13 * y
  | 5 => 13 * y
  | 7 => (newYear 7 y - 1) / 7
  | _ => 12 * y

theorem heb_leap (y : Int) : ((235 * (y + 1) - 234) / 19 = (235 * y - 234) / 19 + 12 ∧ length 2 y ≤ 380) ∨ ((235 * (y + 1) - 234) / 19 = (235 * y - 234) / 19 + 13 ∧ 380 < length 2 y) := by
  have h := hebrew_six y
  simp at h
  have s : (235 * (y + 1) - 234) / 19 = (235 * y - 234) / 19 + 12 ∨ (235 * (y + 1) - 234) / 19 = (235 * y - 234) / 19 + 13 := by omega
  obtain ⟨c, h1, h2⟩ := hebrew_shape y
  obtain ⟨c', h3, h4⟩ := hebrew_shape (y + 1)
  have e1 := el_raw y
  have e2 := el_raw (y + 1)
  have o1 : 0 ≤ off (raw y) ∧ off (raw y) ≤ 1 := by unfold off; split <;> omega
  have o2 : 0 ≤ off (raw (y + 1)) ∧ off (raw (y + 1)) ≤ 1 := by unfold off; split <;> omega
  unfold length at h ⊢
  rcases s with s | s
  · left
    refine ⟨s, ?_⟩
    have r : raw (y + 1) ≤ raw y + 355 := by
      unfold raw
      rw [s]
      omega
    omega
  · right
    refine ⟨s, ?_⟩
    have r : raw y + 383 ≤ raw (y + 1) := by
      unfold raw
      rw [s]
      omega
    omega

theorem hebMonths_length (n : Int) : ((hebMonths n).length : Int) = if 380 < n then 13 else 12 := by
  unfold hebMonths
  by_cases h : 380 < n
  · simp [h]
  · simp [h]

theorem T_step {k : Nat} (hk : k < 8) (y : Int) : T k (y + 1) = T k y + (months k y).length := by
  match k, hk with
  | 0, _ => show 12 * (y + 1) = 12 * y + 12; omega
  | 1, _ => show 12 * (y + 1) = 12 * y + 12; omega
  | 2, _ =>
    show (235 * (y + 1) - 234) / 19 = (235 * y - 234) / 19 + ((hebMonths (length 2 y)).length : Int)
    rw [hebMonths_length]
    have := heb_leap y
    split <;> omega
  | 3, _ => show 12 * (y + 1) = 12 * y + 12; omega
  | 4, _ => show 13 * (y + 1) = 13 * y + 13; omega
  | 5, _ => show 13 * (y + 1) = 13 * y + 13; omega
  | 6, _ => show 12 * (y + 1) = 12 * y + 12; omega
  | 7, _ =>
    show (newYear 7 (y + 1) - 1) / 7 = (newYear 7 y - 1) / 7 + _
    have h : length 7 y = 364 ∨ length 7 y = 371 := len7 0 y
    rw [months7, List.length_replicate]
    have e : newYear 7 (y + 1) = newYear 7 y + length 7 y := by unfold length; omega
    rw [e]
    have : newYear 7 y = newYear 0 y + 3 - (newYear 0 y + 2) % 7 := new7 0 y
    omega

theorem size_pos {k : Nat} (hk : k < 8) (y : Int) : 12 ≤ (months k y).length := (full k hk y).few

theorem T_add {k : Nat} (hk : k < 8) (y : Int) (n : Nat) : T k y + 12 * n ≤ T k (y + n) := by
  induction n with
  | zero => simp
  | succ n ih =>
    have := T_step hk (y + n)
    have := size_pos hk (y + n)
    have e : y + ((n + 1 : Nat) : Int) = y + n + 1 := by omega
    rw [e]
    omega
theorem T_lt {k : Nat} (hk : k < 8) {y z : Int} (h : y ≤ z) : T k y + 12 * (z - y) ≤ T k z := by
  have := T_add hk y (z - y).toNat
  have e : y + ((z - y).toNat : Int) = z := by omega
  rw [e] at this
  omega

/-- The month of a place among all months. -/
structure At (k : Nat) (i y m : Int) : Prop where
  place : T k y + m = i
  lo : 1 ≤ m
  hi : m ≤ (months k y).length

theorem At.unique {k : Nat} (hk : k < 8) {i y m y' m' : Int} (h : At k i y m) (g : At k i y' m') : y = y' ∧ m = m' := by
  have ey : y = y' := by
    rcases Int.lt_trichotomy y y' with l | l | l
    · have a := T_lt hk (show y + 1 ≤ y' by omega)
      have b := T_step hk y
      have := h.hi; have := g.lo; have := h.place; have := g.place
      omega
    · exact l
    · have a := T_lt hk (show y' + 1 ≤ y by omega)
      have b := T_step hk y'
      have := g.hi; have := h.lo; have := h.place; have := g.place
      omega
  subst ey
  exact ⟨rfl, by have := h.place; have := g.place; omega⟩

theorem later_at {k : Nat} (hk : k < 8) : ∀ (f : Nat) (y m n : Int), m + n - (months k y).length < f → 1 - (m + n) < f → At k (T k y + m + n) (later k f y m n).1 (later k f y m n).2
  | 0, y, m, n, h1, h2 => by
    unfold later
    exact ⟨by dsimp only; omega, by dsimp only; omega, by dsimp only; omega⟩
  | f + 1, y, m, n, h1, h2 => by
    unfold later
    dsimp only
    split
    · rename_i c
      exact ⟨by dsimp only; omega, by dsimp only; omega, by dsimp only; omega⟩
    · split
      · rename_i c c2
        have s := size_pos hk (y + 1)
        have t := T_step hk y
        have := later_at hk f (y + 1) 0 (m + n - (months k y).length) (by omega) (by omega)
        have e : T k (y + 1) + 0 + (m + n - (months k y).length) = T k y + m + n := by omega
        rw [e] at this
        exact this
      · rename_i c c2
        have s := size_pos hk (y - 1)
        have t := T_step hk (y - 1)
        have e1 : y - 1 + 1 = y := by omega
        rw [e1] at t
        have := later_at hk f (y - 1) ((months k (y - 1)).length + 1) (m + n - 1) (by omega) (by omega)
        have e : T k (y - 1) + ((months k (y - 1)).length + 1) + (m + n - 1) = T k y + m + n := by omega
        rw [e] at this
        exact this

/-- How many days a month has. -/
def size (k : Nat) (y m : Int) : Int := ((months k y)[(m - 1).toNat]?).getD 1
/-- A month's first day. -/
def first (k : Nat) (y m : Int) : Int := newYear k y + ((months k y).take (m - 1).toNat).sum

theorem size_some {k : Nat} {i y m : Int} (h : At k i y m) : (months k y)[(m - 1).toNat]? = some (size k y m) := by
  have := h.lo
  have := h.hi
  have l : (m - 1).toNat < (months k y).length := by omega
  unfold size
  rw [List.getElem?_eq_getElem l]
  rfl
theorem size_in {k : Nat} (hk : k < 8) {i y m : Int} (h : At k i y m) : 5 ≤ size k y m ∧ size k y m ≤ 31 := by
  have m := List.mem_of_getElem? (size_some h)
  exact ⟨(full k hk _).least _ m, (full k hk _).most _ m⟩

theorem first_next {k : Nat} (hk : k < 8) {i y m y' m' : Int} (h : At k i y m) (g : At k (i + 1) y' m') : first k y' m' = first k y m + size k y m := by
  have s := take_succ_sum _ _ _ (size_some h)
  have := h.lo
  have hh := h.hi
  by_cases c : m < (months k y).length
  · have g2 : At k (i + 1) y (m + 1) := ⟨by have := h.place; omega, by omega, by omega⟩
    obtain ⟨e1, e2⟩ := g.unique hk g2
    subst e1; subst e2
    unfold first
    have e : (m + 1 - 1).toNat = (m - 1).toNat + 1 := by omega
    rw [e, s]
    omega
  · have g2 : At k (i + 1) (y + 1) 1 := ⟨by have := h.place; have := T_step hk y; omega, by omega, by have := size_pos hk (y + 1); omega⟩
    obtain ⟨e1, e2⟩ := g.unique hk g2
    subst e1; subst e2
    unfold first
    rw [take_all_sum _ _ (by omega), (full k hk y).sum] at s
    unfold length at s
    have e0 : ((1 : Int) - 1).toNat = 0 := by decide
    rw [e0, List.take_zero, List.sum_nil]
    omega

theorem dayOf_first (k : Nat) (y m d : Int) : dayOf k ⟨y, m, d⟩ = first k y m + d - 1 := rfl

/-- What adding gives, by the month's place. -/
theorem added_at {k : Nat} (hk : k < 8) {i : Int} {d : Date} (h : At k i d.year d.month) (n : Int) :
    ∃ y m, At k (i + n) y m ∧ added k d n = ⟨y, m, if size k y m < d.day then size k y m else d.day⟩ := by
  have p := h.place
  have a := later_at hk (n.natAbs + 2) d.year d.month n (by have := h.hi; omega) (by have := h.lo; omega)
  rw [p] at a
  exact ⟨_, _, a, rfl⟩

theorem added_unique {k : Nat} (hk : k < 8) {i : Int} {d : Date} (h : At k i d.year d.month) {n y m : Int} (g : At k (i + n) y m) :
    added k d n = ⟨y, m, if size k y m < d.day then size k y m else d.day⟩ := by
  obtain ⟨y', m', a, e⟩ := added_at hk h n
  obtain ⟨e1, e2⟩ := a.unique hk g
  subst e1; subst e2
  exact e

theorem at_of_valid {k : Nat} {d : Date} (h : valid k d = true) : At k (T k d.year + d.month) d.year d.month := by
  obtain ⟨h1, n, e, h2, h3⟩ := (valid_iff k d).mp h
  refine ⟨rfl, h1, ?_⟩
  have := (List.getElem?_eq_some_iff.mp e).1
  omega

theorem added_valid {k : Nat} (hk : k < 8) {d : Date} (h : valid k d = true) (n : Int) : valid k (added k d n) = true := by
  obtain ⟨y, m, a, e⟩ := added_at hk (at_of_valid h) n
  obtain ⟨h1, x, ex, h2, h3⟩ := (valid_iff k d).mp h
  rw [e, valid_iff]
  dsimp only
  have s := size_in hk a
  refine ⟨a.lo, _, size_some a, ?_, ?_⟩ <;> split <;> omega

theorem added_zero {k : Nat} (hk : k < 8) {d : Date} (h : valid k d = true) : added k d 0 = d := by
  have a := at_of_valid h
  have := added_unique hk a (n := 0) (y := d.year) (m := d.month) (by simpa using a)
  obtain ⟨h1, x, ex, h2, h3⟩ := (valid_iff k d).mp h
  have s := size_some a
  rw [ex] at s
  have s := Option.some.inj s
  rw [this, if_neg (by omega)]

/-- One more month is later. -/
theorem added_step {k : Nat} (hk : k < 8) {d : Date} (h : valid k d = true) (n : Int) : dayOf k (added k d n) < dayOf k (added k d (n + 1)) := by
  obtain ⟨y, m, a, e⟩ := added_at hk (at_of_valid h) n
  obtain ⟨y', m', a', e'⟩ := added_at hk (at_of_valid h) (n + 1)
  obtain ⟨h1, x, ex, h2, h3⟩ := (valid_iff k d).mp h
  have e2 : T k d.year + d.month + (n + 1) = T k d.year + d.month + n + 1 := by omega
  rw [e2] at a'
  have f := first_next hk a a'
  have s := size_in hk a
  have s' := size_in hk a'
  rw [e, e', dayOf_first, dayOf_first]
  split <;> split <;> omega

theorem first_far {k : Nat} (hk : k < 8) {i y m : Int} (h : At k i y m) : ∀ (n : Nat) (y' m' : Int), At k (i + n) y' m' → first k y m + 5 * n ≤ first k y' m'
  | 0, y', m', g => by
    have g : At k i y' m' := by simpa using g
    obtain ⟨e1, e2⟩ := h.unique hk g
    subst e1; subst e2
    simp
  | n + 1, y', m', g => by
    obtain ⟨yy, mm, a, -⟩ := added_at hk (d := ⟨y, m, 1⟩) h n
    have := first_far hk h n yy mm a
    have e : i + ((n + 1 : Nat) : Int) = i + n + 1 := by omega
    rw [e] at g
    have f := first_next hk a g
    have s := size_in hk a
    omega

/-- Many months are many days. -/
theorem added_far {k : Nat} (hk : k < 8) {d : Date} (h : valid k d = true) (n : Nat) : dayOf k d - 31 + 5 * n ≤ dayOf k (added k d n) := by
  have a := at_of_valid h
  obtain ⟨y, m, a', e⟩ := added_at hk a n
  have f := first_far hk a n y m a'
  have s := size_in hk a
  have s' := size_in hk a'
  obtain ⟨h1, x, ex, h2, h3⟩ := (valid_iff k d).mp h
  have t := size_some a
  rw [ex] at t
  have t := Option.some.inj t
  have dd : dayOf k d = first k d.year d.month + d.day - 1 := rfl
  rw [e, dd, dayOf_first]
  split <;> omega

theorem added_mono {k : Nat} (hk : k < 8) {d : Date} (h : valid k d = true) (n : Int) (j : Nat) : dayOf k (added k d n) + j ≤ dayOf k (added k d (n + j)) := by
  induction j with
  | zero => simp
  | succ j ih =>
    have := added_step hk h (n + j)
    have e : n + ((j + 1 : Nat) : Int) = n + j + 1 := by omega
    rw [e]
    omega
theorem added_le {k : Nat} (hk : k < 8) {d : Date} (h : valid k d = true) {n n' : Int} (g : n ≤ n') : dayOf k (added k d n) + (n' - n) ≤ dayOf k (added k d n') := by
  have := added_mono hk h n (n' - n).toNat
  have e : n + ((n' - n).toNat : Int) = n' := by omega
  rw [e] at this
  omega

theorem fitting_is {k : Nat} (hk : k < 8) (a b : Int) : ∀ (i r : Nat), dayOf k (added k (dateOf k a) r) ≤ b → b < dayOf k (added k (dateOf k a) ((r + 2 ^ i : Nat) : Int)) →
    dayOf k (added k (dateOf k a) (fitting k a b i r : Int)) ≤ b ∧ b < dayOf k (added k (dateOf k a) ((fitting k a b i r : Int) + 1))
  | 0, r, h1, h2 => by
    unfold fitting
    refine ⟨h1, ?_⟩
    simpa using h2
  | i + 1, r, h1, h2 => by
    unfold fitting
    split
    · rename_i c
      refine fitting_is hk a b i (r + 2 ^ i) c ?_
      have e : r + 2 ^ i + 2 ^ i = r + 2 ^ (i + 1) := by rw [Nat.pow_succ]; omega
      rw [e]
      exact h2
    · rename_i c
      exact fitting_is hk a b i r h1 (by omega)

/-- How many months fit, by what it is. -/
theorem fits {k : Nat} (hk : k < 8) {a b : Int} (h : a ≤ b) (g : b - a ≤ 1000000) {n : Int} (h1 : dayOf k (added k (dateOf k a) n) ≤ b) (h2 : b < dayOf k (added k (dateOf k a) (n + 1))) :
    between k a b 18 = (n, b - dayOf k (added k (dateOf k a) n)) := by
  obtain ⟨v, e⟩ := dayOf_dateOf hk a
  have z := added_zero hk v
  have f := fitting_is hk a b 18 0 (by rw [show ((0 : Nat) : Int) = 0 from rfl, z, e]; exact h) (by
    have := added_far hk v (0 + 2 ^ 18)
    have e2 : (0 + 2 ^ 18 : Nat) = 262144 := by decide
    rw [e2] at this ⊢
    omega)
  have n1 : (fitting k a b 18 0 : Int) = n := by
    rcases Int.lt_trichotomy (fitting k a b 18 0 : Int) n with l | l | l
    · have := added_le hk v (show (fitting k a b 18 0 : Int) + 1 ≤ n by omega)
      omega
    · exact l
    · have := added_le hk v (show n + 1 ≤ (fitting k a b 18 0 : Int) by omega)
      omega
  show ((fitting k a b 18 0 : Int), b - dayOf k (added k (dateOf k a) (fitting k a b 18 0 : Int))) = _
  rw [n1]
end Cal

end

section
namespace Cal
open Kg24

/-- Digits as whole numbers. -/
def dg (w n : Nat) : List Int := (digits w n).map fun c => (c.toNat : Int)

theorem digit_code (n : Nat) (h : n < 10) : ((UInt8.ofNat (Nat.digitChar n).toNat).toNat : Int) = 48 + n := by
  match n, h with
  | 0, _ => decide
  | 1, _ => decide
  | 2, _ => decide
  | 3, _ => decide
  | 4, _ => decide
  | 5, _ => decide
  | 6, _ => decide
  | 7, _ => decide
  | 8, _ => decide
  | 9, _ => decide

def td (n : Nat) : List Int := (Nat.toDigits 10 n).map fun c => ((UInt8.ofNat c.toNat).toNat : Int)
theorem td_lt {n : Nat} (h : n < 10) : td n = [48 + (n : Int)] := by
  unfold td
  rw [Nat.toDigits_of_lt_base h]
  simp only [List.map_cons, List.map_nil]
  rw [digit_code n h]
theorem td_ge {n : Nat} (h : 10 ≤ n) : td n = td (n / 10) ++ [48 + ((n % 10 : Nat) : Int)] := by
  unfold td
  rw [Nat.toDigits_of_base_le (by decide) h]
  simp only [List.map_append, List.map_cons, List.map_nil]
  rw [digit_code _ (Nat.mod_lt _ (by decide))]
theorem td_length (n : Nat) : (td n).length = (Nat.toDigits 10 n).length := by
  unfold td
  simp
theorem td_pos (n : Nat) : 0 < (td n).length := by
  rw [td_length]
  exact Nat.length_toDigits_pos
theorem dg_eq (w n : Nat) : dg w n = List.replicate (w - (td n).length) 48 ++ td n := by
  unfold dg digits
  rw [td_length]
  simp [td, Function.comp_def]

theorem dg_one (n : Nat) : dg 1 n = td n := by
  rw [dg_eq]
  have := td_pos n
  have e : 1 - (td n).length = 0 := by omega
  rw [e]
  rfl
theorem dg_succ (w n : Nat) (hw : 1 ≤ w) : dg (w + 1) n = dg w (n / 10) ++ [48 + ((n % 10 : Nat) : Int)] := by
  rw [dg_eq, dg_eq]
  by_cases h : n < 10
  · have e : n / 10 = 0 := by omega
    have e2 : n % 10 = n := by omega
    rw [td_lt h, e, td_lt (by decide), e2]
    simp only [List.length_cons, List.length_nil]
    have e3 : w + 1 - (0 + 1) = w - (0 + 1) + 1 := by omega
    rw [e3, List.replicate_succ', List.append_assoc, List.append_assoc]
    rfl
  · rw [td_ge (n := n) (by omega), ← List.append_assoc]
    have e : w + 1 - (td (n / 10) ++ [48 + ((n % 10 : Nat) : Int)]).length = w - (td (n / 10)).length := by
      simp
    rw [e]

/-- The last w digits. -/
def pad : Nat → Nat → List Int
  | 0, _ => []
  | w + 1, n => pad w (n / 10) ++ [48 + ((n % 10 : Nat) : Int)]
theorem pad_length : ∀ w n, (pad w n).length = w
  | 0, _ => rfl
  | w + 1, n => by
    unfold pad
    simp [pad_length w]
theorem dg_pad : ∀ (w n : Nat), 1 ≤ w → n < 10 ^ w → dg w n = pad w n
  | 0, n, h, _ => by omega
  | 1, n, _, h => by
    rw [dg_one, td_lt (by simpa using h)]
    unfold pad pad
    have : n % 10 = n := by omega
    rw [this]
    rfl
  | w + 2, n, _, h => by
    rw [dg_succ _ _ (by omega), dg_pad (w + 1) (n / 10) (by omega) (by rw [Nat.pow_succ] at h; omega)]
    rfl
theorem dg_wide (w v n : Nat) (h : 1 ≤ w) (hv : w ≤ v) (h1 : 10 ^ (v - 1) ≤ n) (h2 : n < 10 ^ v) : dg w n = pad v n := by
  rw [← dg_pad v n (by omega) h2, dg_eq, dg_eq]
  have l : v ≤ (td n).length := by
    rw [td_length]
    have := (Nat.length_toDigits_le_iff (b := 10) (n := n) (k := v - 1) (by decide))
    by_cases c : v = 1
    · have := Nat.length_toDigits_pos (b := 10) (n := n); omega
    · have t := this (by omega)
      omega
  have e1 : w - (td n).length = 0 := by omega
  have e2 : v - (td n).length = 0 := by omega
  rw [e1, e2]

theorem dg2 (n : Nat) (h : n < 100) : dg 2 n = [48 + ((n / 10 : Nat) : Int), 48 + ((n % 10 : Nat) : Int)] := by
  rw [dg_pad 2 n (by decide) (by simpa using h)]
  unfold pad pad pad
  simp
  omega
theorem dg3 (n : Nat) (h : n < 1000) : dg 3 n = [48 + ((n / 100 : Nat) : Int), 48 + ((n / 10 % 10 : Nat) : Int), 48 + ((n % 10 : Nat) : Int)] := by
  rw [dg_pad 3 n (by decide) (by simpa using h)]
  unfold pad pad pad pad
  simp
  omega
theorem dg4 (n : Nat) (h : n < 10000) : dg 4 n = [48 + ((n / 1000 : Nat) : Int), 48 + ((n / 100 % 10 : Nat) : Int), 48 + ((n / 10 % 10 : Nat) : Int), 48 + ((n % 10 : Nat) : Int)] := by
  rw [dg_pad 4 n (by decide) (by simpa using h)]
  unfold pad pad pad pad pad
  simp
  omega

def codes (b : Bytes) : List Int := b.map fun c => (c.toNat : Int)
theorem codes_year (y : Int) : codes (yearText y) = if 0 ≤ y ∧ y ≤ 9999 then dg 4 y.toNat else (if y < 0 then 45 else 43) :: dg 6 y.natAbs := by
  unfold yearText
  split
  · rfl
  · unfold codes
    rw [List.map_cons]
    split <;> rfl
end Cal

end

section
namespace Cal
open Kg24

/-- Where a year begins, by the program's kinds. -/
def ys (k y : Int) : Int := newYear (if 0 ≤ k ∧ k ≤ 6 then k.toNat else 7) y

theorem ys_kind {k : Int} (y : Int) (h0 : 0 ≤ k) (h7 : k ≤ 7) : ys k y = newYear k.toNat y := by
  unfold ys
  split
  · rfl
  · have e : k = 7 := by omega
    rw [e]; rfl

theorem dateOk_iff (k : Int) (d : Date) : dateOk k d = true ↔ (0 ≤ k ∧ k ≤ 7) ∧ (-1900000000 ≤ d.year ∧ d.year ≤ 1900000000) ∧ valid k.toNat d = true := by
  unfold dateOk kindOk YEARS
  simp only [Bool.and_eq_true, decide_eq_true_eq]
  constructor
  · intro ⟨a, b, c, e⟩; exact ⟨a, ⟨b, c⟩, e⟩
  · intro ⟨a, ⟨b, c⟩, e⟩; exact ⟨a, b, c, e⟩

theorem day_out {k y m d : Int} (h : ¬ ((0 ≤ k ∧ k ≤ 7) ∧ -1900000000 ≤ y ∧ y ≤ 1900000000)) : told (does (.day k ⟨y, m, d⟩)) = [-1] := by
  have e : ¬ dateOk k ⟨y, m, d⟩ = true := by
    rw [dateOk_iff]
    intro ⟨a, b, _⟩
    exact h ⟨a, b⟩
  show told (if dateOk k ⟨y, m, d⟩ = true then _ else _) = _
  rw [if_neg e]
  rfl
theorem day_none {k y m d : Int} (l : List Int) (hl : months k.toNat y = l) (h : m < 1 ∨ (l.length : Int) < m ∨ d < 1 ∨ l.getD (m - 1).toNat 0 < d) : told (does (.day k ⟨y, m, d⟩)) = [-1] := by
  have e : ¬ dateOk k ⟨y, m, d⟩ = true := by
    rw [dateOk_iff, valid_iff]
    intro ⟨_, _, a, n, b, c, g⟩
    dsimp only at a b c g
    rw [hl] at b
    have := (List.getElem?_eq_some_iff.mp b).1
    rw [List.getD_eq_getElem?_getD, b] at h
    simp only [Option.getD_some] at h
    omega
  show told (if dateOk k ⟨y, m, d⟩ = true then _ else _) = _
  rw [if_neg e]
  rfl
theorem day_some {k y m d : Int} (l : List Int) (hl : months k.toNat y = l) (h0 : 0 ≤ k) (h7 : k ≤ 7) (h1 : -1900000000 ≤ y) (h2 : y ≤ 1900000000) (h3 : 1 ≤ m) (h4 : m ≤ (l.length : Int)) (h5 : 1 ≤ d) (h6 : d ≤ l.getD (m - 1).toNat 0) :
    told (does (.day k ⟨y, m, d⟩)) = [0, newYear k.toNat y + (l.take (m - 1).toNat).sum + d - 1] := by
  have e : dateOk k ⟨y, m, d⟩ = true := by
    rw [dateOk_iff, valid_iff]
    dsimp only
    rw [hl]
    have g : (m - 1).toNat < l.length := by omega
    refine ⟨⟨h0, h7⟩, ⟨h1, h2⟩, h3, l.getD (m - 1).toNat 0, ?_, h5, h6⟩
    rw [List.getD_eq_getElem?_getD, List.getElem?_eq_getElem g]
    rfl
  show told (if dateOk k ⟨y, m, d⟩ = true then _ else _) = _
  rw [if_pos e]
  show [0, dayOf k.toNat ⟨y, m, d⟩] = _
  unfold dayOf
  dsimp only
  rw [hl]
end Cal

end

section
namespace Cal
open Kg24

theorem ys_fact (k y : Int) : 351 ≤ ys k (y + 1) - ys k y ∧ ys k (y + 1) - ys k y ≤ 387 := by
  unfold ys
  exact len_all _ y

def yof (k d : Int) : Int := yearOf (if 0 ≤ k ∧ k ≤ 6 then k.toNat else 7) d
theorem yof_kind {k : Int} (d : Int) (h0 : 0 ≤ k) (h7 : k ≤ 7) : yof k d = yearOf k.toNat d := by
  unfold yof
  split
  · rfl
  · have e : k = 7 := by omega
    rw [e]; rfl
theorem yof_is (k d : Int) : ys k (yof k d) ≤ d ∧ d < ys k (yof k d + 1) := by
  have := yearOf_is (if 0 ≤ k ∧ k ≤ 6 then k.toNat else 7) d
  exact ⟨this.lo, this.hi⟩
theorem yof_eq {k d y : Int} (h1 : ys k y ≤ d) (h2 : d < ys k (y + 1)) : y = yof k d :=
  (yearOf_eq (k := if 0 ≤ k ∧ k ≤ 6 then k.toNat else 7) ⟨h1, h2⟩).symm
theorem yof_down {k d y : Int} (h : d < ys k y) : (y - 1 - yof k d).toNat < (y - yof k d).toNat := by
  have a := yof_is k d
  have b : yof k d < y := by
    by_cases c : y ≤ yof k d
    · have := new_mono (if 0 ≤ k ∧ k ≤ 6 then k.toNat else 7) c
      unfold ys at *
      omega
    · omega
  omega
theorem yof_up {k d y : Int} (h : ys k (y + 1) ≤ d) : (yof k d - (y + 1)).toNat < (yof k d - y).toNat := by
  have a := yof_is k d
  have b : y < yof k d := by
    by_cases c : yof k d + 1 ≤ y + 1
    · have := new_mono (if 0 ≤ k ∧ k ≤ 6 then k.toNat else 7) c
      unfold ys at *
      omega
    · omega
  omega

/-- What is left of a year's days, some months taken off. -/
structure Left (left0 : Int) (pre : List Int) (left m : Int) : Prop where
  eq : ∀ rest, within 1 (pre ++ rest) left0 = within m rest left
theorem left_start (l : Int) : Left l [] l 1 := ⟨fun _ => rfl⟩
theorem left_turn {l left m v : Int} {pre : List Int} (h : Left l pre left m) (g : v ≤ left) : Left l (pre ++ [v]) (left - v) (m + 1) := by
  refine ⟨fun rest => ?_⟩
  rw [List.append_assoc]
  have := h.eq ([v] ++ rest)
  rw [this]
  show (if left < v then _ else _) = _
  rw [if_neg (by omega)]
  rfl
theorem left_break {l left m v : Int} {pre post : List Int} (h : Left l pre left m) (g : left < v) : within 1 (pre ++ v :: post) l = (m, left + 1) := by
  rw [h.eq]
  show (if left < v then _ else _) = _
  rw [if_pos g]
theorem left_end {l left m : Int} {pre : List Int} (h : Left l pre left m) : within 1 pre l = (m, left + 1) := by
  have := h.eq []
  rw [List.append_nil] at this
  rw [this]
  rfl

theorem date_out {k d : Int} (h : ¬ ((0 ≤ k ∧ k ≤ 7) ∧ -700000000000 ≤ d ∧ d ≤ 700000000000)) : told (does (.date k d)) = [-1] := by
  have e : ¬ (kindOk k = true ∧ dayOk d = true) := by
    unfold kindOk dayOk MOST
    simp only [Bool.and_eq_true, decide_eq_true_eq]
    exact h
  show told (if kindOk k = true ∧ dayOk d = true then _ else _) = _
  rw [if_neg e]
  rfl
theorem date_some {k d m x : Int} (l : List Int) (h0 : 0 ≤ k) (h7 : k ≤ 7) (h1 : -700000000000 ≤ d) (h2 : d ≤ 700000000000) (hl : months k.toNat (yof k d) = l) (hw : within 1 l (d - ys k (yof k d)) = (m, x)) :
    told (does (.date k d)) = [0, yof k d, m, x] := by
  have e : kindOk k = true ∧ dayOk d = true := by
    unfold kindOk dayOk MOST
    simp only [Bool.and_eq_true, decide_eq_true_eq]
    exact ⟨⟨h0, h7⟩, h1, h2⟩
  show told (if kindOk k = true ∧ dayOk d = true then _ else _) = _
  rw [if_pos e]
  rw [yof_kind d h0 h7] at hl hw ⊢
  rw [ys_kind _ h0 h7] at hw
  show [0, yearOf k.toNat d, (within 1 (months k.toNat (yearOf k.toNat d)) (d - newYear k.toNat (yearOf k.toNat d))).1, (within 1 (months k.toNat (yearOf k.toNat d)) (d - newYear k.toNat (yearOf k.toNat d))).2] = _
  rw [hl, hw]
end Cal

end

section
namespace Cal
open Kg24
def isk (k : Int) : Bool := decide (0 ≤ k ∧ k ≤ 7)
theorem isk_a {k : Int} (h : 0 ≤ k) : decide (k ≤ 7) = isk k := by
  unfold isk
  by_cases g : k ≤ 7 <;> simp [h, g]
theorem isk_b {k : Int} (h : ¬ 0 ≤ k) : false = isk k := by
  unfold isk
  simp [h]
theorem isk_iff (k : Int) : isk k = true ↔ 0 ≤ k ∧ k ≤ 7 := by
  unfold isk
  simp
theorem el_e (y : Int) : elapsed y = if 3 * (29 * ((235 * y - 234) / 19) + (12084 + 13753 * ((235 * y - 234) / 19)) / 25920 + 1) % 7 < 3 then 29 * ((235 * y - 234) / 19) + (12084 + 13753 * ((235 * y - 234) / 19)) / 25920 + 1 else 29 * ((235 * y - 234) / 19) + (12084 + 13753 * ((235 * y - 234) / 19)) / 25920 := by
  unfold elapsed
  simp only [fd_eq _ (show (0 : Int) ≤ 19 by decide), fd_eq _ (show (0 : Int) ≤ 25920 by decide), fm_eq _ (show (0 : Int) ≤ 7 by decide)]
theorem he2 (y : Int) : newYear 2 y = -1373427 + elapsed y + (if elapsed (y + 1) - elapsed y = 356 then 2 else if elapsed y - elapsed (y - 1) = 382 then 1 else 0) := rfl
theorem weeks_e (y : Int) : newYear 7 y = gregorian y + 3 - (gregorian y + 3 - 1) % 7 := by
  show gregorian y + 3 - fm (gregorian y + 3 - 1) 7 = _
  rw [fm_eq _ (by decide)]
/-- The months of a year, by the program's kinds. -/
def mons (k y : Int) : List Int := months (if 0 ≤ k ∧ k ≤ 6 then k.toNat else 7) y
theorem mons_kind {k : Int} (y : Int) (h0 : 0 ≤ k) (h7 : k ≤ 7) : mons k y = months k.toNat y := by
  unfold mons
  split
  · rfl
  · have e : k = 7 := by omega
    rw [e]; rfl
theorem hebM (n : Int) : hebMonths n = [30, if n % 10 = 5 then 30 else 29, if n % 10 = 3 then 29 else 30, 29, 30] ++ (if 380 < n then [30] else []) ++ [29, 30, 29, 30, 29, 30, 29] := by
  unfold hebMonths
  simp only [fm_eq _ (show (0 : Int) ≤ 10 by decide)]
theorem mons7 {k : Int} (y : Int) (h : ¬ (0 ≤ k ∧ k ≤ 6)) : mons k y = List.replicate ((ys k (y + 1) - ys k y) / 7).toNat 7 := by
  unfold mons ys
  rw [if_neg h]
  exact months7 y
theorem rep_one (n : Nat) (a : Int) : (List.replicate n [a]).flatten = List.replicate n a := by
  induction n with
  | zero => rfl
  | succ n ih => rw [List.replicate_succ, List.flatten_cons, ih, List.replicate_succ]; rfl
/-- day's answer -/
def dayA (k y m d : Int) : List Int := told (does (.day k ⟨y, m, d⟩))
theorem mons_len (k y : Int) : (mons k y).length ≤ 53 := by
  unfold mons
  split
  · exact (full _ (by omega) y).many
  · exact (full 7 (by decide) y).many
theorem dayA_out {k y m d : Int} (h : ¬ (isk k = true ∧ -1900000000 ≤ y ∧ y ≤ 1900000000)) : [-1] = dayA k y m d := by
  rw [isk_iff] at h
  exact (day_out h).symm
theorem dayA_none {k y m d : Int} (h0 : isk k = true) (h : m < 1 ∨ ((mons k y).length : Int) < m ∨ d < 1 ∨ (mons k y).getD (m - 1).toNat 0 < d) : [-1] = dayA k y m d := by
  rw [isk_iff] at h0
  exact (day_none (mons k y) (mons_kind y h0.1 h0.2).symm h).symm
theorem dayA_some {k y m d : Int} (h0 : isk k = true) (h1 : -1900000000 ≤ y) (h2 : y ≤ 1900000000) (h3 : 1 ≤ m) (h4 : m ≤ ((mons k y).length : Int)) (h5 : 1 ≤ d) (h6 : d ≤ (mons k y).getD (m - 1).toNat 0) :
    [0, ys k y + ((mons k y).take (m - 1).toNat).sum + d - 1] = dayA k y m d := by
  rw [isk_iff] at h0
  rw [ys_kind y h0.1 h0.2]
  exact (day_some (mons k y) (mons_kind y h0.1 h0.2).symm h0.1 h0.2 h1 h2 h3 h4 h5 h6).symm
theorem mean_at {k : Int} (h0 : 0 ≤ k) (h7 : k ≤ 7) : ([[146097, 400], [1461, 4], [35975351, 98496], [10631, 30], [1461, 4], [1461, 4], [1029983, 2820], [146097, 400]] : List (List Int))[k.toNat]? = some [(mean k.toNat).1, (mean k.toNat).2] := by
  have : k = 0 ∨ k = 1 ∨ k = 2 ∨ k = 3 ∨ k = 4 ∨ k = 5 ∨ k = 6 ∨ k = 7 := by omega
  rcases this with e | e | e | e | e | e | e | e <;> subst e <;> rfl
theorem mean_in (k : Int) : (1461 ≤ (mean k.toNat).1 ∧ (mean k.toNat).1 ≤ 35975351) ∧ (4 ≤ (mean k.toNat).2 ∧ (mean k.toNat).2 ≤ 98496) := by
  unfold mean
  split <;> simp
/-- date's answer -/
def dateA (k d : Int) : List Int := told (does (.date k d))
theorem dateA_out {k d : Int} (h : ¬ (isk k = true ∧ -700000000000 ≤ d ∧ d ≤ 700000000000)) : [-1] = dateA k d := by
  rw [isk_iff] at h
  exact (date_out h).symm
theorem dateA_some {k d m x : Int} (h0 : isk k = true) (h1 : -700000000000 ≤ d) (h2 : d ≤ 700000000000) (hw : within 1 (mons k (yof k d)) (d - ys k (yof k d)) = (m, x)) : [0, yof k d, m, x] = dateA k d := by
  rw [isk_iff] at h0
  exact (date_some (mons k (yof k d)) h0.1 h0.2 h1 h2 (mons_kind _ h0.1 h0.2).symm hw).symm
theorem left_take {l left m v : Int} {xs : List Int} {i : Nat} (h : Left l (xs.take i) left m) (e : xs[i]? = some v) (g : ¬ left < v) : Left l (xs.take (i + 1)) (left - v) (m + 1) := by
  have t : xs.take (i + 1) = xs.take i ++ [v] := by
    rw [List.take_add_one, e]
    rfl
  rw [t]
  exact left_turn h (by omega)
theorem left_out {l left m v : Int} {xs : List Int} {i : Nat} (h : Left l (xs.take i) left m) (e : xs[i]? = some v) (g : left < v) : within 1 xs l = (m, left + 1) := by
  obtain ⟨hi, hv⟩ := List.getElem?_eq_some_iff.mp e
  have t : xs = xs.take i ++ v :: xs.drop (i + 1) := by
    rw [← hv, ← List.drop_eq_getElem_cons hi, List.take_append_drop]
  have q := left_break (post := xs.drop (i + 1)) h g
  rw [← t] at q
  exact q
theorem left_all {l left m : Int} {xs : List Int} (h : Left l (xs.take xs.length) left m) : within 1 xs l = (m, left + 1) := by
  rw [List.take_length] at h
  exact left_end h
end Cal

end

section
namespace Cal
open Kg24
def isy (y : Int) : Bool := decide (-1900000000 ≤ y ∧ y ≤ 1900000000)
def isd (d : Int) : Bool := decide (-700000000000 ≤ d ∧ d ≤ 700000000000)
theorem rng_a {lo hi x : Int} (h : lo ≤ x) : decide (x ≤ hi) = decide (lo ≤ x ∧ x ≤ hi) := by by_cases g : x ≤ hi <;> simp [h, g]
theorem rng_b {lo hi x : Int} (h : ¬ lo ≤ x) : false = decide (lo ≤ x ∧ x ≤ hi) := by simp [h]
theorem isy_iff (y : Int) : isy y = true ↔ -1900000000 ≤ y ∧ y ≤ 1900000000 := by unfold isy; simp
theorem isd_iff (y : Int) : isd y = true ↔ -700000000000 ≤ y ∧ y ≤ 700000000000 := by unfold isd; simp
def hmb (y : Int) : Int := (235 * y - 234) / 19
theorem el_h (y : Int) : elapsed y = if 3 * (29 * hmb y + (12084 + 13753 * hmb y) / 25920 + 1) % 7 < 3 then 29 * hmb y + (12084 + 13753 * hmb y) / 25920 + 1 else 29 * hmb y + (12084 + 13753 * hmb y) / 25920 := el_e y

/-- the day of a date, or none -/
def dayO (k y m d : Int) : Option Int := if 1 ≤ m ∧ m ≤ ((mons k y).length : Int) ∧ 1 ≤ d ∧ d ≤ (mons k y).getD (m - 1).toNat 0 then some (ys k y + ((mons k y).take (m - 1).toNat).sum + d - 1) else none
theorem dayO_none {k y m d : Int} (h : m < 1 ∨ ((mons k y).length : Int) < m ∨ d < 1 ∨ (mons k y).getD (m - 1).toNat 0 < d) : none = dayO k y m d := by
  unfold dayO
  rw [if_neg]
  intro ⟨a, b, c, e⟩
  rcases h with h | h | h | h <;> omega
theorem dayO_some {k y m d : Int} (h3 : 1 ≤ m) (h4 : m ≤ ((mons k y).length : Int)) (h5 : 1 ≤ d) (h6 : d ≤ (mons k y).getD (m - 1).toNat 0) : some (ys k y + ((mons k y).take (m - 1).toNat).sum + d - 1) = dayO k y m d := by
  unfold dayO
  rw [if_pos ⟨h3, h4, h5, h6⟩]
theorem mons_valid {k y m d : Int} (h0 : 0 ≤ k) (h7 : k ≤ 7) : valid k.toNat ⟨y, m, d⟩ = true ↔ 1 ≤ m ∧ m ≤ ((mons k y).length : Int) ∧ 1 ≤ d ∧ d ≤ (mons k y).getD (m - 1).toNat 0 := by
  rw [valid_iff]
  dsimp only
  rw [mons_kind y h0 h7]
  constructor
  · rintro ⟨a, n, b, c, e⟩
    have := (List.getElem?_eq_some_iff.mp b).1
    rw [List.getD_eq_getElem?_getD, b]
    simp only [Option.getD_some]
    omega
  · rintro ⟨a, b, c, e⟩
    have g : (m - 1).toNat < (months k.toNat y).length := by omega
    refine ⟨a, _, List.getElem?_eq_getElem g, c, ?_⟩
    rw [List.getD_eq_getElem?_getD, List.getElem?_eq_getElem g] at e
    exact e
theorem dayO_is {k y m d : Int} (h0 : 0 ≤ k) (h7 : k ≤ 7) : dayO k y m d = if valid k.toNat ⟨y, m, d⟩ = true then some (dayOf k.toNat ⟨y, m, d⟩) else none := by
  unfold dayO dayOf
  dsimp only
  by_cases h : valid k.toNat ⟨y, m, d⟩ = true
  · rw [if_pos h, if_pos ((mons_valid h0 h7).mp h), ys_kind y h0 h7, mons_kind y h0 h7]
  · rw [if_neg h, if_neg (fun g => h ((mons_valid h0 h7).mpr g))]
theorem dayA_is (k y m d : Int) : dayA k y m d = if (0 ≤ k ∧ k ≤ 7) ∧ (-1900000000 ≤ y ∧ y ≤ 1900000000) ∧ valid k.toNat ⟨y, m, d⟩ = true then [0, dayOf k.toNat ⟨y, m, d⟩] else [-1] := by
  unfold dayA
  show told (if dateOk k ⟨y, m, d⟩ = true then _ else _) = _
  by_cases h : dateOk k ⟨y, m, d⟩ = true
  · rw [if_pos h, if_pos ((dateOk_iff k ⟨y, m, d⟩).mp h)]
    rfl
  · rw [if_neg h, if_neg (fun g => h ((dateOk_iff k ⟨y, m, d⟩).mpr g))]
    rfl
theorem dayA_O0 {k y m d : Int} (h0 : isk k = true) (h : dayO k y m d = none) : [-1] = dayA k y m d := by
  rw [isk_iff] at h0
  rw [dayO_is h0.1 h0.2] at h
  rw [dayA_is, if_neg]
  rintro ⟨_, _, g⟩
  rw [if_pos g] at h
  cases h
theorem dayA_O1 {k y m d w : Int} (h0 : isk k = true) (h1 : isy y = true) (h : dayO k y m d = some w) : [0, w] = dayA k y m d := by
  rw [isk_iff] at h0
  rw [isy_iff] at h1
  rw [dayO_is h0.1 h0.2] at h
  rw [dayA_is]
  by_cases g : valid k.toNat ⟨y, m, d⟩ = true
  · rw [if_pos g] at h
    cases h
    rw [if_pos ⟨h0, h1, g⟩]
  · rw [if_neg g] at h
    cases h
theorem dayA_outY {k y m d : Int} (h : ¬ (isk k = true ∧ isy y = true)) : [-1] = dayA k y m d := by
  rw [isk_iff, isy_iff] at h
  exact (day_out h).symm
/-- what a date that isn't refused is -/
theorem dayA_ok {k y m d : Int} (h : ¬ dayA k y m d = [-1]) : ((0 ≤ k ∧ k ≤ 7) ∧ (-1900000000 ≤ y ∧ y ≤ 1900000000) ∧ valid k.toNat ⟨y, m, d⟩ = true) ∧ dayA k y m d = [0, dayOf k.toNat ⟨y, m, d⟩] := by
  rw [dayA_is] at h ⊢
  by_cases g : (0 ≤ k ∧ k ≤ 7) ∧ (-1900000000 ≤ y ∧ y ≤ 1900000000) ∧ valid k.toNat ⟨y, m, d⟩ = true
  · rw [if_pos g]
    exact ⟨g, rfl⟩
  · rw [if_neg g] at h
    exact absurd rfl h
theorem dayA_no {k y m d : Int} (h : dayA k y m d = [-1]) : ¬ ((0 ≤ k ∧ k ≤ 7) ∧ (-1900000000 ≤ y ∧ y ≤ 1900000000) ∧ valid k.toNat ⟨y, m, d⟩ = true) := by
  intro g
  rw [dayA_is, if_pos g] at h
  cases h
theorem dayA_len {k y m d : Int} (h : ¬ dayA k y m d = [-1]) : (1 : Int) < (dayA k y m d).length := by
  rw [(dayA_ok h).2]
  show (1 : Int) < 2
  decide
/-- date's answer -/
theorem dateA_is (k d : Int) : dateA k d = if (0 ≤ k ∧ k ≤ 7) ∧ (-700000000000 ≤ d ∧ d ≤ 700000000000) then [0, (dateOf k.toNat d).year, (dateOf k.toNat d).month, (dateOf k.toNat d).day] else [-1] := by
  unfold dateA
  show told (if kindOk k = true ∧ dayOk d = true then _ else _) = _
  have e : (kindOk k = true ∧ dayOk d = true) ↔ (0 ≤ k ∧ k ≤ 7) ∧ (-700000000000 ≤ d ∧ d ≤ 700000000000) := by
    unfold kindOk dayOk MOST
    simp only [Bool.and_eq_true, decide_eq_true_eq]
  by_cases h : kindOk k = true ∧ dayOk d = true
  · rw [if_pos h, if_pos (e.mp h)]
    rfl
  · rw [if_neg h, if_neg (fun g => h (e.mpr g))]
    rfl
theorem dateA_outD {k d : Int} (h : ¬ (isk k = true ∧ isd d = true)) : [-1] = dateA k d := by
  rw [isk_iff, isd_iff] at h
  rw [dateA_is, if_neg h]
theorem dateA_someD {k d m x : Int} (h0 : isk k = true) (h1 : isd d = true) (hw : within 1 (mons k (yof k d)) (d - ys k (yof k d)) = (m, x)) : [0, yof k d, m, x] = dateA k d := by
  rw [isd_iff] at h1
  exact dateA_some h0 h1.1 h1.2 hw
theorem dateA_ok {k d : Int} (h : ¬ dateA k d = [-1]) : ((0 ≤ k ∧ k ≤ 7) ∧ (-700000000000 ≤ d ∧ d ≤ 700000000000)) ∧ dateA k d = [0, (dateOf k.toNat d).year, (dateOf k.toNat d).month, (dateOf k.toNat d).day] := by
  rw [dateA_is] at h ⊢
  by_cases g : (0 ≤ k ∧ k ≤ 7) ∧ (-700000000000 ≤ d ∧ d ≤ 700000000000)
  · rw [if_pos g]
    exact ⟨g, rfl⟩
  · rw [if_neg g] at h
    exact absurd rfl h
theorem dateA_no {k d : Int} (h : dateA k d = [-1]) : ¬ ((0 ≤ k ∧ k ≤ 7) ∧ (-700000000000 ≤ d ∧ d ≤ 700000000000)) := by
  intro g
  rw [dateA_is, if_pos g] at h
  cases h
theorem dateA_len {k d : Int} (h : ¬ dateA k d = [-1]) : (dateA k d).length = 4 := by
  rw [(dateA_ok h).2]
  rfl
/-- weekday -/
def wdA (d : Int) : List Int := told (does (.weekday d))
theorem wdA_is (d : Int) : wdA d = if -700000000000 ≤ d ∧ d ≤ 700000000000 then [(d - 1) % 7 + 1] else [-1] := by
  unfold wdA
  show told (if dayOk d = true then one (weekday d) else one (-1)) = _
  have e : dayOk d = true ↔ (-700000000000 ≤ d ∧ d ≤ 700000000000) := by
    unfold dayOk MOST
    simp only [Bool.and_eq_true, decide_eq_true_eq]
  by_cases h : dayOk d = true
  · rw [if_pos h, if_pos (e.mp h)]
    show [fm (d - 1) 7 + 1] = _
    rw [fm_eq _ (by decide)]
  · rw [if_neg h, if_neg (fun g => h (e.mpr g))]
    rfl
theorem wdA_out {d : Int} (h : ¬ isd d = true) : [-1] = wdA d := by
  rw [isd_iff] at h
  rw [wdA_is, if_neg h]
theorem wdA_some {d : Int} (h : isd d = true) : [(d - 1) % 7 + 1] = wdA d := by
  rw [isd_iff] at h
  rw [wdA_is, if_pos h]
/-- convert -/
def cvA (k y m d to : Int) : List Int := told (does (.convert k ⟨y, m, d⟩ to))
theorem cvA_is (k y m d to : Int) : cvA k y m d to = if ((0 ≤ k ∧ k ≤ 7) ∧ (-1900000000 ≤ y ∧ y ≤ 1900000000) ∧ valid k.toNat ⟨y, m, d⟩ = true) ∧ (0 ≤ to ∧ to ≤ 7) then [0, (dateOf to.toNat (dayOf k.toNat ⟨y, m, d⟩)).year, (dateOf to.toNat (dayOf k.toNat ⟨y, m, d⟩)).month, (dateOf to.toNat (dayOf k.toNat ⟨y, m, d⟩)).day] else [-1] := by
  unfold cvA
  show told (if dateOk k ⟨y, m, d⟩ = true ∧ kindOk to = true then _ else _) = _
  have e : kindOk to = true ↔ (0 ≤ to ∧ to ≤ 7) := by
    unfold kindOk
    simp only [Bool.and_eq_true, decide_eq_true_eq]
  have e2 := dateOk_iff k ⟨y, m, d⟩
  dsimp only at e2
  by_cases h : dateOk k ⟨y, m, d⟩ = true ∧ kindOk to = true
  · rw [if_pos h, if_pos ⟨e2.mp h.1, e.mp h.2⟩]
    rfl
  · rw [if_neg h, if_neg (fun g => h ⟨e2.mpr g.1, e.mpr g.2⟩)]
    rfl
theorem new_in (k : Nat) {y : Int} (h1 : -1900000000 ≤ y) (h2 : y ≤ 1900000000) : -699999999000 ≤ newYear k y ∧ newYear k y ≤ 699999999000 := by
  have h := near k y
  have z : newYear k 0 = -365 ∨ newYear k 0 = -367 ∨ newYear k 0 = -1373427 - 100 ∨ -1400000 ≤ newYear k 0 ∧ newYear k 0 ≤ 300000 := by
    right; right; right
    match k with
    | 0 => rw [new0]; decide
    | 1 => rw [new1]; decide
    | 2 => decide
    | 3 => rw [new3]; decide
    | 4 => rw [new4]; decide
    | 5 => rw [new5]; decide
    | 6 => rw [new6]; decide
    | k + 7 => rw [new7, new0]; decide
  have z' : -1400000 ≤ newYear k 0 ∧ newYear k 0 ≤ 300000 := by omega
  have hm : (mean k = (146097, 400)) ∨ mean k = (1461, 4) ∨ mean k = (35975351, 98496) ∨ mean k = (10631, 30) ∨ mean k = (1029983, 2820) := by
    match k with
    | 0 => exact .inl rfl
    | 1 => exact .inr (.inl rfl)
    | 2 => exact .inr (.inr (.inl rfl))
    | 3 => exact .inr (.inr (.inr (.inl rfl)))
    | 4 => exact .inr (.inl rfl)
    | 5 => exact .inr (.inl rfl)
    | 6 => exact .inr (.inr (.inr (.inr rfl)))
    | k + 7 => exact .inl rfl
  rcases hm with e | e | e | e | e <;> rw [e] at h <;> dsimp only at h <;> omega
theorem dayOf_day {k y m d : Int} (h : (0 ≤ k ∧ k ≤ 7) ∧ (-1900000000 ≤ y ∧ y ≤ 1900000000) ∧ valid k.toNat ⟨y, m, d⟩ = true) : -700000000000 ≤ dayOf k.toNat ⟨y, m, d⟩ ∧ dayOf k.toNat ⟨y, m, d⟩ ≤ 700000000000 := by
  obtain ⟨h0, h1, h2⟩ := h
  have a := dayOf_in (k := k.toNat) (by omega) h2
  have b := new_in k.toNat h1.1 h1.2
  have c := len_all k.toNat y
  obtain ⟨a1, a2⟩ := a
  unfold length at c
  dsimp only at a1 a2
  omega
theorem cvA_no {k y m d to : Int} (h : dayA k y m d = [-1]) : [-1] = cvA k y m d to := by
  rw [cvA_is, if_neg (fun g => dayA_no h g.1)]
theorem cvA_yes {k y m d to : Int} (h : ¬ dayA k y m d = [-1]) : dateA to ((dayA k y m d).getD (1 : Int).toNat 0) = cvA k y m d to := by
  obtain ⟨g, e⟩ := dayA_ok h
  rw [e]
  show dateA to (dayOf k.toNat ⟨y, m, d⟩) = _
  rw [dateA_is, cvA_is]
  have := dayOf_day g
  by_cases t : 0 ≤ to ∧ to ≤ 7
  · rw [if_pos ⟨t, this⟩, if_pos ⟨g, t⟩]
  · rw [if_neg (fun x => t x.1), if_neg (fun x => t x.2)]
/-- easter -/
def wm (y : Int) : Int :=
  if (14 + 11 * (y % 19) - 3 * (y / 100 + 1) / 4 + (5 + 8 * (y / 100 + 1)) / 25) % 30 = 0 ∨ ((14 + 11 * (y % 19) - 3 * (y / 100 + 1) / 4 + (5 + 8 * (y / 100 + 1)) / 25) % 30 = 1 ∧ 10 < y % 19)
  then (14 + 11 * (y % 19) - 3 * (y / 100 + 1) / 4 + (5 + 8 * (y / 100 + 1)) / 25) % 30 + 1
  else (14 + 11 * (y % 19) - 3 * (y / 100 + 1) / 4 + (5 + 8 * (y / 100 + 1)) / 25) % 30
def eaA (w y : Int) : List Int := told (does (.easter w y))
theorem eaA_out {w y : Int} (h : ¬ ((w = 0 ∨ w = 1) ∧ isy y = true)) : [-1] = eaA w y := by
  rw [isy_iff] at h
  unfold eaA
  show _ = told (if (w = 0 ∨ w = 1) ∧ -YEARS ≤ y ∧ y ≤ YEARS then _ else _)
  rw [if_neg (by unfold YEARS; exact h)]
  rfl
theorem eaA_west {y : Int} (h : isy y = true) : [0, dayOf 0 ⟨y, 4, 19⟩ - wm y + 7 - (dayOf 0 ⟨y, 4, 19⟩ - wm y) % 7] = eaA 0 y := by
  rw [isy_iff] at h
  unfold eaA
  show _ = told (if ((0 : Int) = 0 ∨ (0 : Int) = 1) ∧ -YEARS ≤ y ∧ y ≤ YEARS then _ else _)
  rw [if_pos (by unfold YEARS; exact ⟨.inl rfl, h⟩)]
  show _ = [0, easter ((0 : Int) == 1) y]
  unfold easter
  simp only [fd_eq _ (show (0 : Int) ≤ 100 by decide), fd_eq _ (show (0 : Int) ≤ 4 by decide), fd_eq _ (show (0 : Int) ≤ 25 by decide), fm_eq _ (show (0 : Int) ≤ 7 by decide), fm_eq _ (show (0 : Int) ≤ 19 by decide), fm_eq _ (show (0 : Int) ≤ 30 by decide)]
  rfl
theorem eaA_east {y : Int} (h : isy y = true) : [0, dayOf 1 ⟨y, 4, 19⟩ - (14 + 11 * (y % 19)) % 30 + 7 - (dayOf 1 ⟨y, 4, 19⟩ - (14 + 11 * (y % 19)) % 30) % 7] = eaA 1 y := by
  rw [isy_iff] at h
  unfold eaA
  show _ = told (if ((1 : Int) = 0 ∨ (1 : Int) = 1) ∧ -YEARS ≤ y ∧ y ≤ YEARS then _ else _)
  rw [if_pos (by unfold YEARS; exact ⟨.inr rfl, h⟩)]
  show _ = [0, easter ((1 : Int) == 1) y]
  unfold easter
  simp only [fm_eq _ (show (0 : Int) ≤ 7 by decide), fm_eq _ (show (0 : Int) ≤ 19 by decide), fm_eq _ (show (0 : Int) ≤ 30 by decide)]
  rfl
theorem april {k : Nat} (hk : k = 0 ∨ k = 1) (y : Int) : valid k ⟨y, 4, 19⟩ = true := by
  rw [valid_iff]
  dsimp only
  refine ⟨by decide, 30, ?_, by decide, by decide⟩
  rcases hk with e | e <;> subst e <;> rfl
theorem dayO_west (y : Int) : dayO 0 y 4 19 = some (dayOf 0 ⟨y, 4, 19⟩) := by
  rw [dayO_is (by decide) (by decide), if_pos (show valid (Int.toNat 0) ⟨y, 4, 19⟩ = true from april (.inl rfl) y)]
  rfl
theorem dayO_east (y : Int) : dayO 1 y 4 19 = some (dayOf 1 ⟨y, 4, 19⟩) := by
  rw [dayO_is (by decide) (by decide), if_pos (show valid (Int.toNat 1) ⟨y, 4, 19⟩ = true from april (.inr rfl) y)]
  rfl
end Cal

end

section
namespace Cal
open Kg24
/-- nth -/
def ntA (k y m w n : Int) : List Int := told (does (.nth k y m w n))
theorem ntA_is (k y m w n : Int) : ntA k y m w n = if (0 ≤ k ∧ k ≤ 7) ∧ (-1900000000 ≤ y ∧ y ≤ 1900000000) ∧ 1 ≤ m ∧ 1 ≤ w ∧ w ≤ 7 then (match nth k.toNat y m w n with
    | some d => [0, d]
    | none => [-1]) else [-1] := by
  unfold ntA
  show told (if kindOk k = true ∧ -YEARS ≤ y ∧ y ≤ YEARS ∧ 1 ≤ m ∧ 1 ≤ w ∧ w ≤ 7 then _ else _) = _
  have e : (kindOk k = true ∧ -YEARS ≤ y ∧ y ≤ YEARS ∧ 1 ≤ m ∧ 1 ≤ w ∧ w ≤ 7) ↔ ((0 ≤ k ∧ k ≤ 7) ∧ (-1900000000 ≤ y ∧ y ≤ 1900000000) ∧ 1 ≤ m ∧ 1 ≤ w ∧ w ≤ 7) := by
    unfold kindOk YEARS
    simp only [Bool.and_eq_true, decide_eq_true_eq]
    omega
  by_cases h : kindOk k = true ∧ -YEARS ≤ y ∧ y ≤ YEARS ∧ 1 ≤ m ∧ 1 ≤ w ∧ w ≤ 7
  · rw [if_pos h, if_pos (e.mp h)]
    cases nth k.toNat y m w n <;> rfl
  · rw [if_neg h, if_neg (fun g => h (e.mpr g))]
    rfl
theorem valid1 {k : Nat} (hk : k < 8) {y m x : Int} (h1 : 1 ≤ m) (e : (months k y)[(m - 1).toNat]? = some x) : valid k ⟨y, m, 1⟩ = true := by
  rw [valid_iff]
  have a := (full k hk y).least x (List.mem_of_getElem? e)
  dsimp only
  exact ⟨h1, x, e, by decide, by omega⟩
theorem ntA_no {k y m w n : Int} (h : dayA k y m 1 = [-1]) : [-1] = ntA k y m w n := by
  have g := dayA_no h
  rw [ntA_is]
  by_cases c : (0 ≤ k ∧ k ≤ 7) ∧ (-1900000000 ≤ y ∧ y ≤ 1900000000) ∧ 1 ≤ m ∧ 1 ≤ w ∧ w ≤ 7
  · rw [if_pos c]
    obtain ⟨c0, c1, c2, _⟩ := c
    cases e : (months k.toNat y)[(m - 1).toNat]? with
    | none =>
      unfold nth
      rw [e]
    | some x => exact absurd ⟨c0, c1, valid1 (by omega) c2 e⟩ g
  · rw [if_neg c]
theorem ntA_out {k y m w n : Int} (h : w < 1 ∨ 7 < w) : [-1] = ntA k y m w n := by
  rw [ntA_is, if_neg]
  omega
theorem ntA_zero {k y m w n : Int} (h : n = 0) : [-1] = ntA k y m w n := by
  rw [ntA_is]
  subst h
  have e : nth k.toNat y m w 0 = none := by
    unfold nth
    cases (months k.toNat y)[(m - 1).toNat]? with
    | none => rfl
    | some x => exact if_neg (fun g => g.1 rfl)
  rw [e]
  split <;> rfl
/-- the month's first day and its size, of a month that is one -/
theorem nth_eq {k y m w n : Int} (h : ¬ dayA k y m 1 = [-1]) (h1 : ¬ w < 1) (h2 : ¬ 7 < w) (hn : ¬ n = 0) :
    ntA k y m w n = (let f := (dayA k y m 1).getD (1 : Int).toNat 0
      let s := (mons k y).getD (m - 1).toNat 0
      let d := if 0 < n then f + (w - f) % 7 + 7 * (n - 1) else f + s - 1 - (f + s - 1 - w) % 7 + 7 * (n + 1)
      if d < f ∨ f + s - 1 < d then [-1] else [0, d]) := by
  obtain ⟨g, e⟩ := dayA_ok h
  obtain ⟨g0, g1, g2⟩ := g
  obtain ⟨m1, x, ex, _, _⟩ := (valid_iff _ _).mp g2
  dsimp only at m1 ex
  have hs : (mons k y).getD (m - 1).toNat 0 = x := by
    rw [mons_kind y g0.1 g0.2, List.getD_eq_getElem?_getD, ex]
    rfl
  rw [ntA_is, if_pos ⟨g0, g1, m1, by omega, by omega⟩, hs, e]
  show _ = (let f := dayOf k.toNat ⟨y, m, 1⟩
      let d := if 0 < n then f + (w - f) % 7 + 7 * (n - 1) else f + x - 1 - (f + x - 1 - w) % 7 + 7 * (n + 1)
      if d < f ∨ f + x - 1 < d then [-1] else [0, d])
  unfold nth
  rw [ex]
  unfold weekday
  simp only [fm_eq _ (show (0 : Int) ≤ 7 by decide)]
  generalize dayOf k.toNat ⟨y, m, 1⟩ = f
  by_cases hp : 0 < n
  · simp only [if_pos hp]
    have q : (w - ((f - 1) % 7 + 1)) % 7 = (w - f) % 7 := by omega
    rw [q]
    by_cases c : f + (w - f) % 7 + 7 * (n - 1) < f ∨ f + x - 1 < f + (w - f) % 7 + 7 * (n - 1)
    · rw [if_pos c, if_neg (by omega)]
    · rw [if_neg c, if_pos (by omega)]
  · simp only [if_neg hp]
    have q : ((f + x - 1 - 1) % 7 + 1 - w) % 7 = (f + x - 1 - w) % 7 := by omega
    rw [q]
    by_cases c : f + x - 1 - (f + x - 1 - w) % 7 + 7 * (n + 1) < f ∨ f + x - 1 < f + x - 1 - (f + x - 1 - w) % 7 + 7 * (n + 1)
    · rw [if_pos c, if_neg (by omega)]
    · rw [if_neg c, if_pos (by omega)]
theorem ntp_out {k y m w n : Int} (h : ¬ dayA k y m 1 = [-1]) (h1 : ¬ w < 1) (h2 : ¬ 7 < w) (hn : ¬ n = 0) (hp : 0 < n) (c : (dayA k y m 1).getD (1 : Int).toNat 0 + (w - (dayA k y m 1).getD (1 : Int).toNat 0) % 7 + 7 * (n - 1) < (dayA k y m 1).getD (1 : Int).toNat 0 ∨ (dayA k y m 1).getD (1 : Int).toNat 0 + (mons k y).getD (m - 1).toNat 0 - 1 < (dayA k y m 1).getD (1 : Int).toNat 0 + (w - (dayA k y m 1).getD (1 : Int).toNat 0) % 7 + 7 * (n - 1)) : [-1] = ntA k y m w n := by
  rw [nth_eq h h1 h2 hn]
  simp only [if_pos hp]
  rw [if_pos c]
theorem ntp_in {k y m w n : Int} (h : ¬ dayA k y m 1 = [-1]) (h1 : ¬ w < 1) (h2 : ¬ 7 < w) (hn : ¬ n = 0) (hp : 0 < n) (c : ¬ (dayA k y m 1).getD (1 : Int).toNat 0 + (w - (dayA k y m 1).getD (1 : Int).toNat 0) % 7 + 7 * (n - 1) < (dayA k y m 1).getD (1 : Int).toNat 0) (d : ¬ (dayA k y m 1).getD (1 : Int).toNat 0 + (mons k y).getD (m - 1).toNat 0 - 1 < (dayA k y m 1).getD (1 : Int).toNat 0 + (w - (dayA k y m 1).getD (1 : Int).toNat 0) % 7 + 7 * (n - 1)) : [0, (dayA k y m 1).getD (1 : Int).toNat 0 + (w - (dayA k y m 1).getD (1 : Int).toNat 0) % 7 + 7 * (n - 1)] = ntA k y m w n := by
  rw [nth_eq h h1 h2 hn]
  simp only [if_pos hp]
  rw [if_neg (fun g => g.elim c d)]
theorem ntm_out {k y m w n : Int} (h : ¬ dayA k y m 1 = [-1]) (h1 : ¬ w < 1) (h2 : ¬ 7 < w) (hn : ¬ n = 0) (hp : ¬ 0 < n) (c : (dayA k y m 1).getD (1 : Int).toNat 0 + (mons k y).getD (m - 1).toNat 0 - 1 - ((dayA k y m 1).getD (1 : Int).toNat 0 + (mons k y).getD (m - 1).toNat 0 - 1 - w) % 7 + 7 * (n + 1) < (dayA k y m 1).getD (1 : Int).toNat 0 ∨ (dayA k y m 1).getD (1 : Int).toNat 0 + (mons k y).getD (m - 1).toNat 0 - 1 < (dayA k y m 1).getD (1 : Int).toNat 0 + (mons k y).getD (m - 1).toNat 0 - 1 - ((dayA k y m 1).getD (1 : Int).toNat 0 + (mons k y).getD (m - 1).toNat 0 - 1 - w) % 7 + 7 * (n + 1)) : [-1] = ntA k y m w n := by
  rw [nth_eq h h1 h2 hn]
  simp only [if_neg hp]
  rw [if_pos c]
theorem ntm_in {k y m w n : Int} (h : ¬ dayA k y m 1 = [-1]) (h1 : ¬ w < 1) (h2 : ¬ 7 < w) (hn : ¬ n = 0) (hp : ¬ 0 < n) (c : ¬ (dayA k y m 1).getD (1 : Int).toNat 0 + (mons k y).getD (m - 1).toNat 0 - 1 - ((dayA k y m 1).getD (1 : Int).toNat 0 + (mons k y).getD (m - 1).toNat 0 - 1 - w) % 7 + 7 * (n + 1) < (dayA k y m 1).getD (1 : Int).toNat 0) (d : ¬ (dayA k y m 1).getD (1 : Int).toNat 0 + (mons k y).getD (m - 1).toNat 0 - 1 < (dayA k y m 1).getD (1 : Int).toNat 0 + (mons k y).getD (m - 1).toNat 0 - 1 - ((dayA k y m 1).getD (1 : Int).toNat 0 + (mons k y).getD (m - 1).toNat 0 - 1 - w) % 7 + 7 * (n + 1)) : [0, (dayA k y m 1).getD (1 : Int).toNat 0 + (mons k y).getD (m - 1).toNat 0 - 1 - ((dayA k y m 1).getD (1 : Int).toNat 0 + (mons k y).getD (m - 1).toNat 0 - 1 - w) % 7 + 7 * (n + 1)] = ntA k y m w n := by
  rw [nth_eq h h1 h2 hn]
  simp only [if_neg hp]
  rw [if_neg (fun g => g.elim c d)]
theorem mons_at {k y m d : Int} (h : ¬ dayA k y m d = [-1]) : 1 ≤ m ∧ m ≤ ((mons k y).length : Int) := by
  obtain ⟨g, _⟩ := dayA_ok h
  obtain ⟨g0, g1, g2⟩ := g
  have := (mons_valid g0.1 g0.2).mp g2
  exact ⟨this.1, this.2.1⟩
/-- add: months counted through -/
def mb (k y : Int) : Int := if k = 2 then hmb y else if k = 4 ∨ k = 5 then 13 * y else if k = 7 then newYear 7 y / 7 else 12 * y
def yom (k b : Int) : Int := if k = 2 then (19 * b + 252) / 235 else if k = 4 ∨ k = 5 then b / 13 else if k = 7 then yof k (7 * b + 1) else b / 12
theorem week_mod (y : Int) : newYear 7 y % 7 = 1 := by
  rw [new7 0 y]
  omega
theorem mb_T {k : Int} (h0 : 0 ≤ k) (h7 : k ≤ 7) (y : Int) : mb k y = T k.toNat y := by
  have : k = 0 ∨ k = 1 ∨ k = 2 ∨ k = 3 ∨ k = 4 ∨ k = 5 ∨ k = 6 ∨ k = 7 := by omega
  have w := week_mod y
  rcases this with e | e | e | e | e | e | e | e <;> subst e <;> first | rfl | (show newYear 7 y / 7 = (newYear 7 y - 1) / 7; omega)
theorem yom_T {k : Int} (h0 : 0 ≤ k) (h7 : k ≤ 7) (b : Int) : T k.toNat (yom k b) ≤ b ∧ b < T k.toNat (yom k b + 1) := by
  have : k = 0 ∨ k = 1 ∨ k = 2 ∨ k = 3 ∨ k = 4 ∨ k = 5 ∨ k = 6 ∨ k = 7 := by omega
  rcases this with e | e | e | e | e | e | e | e <;> subst e
  · show 12 * (b / 12) ≤ b ∧ b < 12 * (b / 12 + 1)
    omega
  · show 12 * (b / 12) ≤ b ∧ b < 12 * (b / 12 + 1)
    omega
  · show (235 * ((19 * b + 252) / 235) - 234) / 19 ≤ b ∧ b < (235 * ((19 * b + 252) / 235 + 1) - 234) / 19
    omega
  · show 12 * (b / 12) ≤ b ∧ b < 12 * (b / 12 + 1)
    omega
  · show 13 * (b / 13) ≤ b ∧ b < 13 * (b / 13 + 1)
    omega
  · show 13 * (b / 13) ≤ b ∧ b < 13 * (b / 13 + 1)
    omega
  · show 12 * (b / 12) ≤ b ∧ b < 12 * (b / 12 + 1)
    omega
  · show (newYear 7 (yof 7 (7 * b + 1)) - 1) / 7 ≤ b ∧ b < (newYear 7 (yof 7 (7 * b + 1) + 1) - 1) / 7
    have a := yof_is 7 (7 * b + 1)
    rw [ys_kind _ (by decide) (by decide), ys_kind _ (by decide) (by decide)] at a
    have w1 := week_mod (yof 7 (7 * b + 1))
    have w2 := week_mod (yof 7 (7 * b + 1) + 1)
    have e7 : (7 : Int).toNat = 7 := rfl
    rw [e7] at a
    omega
/-- the date so many months further, in any year -/
def dam (k y m d n : Int) : List Int :=
  [yom k (mb k y + m - 1 + n), mb k y + m - 1 + n - mb k (yom k (mb k y + m - 1 + n)) + 1,
   if (mons k (yom k (mb k y + m - 1 + n))).getD (mb k y + m - 1 + n - mb k (yom k (mb k y + m - 1 + n)) + 1 - 1).toNat 0 < d then (mons k (yom k (mb k y + m - 1 + n))).getD (mb k y + m - 1 + n - mb k (yom k (mb k y + m - 1 + n)) + 1 - 1).toNat 0 else d]
theorem yom_in {k : Int} (h0 : 0 ≤ k) (h7 : k ≤ 7) (b : Int) : At k.toNat (b + 1) (yom k b) (b - mb k (yom k b) + 1) := by
  have a := yom_T h0 h7 b
  have s := T_step (k := k.toNat) (by omega) (yom k b)
  have e := mb_T h0 h7 (yom k b)
  exact ⟨by omega, by omega, by omega⟩
theorem yom_ix {k : Int} (h0 : 0 ≤ k) (h7 : k ≤ 7) (b : Int) : 0 ≤ b - mb k (yom k b) + 1 - 1 ∧ b - mb k (yom k b) + 1 - 1 < ((mons k (yom k b)).length : Int) := by
  have a := yom_in h0 h7 b
  rw [mons_kind _ h0 h7]
  have := a.lo
  have := a.hi
  omega
theorem dam_is {k y m d : Int} (h0 : 0 ≤ k) (h7 : k ≤ 7) (v : valid k.toNat ⟨y, m, d⟩ = true) (n : Int) : dam k y m d n = [(added k.toNat ⟨y, m, d⟩ n).year, (added k.toNat ⟨y, m, d⟩ n).month, (added k.toNat ⟨y, m, d⟩ n).day] := by
  have a := at_of_valid v
  dsimp only at a
  have b := yom_in h0 h7 (mb k y + m - 1 + n)
  have e := mb_T h0 h7 y
  have p : mb k y + m - 1 + n + 1 = T k.toNat y + m + n := by omega
  rw [p] at b
  rw [added_unique (d := ⟨y, m, d⟩) (by omega) a b]
  have hs := size_some b
  unfold dam
  have q : (mons k (yom k (mb k y + m - 1 + n))).getD (mb k y + m - 1 + n - mb k (yom k (mb k y + m - 1 + n)) + 1 - 1).toNat 0 = size k.toNat (yom k (mb k y + m - 1 + n)) (mb k y + m - 1 + n - mb k (yom k (mb k y + m - 1 + n)) + 1) := by
    rw [mons_kind _ h0 h7, List.getD_eq_getElem?_getD, hs]
    rfl
  rw [q]
def adA (k y m d n : Int) : List Int := told (does (.add k ⟨y, m, d⟩ n))
theorem adA_is (k y m d n : Int) : adA k y m d n = if ((0 ≤ k ∧ k ≤ 7) ∧ (-1900000000 ≤ y ∧ y ≤ 1900000000) ∧ valid k.toNat ⟨y, m, d⟩ = true) ∧ -120000 ≤ n ∧ n ≤ 120000 then [0, (added k.toNat ⟨y, m, d⟩ n).year, (added k.toNat ⟨y, m, d⟩ n).month, (added k.toNat ⟨y, m, d⟩ n).day] else [-1] := by
  unfold adA
  show told (if dateOk k ⟨y, m, d⟩ = true ∧ -120000 ≤ n ∧ n ≤ 120000 then _ else _) = _
  have e2 := dateOk_iff k ⟨y, m, d⟩
  dsimp only at e2
  by_cases h : dateOk k ⟨y, m, d⟩ = true ∧ -120000 ≤ n ∧ n ≤ 120000
  · rw [if_pos h, if_pos ⟨e2.mp h.1, h.2⟩]
    rfl
  · rw [if_neg h, if_neg (fun g => h ⟨e2.mpr g.1, g.2⟩)]
    rfl
theorem adA_no {k y m d n : Int} (h : dayA k y m d = [-1] ∨ n < -120000 ∨ 120000 < n) : [-1] = adA k y m d n := by
  rw [adA_is, if_neg]
  intro ⟨a, b⟩
  rcases h with h | h | h
  · exact dayA_no h a
  · omega
  · omega
theorem adA_yes {k y m d n : Int} (h : ¬ dayA k y m d = [-1]) (h1 : -120000 ≤ n) (h2 : n ≤ 120000) : [0] ++ dam k y m d n = adA k y m d n := by
  obtain ⟨g, _⟩ := dayA_ok h
  rw [adA_is, if_pos ⟨g, h1, h2⟩, dam_is g.1.1 g.1.2 g.2.2]
  rfl
theorem dayA_kind {k y m d : Int} (h : ¬ dayA k y m d = [-1]) : 0 ≤ k ∧ k ≤ 7 := (dayA_ok h).1.1
/-- between -/
def dft (k : Int) (xs : List Int) (n : Int) : Int := dayOf k.toNat (added k.toNat ⟨xs.getD 1 0, xs.getD 2 0, xs.getD 3 0⟩ n)
def DtOk (k : Int) (xs : List Int) : Prop := (0 ≤ k ∧ k ≤ 7) ∧ xs.length = 4 ∧ valid k.toNat ⟨xs.getD 1 0, xs.getD 2 0, xs.getD 3 0⟩ = true
theorem dateA_dt {k a : Int} (h : ¬ dateA k a = [-1]) : DtOk k (dateA k a) := by
  obtain ⟨g, e⟩ := dateA_ok h
  rw [e]
  refine ⟨g.1, rfl, ?_⟩
  exact (dayOf_dateOf (k := k.toNat) (by omega) a).1
theorem dft_dateA {k a : Int} (h : ¬ dateA k a = [-1]) (n : Int) : dft k (dateA k a) n = dayOf k.toNat (added k.toNat (dateOf k.toNat a) n) := by
  rw [(dateA_ok h).2]
  rfl
theorem dft_some {k : Int} {xs : List Int} (h : DtOk k xs) (n : Int) : dayO k ((dam k (xs.getD (1 : Int).toNat 0) (xs.getD (2 : Int).toNat 0) (xs.getD (3 : Int).toNat 0) n).getD (0 : Int).toNat 0) ((dam k (xs.getD (1 : Int).toNat 0) (xs.getD (2 : Int).toNat 0) (xs.getD (3 : Int).toNat 0) n).getD (1 : Int).toNat 0) ((dam k (xs.getD (1 : Int).toNat 0) (xs.getD (2 : Int).toNat 0) (xs.getD (3 : Int).toNat 0) n).getD (2 : Int).toNat 0) = some (dft k xs n) := by
  obtain ⟨h0, hl, hv⟩ := h
  have v := added_valid (k := k.toNat) (by omega) hv n
  rw [dayO_is h0.1 h0.2]
  have e := dam_is h0.1 h0.2 hv n
  show (if valid k.toNat ⟨(dam k (xs.getD 1 0) (xs.getD 2 0) (xs.getD 3 0) n).getD 0 0, (dam k (xs.getD 1 0) (xs.getD 2 0) (xs.getD 3 0) n).getD 1 0, (dam k (xs.getD 1 0) (xs.getD 2 0) (xs.getD 3 0) n).getD 2 0⟩ = true then some (dayOf k.toNat ⟨(dam k (xs.getD 1 0) (xs.getD 2 0) (xs.getD 3 0) n).getD 0 0, (dam k (xs.getD 1 0) (xs.getD 2 0) (xs.getD 3 0) n).getD 1 0, (dam k (xs.getD 1 0) (xs.getD 2 0) (xs.getD 3 0) n).getD 2 0⟩) else none) = some (dft k xs n)
  rw [e]
  exact if_pos v
theorem dam_len (k y m d n : Int) : ((dam k y m d n).length : Int) = 3 := rfl
def btA (k a b : Int) : List Int := told (does (.between k a b))
theorem btA_is (k a b : Int) : btA k a b = if (0 ≤ k ∧ k ≤ 7) ∧ (-700000000000 ≤ a ∧ a ≤ 700000000000) ∧ (-700000000000 ≤ b ∧ b ≤ 700000000000) ∧ a ≤ b ∧ b - a ≤ 1000000 then [0, (between k.toNat a b 18).1, (between k.toNat a b 18).2] else [-1] := by
  unfold btA
  show told (if kindOk k = true ∧ dayOk a = true ∧ dayOk b = true ∧ a ≤ b ∧ b - a ≤ 1000000 then _ else _) = _
  have e : (kindOk k = true ∧ dayOk a = true ∧ dayOk b = true ∧ a ≤ b ∧ b - a ≤ 1000000) ↔ (0 ≤ k ∧ k ≤ 7) ∧ (-700000000000 ≤ a ∧ a ≤ 700000000000) ∧ (-700000000000 ≤ b ∧ b ≤ 700000000000) ∧ a ≤ b ∧ b - a ≤ 1000000 := by
    unfold kindOk dayOk MOST
    simp only [Bool.and_eq_true, decide_eq_true_eq]
  by_cases h : kindOk k = true ∧ dayOk a = true ∧ dayOk b = true ∧ a ≤ b ∧ b - a ≤ 1000000
  · rw [if_pos h, if_pos (e.mp h)]
    rfl
  · rw [if_neg h, if_neg (fun g => h (e.mpr g))]
    rfl
theorem btA_no {k a b : Int} (h : dateA k a = [-1] ∨ dateA k b = [-1] ∨ b < a ∨ 1000000 < b - a) : [-1] = btA k a b := by
  rw [btA_is, if_neg]
  rintro ⟨h0, h1, h2, h3, h4⟩
  rcases h with h | h | h | h
  · exact dateA_no h ⟨h0, h1⟩
  · exact dateA_no h ⟨h0, h2⟩
  · omega
  · omega
/-- where a date's day lies in its month -/
theorem added_in {k : Nat} (hk : k < 8) {d : Date} (h : valid k d = true) {n y m : Int} (g : At k (T k d.year + d.month + n) y m) : first k y m ≤ dayOf k (added k d n) ∧ dayOf k (added k d n) < first k y m + size k y m := by
  have e := added_unique (d := d) hk (at_of_valid h) g
  rw [e, dayOf_first]
  have s := size_in hk g
  obtain ⟨_, x, _, h2, _⟩ := (valid_iff k d).mp h
  split <;> omega
/-- so many months lead from a's month to b's -/
def mdiff (k a b : Int) : Int := mb k ((dateA k b).getD (1 : Int).toNat 0) + (dateA k b).getD (2 : Int).toNat 0 - mb k ((dateA k a).getD (1 : Int).toNat 0) - (dateA k a).getD (2 : Int).toNat 0
theorem bt_facts {k a b : Int} (ha : ¬ dateA k a = [-1]) (hb : ¬ dateA k b = [-1]) : dft k (dateA k a) (mdiff k a b - 1) ≤ b ∧ b < dft k (dateA k a) (mdiff k a b + 1) := by
  rw [dft_dateA ha, dft_dateA ha]
  have e : mdiff k a b = T k.toNat (dateOf k.toNat b).year + (dateOf k.toNat b).month - T k.toNat (dateOf k.toNat a).year - (dateOf k.toNat a).month := by
    obtain ⟨ga, ea⟩ := dateA_ok ha
    obtain ⟨gb, eb⟩ := dateA_ok hb
    unfold mdiff
    rw [ea, eb]
    show mb k (dateOf k.toNat b).year + (dateOf k.toNat b).month - mb k (dateOf k.toNat a).year - (dateOf k.toNat a).month = _
    rw [mb_T ga.1.1 ga.1.2, mb_T ga.1.1 ga.1.2]
  obtain ⟨ga, _⟩ := dateA_ok ha
  have hk : k.toNat < 8 := by omega
  obtain ⟨va, da⟩ := dayOf_dateOf hk a
  obtain ⟨vb, db⟩ := dayOf_dateOf hk b
  have atb := at_of_valid vb
  have inb : first k.toNat (dateOf k.toNat b).year (dateOf k.toNat b).month ≤ b ∧ b < first k.toNat (dateOf k.toNat b).year (dateOf k.toNat b).month + size k.toNat (dateOf k.toNat b).year (dateOf k.toNat b).month := by
    have z := added_in hk vb (n := 0) (by rw [Int.add_zero]; exact atb)
    rw [added_zero hk vb, db] at z
    exact z
  obtain ⟨y1, m1, a1, _⟩ := added_at hk (at_of_valid va) (mdiff k a b - 1)
  obtain ⟨y2, m2, a2, _⟩ := added_at hk (at_of_valid va) (mdiff k a b + 1)
  have i1 := added_in hk va a1
  have i2 := added_in hk va a2
  have n1 := first_next hk a1 (y' := (dateOf k.toNat b).year) (m' := (dateOf k.toNat b).month) (by
    have p : T k.toNat (dateOf k.toNat a).year + (dateOf k.toNat a).month + (mdiff k a b - 1) + 1 = T k.toNat (dateOf k.toNat b).year + (dateOf k.toNat b).month := by omega
    rw [p]
    exact atb)
  have n2 := first_next hk atb (y' := y2) (m' := m2) (by
    have p : T k.toNat (dateOf k.toNat a).year + (dateOf k.toNat a).month + (mdiff k a b + 1) = T k.toNat (dateOf k.toNat b).year + (dateOf k.toNat b).month + 1 := by omega
    rw [p] at a2
    exact a2)
  omega
theorem btA_of {k a b n : Int} (ha : ¬ dateA k a = [-1]) (hb : ¬ dateA k b = [-1]) (h : ¬ b < a) (g : ¬ 1000000 < b - a) (h1 : dft k (dateA k a) n ≤ b) (h2 : b < dft k (dateA k a) (n + 1)) : [0, n, b - dft k (dateA k a) n] = btA k a b := by
  obtain ⟨ga, _⟩ := dateA_ok ha
  obtain ⟨gb, _⟩ := dateA_ok hb
  rw [btA_is, if_pos ⟨ga.1, ga.2, gb.2, by omega, by omega⟩]
  rw [dft_dateA ha] at h1 h2 ⊢
  rw [fits (by omega) (by omega) (by omega) h1 h2]
theorem btA_less {k a b : Int} (ha : ¬ dateA k a = [-1]) (hb : ¬ dateA k b = [-1]) (h : ¬ b < a) (g : ¬ 1000000 < b - a) (c : b < dft k (dateA k a) (mdiff k a b)) : [0, mdiff k a b - 1, b - dft k (dateA k a) (mdiff k a b - 1)] = btA k a b :=
  btA_of ha hb h g (bt_facts ha hb).1 (by rw [Int.sub_add_cancel]; exact c)
theorem btA_same {k a b : Int} (ha : ¬ dateA k a = [-1]) (hb : ¬ dateA k b = [-1]) (h : ¬ b < a) (g : ¬ 1000000 < b - a) (c : ¬ b < dft k (dateA k a) (mdiff k a b)) : [0, mdiff k a b, b - dft k (dateA k a) (mdiff k a b)] = btA k a b :=
  btA_of ha hb h g (by omega) (bt_facts ha hb).2
end Cal

end

section
namespace Cal
open Kg24 PySem
/-- a text of bytes -/
def so (b : Bytes) : Str := ⟨(b.map fun c => c.toNat).toArray⟩
theorem str_ext {a b : Str} (h : a.cps.toList = b.cps.toList) : a = b := by
  cases a with
  | mk a =>
    cases b with
    | mk b =>
      have : a = b := Array.ext' h
      rw [this]
theorem app_cps (a b : Str) : (a ++ b).cps.toList = a.cps.toList ++ b.cps.toList := by
  show (a.cps ++ b.cps).toList = _
  rw [Array.toList_append]
theorem so_cps (b : Bytes) : (so b).cps.toList = b.map fun c => c.toNat := rfl
theorem so_app (a b : Bytes) : so a ++ so b = so (a ++ b) := str_ext (by rw [app_cps, so_cps, so_cps, so_cps, List.map_append])
theorem so_len (b : Bytes) : (so b).length = b.length := by
  show ((b.map fun c => c.toNat).toArray).size = _
  simp
theorem len_app {a b : Str} {n m : Nat} (h : a.length ≤ n) (g : b.length ≤ m) : (a ++ b).length ≤ n + m := by
  have e : (a ++ b).length = a.length + b.length := by
    show (a.cps ++ b.cps).size = _
    rw [Array.size_append]
    rfl
  omega
theorem len_cat {a b : Str} {n m : Nat} (h : a.length ≤ n) (g : b.length ≤ m) (l : n + m ≤ 1000) : a.length + b.length ≤ sizeLine := by
  have := sizeLine_eq
  omega
theorem lit_dash : Str.ofString "-" = so [45] := by decide +kernel
theorem lit_plus : Str.ofString "+" = so [43] := by decide +kernel
theorem lit_week : Str.ofString "-W" = so [45, 87] := by decide +kernel
/-- the digits of a number -/
def td8 (n : Nat) : Bytes := (Nat.toDigits 10 n).map fun c => UInt8.ofNat c.toNat
theorem digits_is (w n : Nat) : digits w n = List.replicate (w - (td8 n).length) 48 ++ td8 n := rfl
theorem td8_pos (n : Nat) : 0 < (td8 n).length := by
  unfold td8
  rw [List.length_map]
  exact Nat.length_toDigits_pos
theorem digitChar_small : ∀ n, n < 10 → (UInt8.ofNat (Nat.digitChar n).toNat).toNat = (Nat.digitChar n).toNat ∧ 48 ≤ (Nat.digitChar n).toNat ∧ (Nat.digitChar n).toNat ≤ 57 := by decide
theorem toDigits_small : ∀ (k n : Nat), n ≤ k → ∀ c ∈ Nat.toDigits 10 n, (UInt8.ofNat c.toNat).toNat = c.toNat ∧ 48 ≤ c.toNat ∧ c.toNat ≤ 57 := by
  intro k
  induction k with
  | zero =>
    intro n hn c hc
    have : n = 0 := by omega
    subst this
    rw [Nat.toDigits_of_lt_base (by decide)] at hc
    have : c = Nat.digitChar 0 := by simpa using hc
    subst this
    exact digitChar_small 0 (by decide)
  | succ k ih =>
    intro n hn c hc
    by_cases h : n < 10
    · rw [Nat.toDigits_of_lt_base h] at hc
      have : c = Nat.digitChar n := by simpa using hc
      subst this
      exact digitChar_small n h
    · rw [Nat.toDigits_of_base_le (by decide) (by omega)] at hc
      rcases List.mem_append.mp hc with hc | hc
      · exact ih (n / 10) (by omega) c hc
      · have : c = Nat.digitChar (n % 10) := by simpa using hc
        subst this
        exact digitChar_small _ (Nat.mod_lt _ (by decide))
theorem td8_nat (n : Nat) : (td8 n).map (fun c => c.toNat) = (Nat.toDigits 10 n).map Char.toNat := by
  unfold td8
  rw [List.map_map]
  apply List.map_congr_left
  intro c hc
  exact (toDigits_small n n (Nat.le_refl _) c hc).1
theorem repr_cps (n : Nat) : (Nat.repr n).toList = Nat.toDigits 10 n := by
  unfold Nat.repr
  exact String.toList_ofList
theorem str_int {i : Int} (h : 0 ≤ i) : Str.ofString (ToString.toString i) = so (td8 i.toNat) := by
  refine str_ext ?_
  rw [Str.ofString_eq_toList, so_cps, td8_nat]
  show (ToString.toString i).toList.map Char.toNat = _
  have e : ToString.toString i = Nat.repr i.toNat := by
    obtain ⟨n, rfl⟩ : ∃ n : Nat, i = (n : Int) := ⟨i.toNat, by omega⟩
    rfl
  rw [e, repr_cps]
theorem str1 {i : Int} (h : 0 ≤ i) : Str.ofString (ToString.toString i) = so (digits 1 i.toNat) := by
  rw [str_int h, digits_is]
  have := td8_pos i.toNat
  have e : 1 - (td8 i.toNat).length = 0 := by omega
  rw [e]
  rfl
theorem head_digit (n : Nat) : ∃ c r, td8 n = c :: r ∧ 48 ≤ c.toNat ∧ c.toNat ≤ 57 := by
  cases e : td8 n with
  | nil => have := td8_pos n; rw [e] at this; exact absurd this (by decide)
  | cons c r =>
    refine ⟨c, r, rfl, ?_⟩
    have hc : c ∈ td8 n := by rw [e]; exact List.mem_cons_self
    unfold td8 at hc
    obtain ⟨x, hx, rfl⟩ := List.mem_map.mp hc
    have := toDigits_small n n (Nat.le_refl _) x hx
    omega
theorem zf {i w : Int} (h : 0 ≤ i) (hw : 0 ≤ w) : Txt.zfill (Str.ofString (ToString.toString i)) w = so (digits w.toNat i.toNat) := by
  rw [str_int h]
  unfold Txt.zfill
  rw [so_len, digits_is]
  by_cases c : w ≤ (td8 i.toNat).length
  · rw [if_pos c]
    have e : w.toNat - (td8 i.toNat).length = 0 := by omega
    rw [e]
    rfl
  · rw [if_neg c]
    unfold zfilled
    obtain ⟨x, r, e, h1, h2⟩ := head_digit i.toNat
    have g : (so (td8 i.toNat)).cps[0]? = some x.toNat := by
      rw [e]
      rfl
    rw [g]
    have last : Builtin.Str.padded (so (td8 i.toNat)) (w.toNat - (td8 i.toNat).length) 0 48 = so (List.replicate (w.toNat - (td8 i.toNat).length) 48 ++ td8 i.toNat) := by
      refine str_ext ?_
      rw [so_cps]
      unfold Builtin.Str.padded
      simp only [Array.toList_append, Array.toList_replicate, List.map_append, List.map_replicate, List.replicate_zero, List.append_nil]
      rfl
    split
    · rename_i q; have := Option.some.inj q; omega
    · rename_i q; have := Option.some.inj q; omega
    · exact last
theorem digits_len {w n k : Nat} (h : n < 10 ^ k) (hk : 1 ≤ k) (hw : w ≤ k) : (digits w n).length ≤ k := by
  rw [digits_is, List.length_append, List.length_replicate]
  have : (td8 n).length ≤ k := by
    unfold td8
    rw [List.length_map]
    exact (Nat.length_toDigits_le_iff (b := 10) (n := n) (k := k) (by decide) (by omega)).mpr h
  omega
theorem log_ok {i : Int} (h : i.natAbs < 1000000000000000000) : i.natAbs.log2 < 1920 := by
  by_cases z : i.natAbs = 0
  · rw [z]; decide
  · refine Nat.lt_of_lt_of_le ((Nat.log2_lt z).mpr (show i.natAbs < 2 ^ 60 from ?_)) (by decide)
    exact Nat.lt_trans h (by decide)
theorem len_zf {i w : Int} (h : 0 ≤ i) (h2 : i < 1000000000000000000) (hw : 0 ≤ w) (hw2 : w ≤ 18) : (Txt.zfill (Str.ofString (ToString.toString i)) w).length ≤ 18 := by
  rw [zf h hw, so_len]
  exact digits_len (k := 18) (by omega) (by decide) (by omega)
theorem len_str {i : Int} (h : 0 ≤ i) (h2 : i < 1000000000000000000) : (Str.ofString (ToString.toString i)).length ≤ 18 := by
  rw [str1 h, so_len]
  exact digits_len (k := 18) (by omega) (by decide) (by omega)
/-- a year's text -/
def yrS (y : Int) : Str := so (yearText y)
theorem yrS_plain {y : Int} (h0 : 0 ≤ y) (h1 : y ≤ 9999) : Txt.zfill (Str.ofString (ToString.toString y)) 4 = yrS y := by
  unfold yrS yearText
  rw [if_pos ⟨h0, h1⟩, zf h0 (by decide)]
  rfl
theorem yrS_minus {y : Int} (h : y < 0) : Str.ofString "-" ++ Txt.zfill (Str.ofString (ToString.toString (if y < 0 then -y else y))) 6 = yrS y := by
  unfold yrS yearText
  rw [if_pos h, if_neg (by omega), if_pos h, lit_dash, zf (by omega) (by decide), so_app]
  have e : (-y).toNat = y.natAbs := by omega
  rw [e]
  rfl
theorem yrS_plus {y : Int} (h : ¬ y < 0) (g : ¬ (0 ≤ y ∧ y ≤ 9999)) : Str.ofString "+" ++ Txt.zfill (Str.ofString (ToString.toString (if y < 0 then -y else y))) 6 = yrS y := by
  unfold yrS yearText
  rw [if_neg h, if_neg g, if_neg h, lit_plus, zf (by omega) (by decide), so_app]
  have e : y.toNat = y.natAbs := by omega
  rw [e]
  rfl
theorem len_yr {y : Int} (h : -1000000000000000000 < y) (g : y < 1000000000000000000) : (yrS y).length ≤ 19 := by
  unfold yrS yearText
  rw [so_len]
  split
  · have := digits_len (w := 4) (n := y.toNat) (k := 18) (by omega) (by decide) (by decide)
    omega
  · rw [List.length_cons]
    have := digits_len (w := 6) (n := y.natAbs) (k := 18) (by omega) (by decide) (by decide)
    omega
/-- a day's text -/
def txS (s d : Int) : Str := so (textOf s.toNat d)
def Tx (s d : Int) : Prop := (0 ≤ s ∧ s ≤ 2) ∧ (-700000000000 ≤ d ∧ d ≤ 700000000000)
/-- what a day's date is within -/
theorem date_in {k d : Int} (hk : k = 0 ∨ k = 7) (h : -700000000000 ≤ d ∧ d ≤ 700000000000) :
    (dateA k d).length = 4 ∧ (-2000000000 ≤ (dateA k d).getD (1 : Int).toNat 0 ∧ (dateA k d).getD (1 : Int).toNat 0 ≤ 2000000000) ∧ (1 ≤ (dateA k d).getD (2 : Int).toNat 0 ∧ (dateA k d).getD (2 : Int).toNat 0 ≤ 53) ∧ (1 ≤ (dateA k d).getD (3 : Int).toNat 0 ∧ (dateA k d).getD (3 : Int).toNat 0 ≤ 31) ∧
    (dateA k d).getD (1 : Int).toNat 0 = (dateOf k.toNat d).year ∧ (dateA k d).getD (2 : Int).toNat 0 = (dateOf k.toNat d).month ∧ (dateA k d).getD (3 : Int).toNat 0 = (dateOf k.toNat d).day := by
  have e := dateA_is k d
  have k7 : 0 ≤ k ∧ k ≤ 7 := by omega
  rw [if_pos ⟨k7, h⟩] at e
  have k8 : k.toNat < 8 := by omega
  obtain ⟨v, dd⟩ := dayOf_dateOf k8 d
  obtain ⟨m1, n, en, d1, d2⟩ := (valid_iff _ _).mp v
  have hn := (full k.toNat k8 (dateOf k.toNat d).year).most n (List.mem_of_getElem? en)
  have hl := (full k.toNat k8 (dateOf k.toNat d).year).many
  have hi := (List.getElem?_eq_some_iff.mp en).1
  have yi := dayOf_in k8 v
  rw [dd] at yi
  obtain ⟨y1, y2⟩ := yi
  have nr := near k.toNat (dateOf k.toNat d).year
  have nr2 := near k.toNat ((dateOf k.toNat d).year + 1)
  have z0 : -400 ≤ newYear k.toNat 0 ∧ newYear k.toNat 0 ≤ 400 := by
    rcases hk with e | e <;> subst e <;> decide
  have hm : mean k.toNat = (146097, 400) := by
    rcases hk with e | e <;> subst e <;> rfl
  rw [hm] at nr nr2
  dsimp only at nr nr2
  rw [e]
  show (4 = 4) ∧ (-2000000000 ≤ (dateOf k.toNat d).year ∧ (dateOf k.toNat d).year ≤ 2000000000) ∧ (1 ≤ (dateOf k.toNat d).month ∧ (dateOf k.toNat d).month ≤ 53) ∧ (1 ≤ (dateOf k.toNat d).day ∧ (dateOf k.toNat d).day ≤ 31) ∧ _
  refine ⟨rfl, ⟨by omega, by omega⟩, ⟨by omega, by omega⟩, ⟨by omega, by omega⟩, rfl, rfl, rfl⟩
theorem txS0 {d : Int} (h : -700000000000 ≤ d ∧ d ≤ 700000000000) :
    yrS ((dateA 0 d).getD (1 : Int).toNat 0) ++ Str.ofString "-" ++ Txt.zfill (Str.ofString (ToString.toString ((dateA 0 d).getD (2 : Int).toNat 0))) 2 ++ Str.ofString "-" ++ Txt.zfill (Str.ofString (ToString.toString ((dateA 0 d).getD (3 : Int).toNat 0))) 2 = txS 0 d := by
  obtain ⟨_, _, a, b, e1, e2, e3⟩ := date_in (.inl rfl) h
  rw [zf (by omega) (by decide), zf (by omega) (by decide), e1, e2, e3, lit_dash]
  unfold yrS txS textOf
  rw [so_app, so_app, so_app, so_app, if_pos (show Int.toNat 0 = 0 from rfl)]
  simp only [List.append_assoc, List.cons_append, List.nil_append]
  rfl
theorem txS2 {d : Int} (h : -700000000000 ≤ d ∧ d ≤ 700000000000) :
    yrS ((dateA 7 d).getD (1 : Int).toNat 0) ++ Str.ofString "-W" ++ Txt.zfill (Str.ofString (ToString.toString ((dateA 7 d).getD (2 : Int).toNat 0))) 2 ++ Str.ofString "-" ++ Str.ofString (ToString.toString ((dateA 7 d).getD (3 : Int).toNat 0)) = txS 2 d := by
  obtain ⟨_, _, a, b, e1, e2, e3⟩ := date_in (.inr rfl) h
  rw [zf (by omega) (by decide), str1 (by omega), e1, e2, e3, lit_dash, lit_week]
  unfold yrS txS textOf
  rw [so_app, so_app, so_app, so_app, if_neg (by decide), if_neg (by decide)]
  simp only [List.append_assoc, List.cons_append, List.nil_append]
  rfl
theorem day_no {d : Int} (h : -700000000000 ≤ d ∧ d ≤ 700000000000) : 1 ≤ d - ys 0 ((dateA 0 d).getD (1 : Int).toNat 0) + 1 ∧ d - ys 0 ((dateA 0 d).getD (1 : Int).toNat 0) + 1 ≤ 400 := by
  obtain ⟨_, _, a, b, e1, e2, e3⟩ := date_in (k := 0) (.inl rfl) h
  rw [e1]
  have q : (dateOf (Int.toNat 0) d).year = yof 0 d := (yof_kind d (by decide) (by decide)).symm
  rw [q]
  have := yof_is 0 d
  have := ys_fact 0 (yof 0 d)
  omega
theorem txS1 {d : Int} (h : -700000000000 ≤ d ∧ d ≤ 700000000000) :
    yrS ((dateA 0 d).getD (1 : Int).toNat 0) ++ Str.ofString "-" ++ Txt.zfill (Str.ofString (ToString.toString (d - ys 0 ((dateA 0 d).getD (1 : Int).toNat 0) + 1))) 3 = txS 1 d := by
  obtain ⟨_, _, a, b, e1, e2, e3⟩ := date_in (k := 0) (.inl rfl) h
  have n := day_no h
  rw [zf (by omega) (by decide), lit_dash, e1]
  unfold yrS txS textOf
  rw [so_app, so_app, if_neg (by decide), if_pos (show Int.toNat 1 = 1 from rfl)]
  simp only [List.append_assoc, List.cons_append, List.nil_append]
  rfl
theorem len_tx {s d : Int} (h : Tx s d) : (txS s d).length ≤ 100 := by
  obtain ⟨h0, h1⟩ := h
  have n := day_no h1
  obtain ⟨_, y0, m0, d0, _⟩ := date_in (k := 0) (.inl rfl) h1
  obtain ⟨_, y7, m7, d7, _⟩ := date_in (k := 7) (.inr rfl) h1
  have l1 : (Str.ofString "-").length ≤ 1 := by decide +kernel
  have l2 : (Str.ofString "-W").length ≤ 2 := by decide +kernel
  have : s = 0 ∨ s = 1 ∨ s = 2 := by omega
  rcases this with e | e | e <;> subst e
  · rw [← txS0 h1]
    have := len_app (len_app (len_app (len_app (len_yr (y := (dateA 0 d).getD (1 : Int).toNat 0) (by omega) (by omega)) l1) (len_zf (i := (dateA 0 d).getD (2 : Int).toNat 0) (w := 2) (by omega) (by omega) (by decide) (by decide))) l1) (len_zf (i := (dateA 0 d).getD (3 : Int).toNat 0) (w := 2) (by omega) (by omega) (by decide) (by decide))
    omega
  · rw [← txS1 h1]
    have := len_app (len_app (len_yr (y := (dateA 0 d).getD (1 : Int).toNat 0) (by omega) (by omega)) l1) (len_zf (i := d - ys 0 ((dateA 0 d).getD (1 : Int).toNat 0) + 1) (w := 3) (by omega) (by omega) (by decide) (by decide))
    omega
  · rw [← txS2 h1]
    have := len_app (len_app (len_app (len_app (len_yr (y := (dateA 7 d).getD (1 : Int).toNat 0) (by omega) (by omega)) l2) (len_zf (i := (dateA 7 d).getD (2 : Int).toNat 0) (w := 2) (by omega) (by omega) (by decide) (by decide))) l1) (len_str (i := (dateA 7 d).getD (3 : Int).toNat 0) (by omega) (by omega))
    omega
/-- the codes of a text -/
def ords (z : Str) : List Int := z.cps.toList.map fun c : Nat => (c : Int)
theorem ords_len (z : Str) : (ords z).length = z.length := by
  unfold ords
  rw [List.length_map]
  rfl
def teA (s d : Int) : List Int := told (does (.tell s d))
theorem teA_is (s d : Int) : teA s d = if (0 ≤ s ∧ s ≤ 2) ∧ (-700000000000 ≤ d ∧ d ≤ 700000000000) then ((txS s d).length : Int) :: ords (txS s d) else [-1] := by
  unfold teA
  show told (if 0 ≤ s ∧ s ≤ 2 ∧ dayOk d = true then _ else _) = _
  have e : dayOk d = true ↔ (-700000000000 ≤ d ∧ d ≤ 700000000000) := by
    unfold dayOk MOST
    simp only [Bool.and_eq_true, decide_eq_true_eq]
  by_cases h : 0 ≤ s ∧ s ≤ 2 ∧ dayOk d = true
  · rw [if_pos h, if_pos ⟨⟨h.1, h.2.1⟩, e.mp h.2.2⟩]
    show ((textOf s.toNat d).length : Int) :: (textOf s.toNat d).map (fun c => (c.toNat : Int)) = _
    unfold ords txS
    rw [so_len, so_cps, List.map_map]
    rfl
  · rw [if_neg h, if_neg (fun g => h ⟨g.1.1, g.1.2, e.mpr g.2⟩)]
    rfl
theorem teA_out {s d : Int} (h : s < 0 ∨ 2 < s ∨ ¬ isd d = true) : [-1] = teA s d := by
  rw [teA_is, if_neg]
  rw [isd_iff] at h
  omega
theorem teA_some {s d : Int} (h0 : ¬ s < 0) (h1 : ¬ 2 < s) (h2 : isd d = true) : [((txS s d).length : Int)] ++ ords (txS s d) = teA s d := by
  rw [isd_iff] at h2
  rw [teA_is, if_pos ⟨⟨by omega, by omega⟩, h2⟩]
  rfl
end Cal

end

section
namespace Cal
open Kg24 PySem
/-- a list of codes as a form has it: 57 for any digit -/
def fitC : List Nat → List Int → Bool
  | [], [] => true
  | c :: cs, x :: xs => (if c = 57 then decide (48 ≤ x ∧ x ≤ 57) else decide (x = (c : Int))) && fitC cs xs
  | _, _ => false
theorem fitC_len : ∀ {f : List Nat} {p : List Int}, fitC f p = true → p.length = f.length
  | [], [], _ => rfl
  | _ :: cs, _ :: xs, h => by
    simp only [fitC, Bool.and_eq_true] at h
    rw [List.length_cons, List.length_cons, fitC_len h.2]
  | [], _ :: _, h => by simp [fitC] at h
  | _ :: _, [], h => by simp [fitC] at h
theorem fitC_snoc : ∀ {f : List Nat} {p : List Int} {c : Nat} {x : Int}, fitC f p = true → ((if c = 57 then decide (48 ≤ x ∧ x ≤ 57) else decide (x = (c : Int))) = true) → fitC (f ++ [c]) (p ++ [x]) = true
  | [], [], _, _, _, h => by simpa [fitC] using h
  | _ :: cs, _ :: xs, _, _, g, h => by
    simp only [fitC, Bool.and_eq_true, List.cons_append] at g ⊢
    exact ⟨g.1, fitC_snoc g.2 h⟩
  | [], _ :: _, _, _, g, _ => by simp [fitC] at g
  | _ :: _, [], _, _, g, _ => by simp [fitC] at g
theorem fitC_get : ∀ {f : List Nat} {p : List Int} {i : Nat} {c : Nat} {x : Int}, fitC f p = true → f[i]? = some c → p[i]? = some x → (if c = 57 then decide (48 ≤ x ∧ x ≤ 57) else decide (x = (c : Int))) = true
  | [], [], _, _, _, _, e, _ => by simp at e
  | _ :: cs, _ :: xs, 0, _, _, g, e, e' => by
    simp only [fitC, Bool.and_eq_true] at g
    simp at e e'
    subst e e'
    exact g.1
  | _ :: cs, _ :: xs, i + 1, _, _, g, e, e' => by
    simp only [fitC, Bool.and_eq_true] at g
    exact fitC_get g.2 (by simpa using e) (by simpa using e')
  | [], _ :: _, _, _, _, g, _, _ => by simp [fitC] at g
  | _ :: _, [], _, _, _, g, _, _ => by simp [fitC] at g
/-- fits -/
def fitS (f : Str) (p : List Int) : Bool := fitC f.cps.toList p
theorem fitS_short {f : Str} {p : List Int} (h : ¬ (p.length : Int) = (f.length : Int)) : false = fitS f p := by
  cases e : fitS f p with
  | false => rfl
  | true =>
    have := fitC_len e
    have q : f.cps.toList.length = f.length := rfl
    omega
theorem fitS_all {f : Str} {p : List Int} (h : p.length = f.length) (g : fitC (f.cps.toList.take f.length) (p.take f.length) = true) : true = fitS f p := by
  unfold fitS
  have e1 : f.cps.toList.take f.length = f.cps.toList := List.take_of_length_le (Nat.le_refl _)
  have e2 : p.take f.length = p := List.take_of_length_le (by omega)
  rw [e1, e2] at g
  exact g.symm
theorem fitS_turn {f : List Nat} {p : List Int} {i c : Nat} {x : Int} (h : fitC (f.take i) (p.take i) = true) (ef : f[i]? = some c) (ep : p[i]? = some x) (g : (if c = 57 then decide (48 ≤ x ∧ x ≤ 57) else decide (x = (c : Int))) = true) : fitC (f.take (i + 1)) (p.take (i + 1)) = true := by
  rw [List.take_add_one, List.take_add_one, ef, ep]
  exact fitC_snoc h g
theorem fitS_bad {f : Str} {p : List Int} {i c : Nat} {x : Int} (ef : f.cps.toList[i]? = some c) (ep : p[i]? = some x) (g : ¬ (if c = 57 then decide (48 ≤ x ∧ x ≤ 57) else decide (x = (c : Int))) = true) : false = fitS f p := by
  cases e : fitS f p with
  | false => rfl
  | true => exact absurd (fitC_get e ef ep) g
/-- number_in -/
def numI (p : List Int) : Int := p.foldl (fun n c => 10 * n + c - 48) 0
theorem numI_turn {p : List Int} {i : Nat} {x : Int} (e : p[i]? = some x) : numI (p.take (i + 1)) = 10 * numI (p.take i) + x - 48 := by
  unfold numI
  rw [List.take_add_one, e]
  simp [List.foldl_append]
theorem numI_codes (b : Bytes) (h : b.all isDigit = true) : numI (codes b) = num b := by
  unfold numI num codes
  have : ∀ (b : Bytes) (n : Nat), b.all isDigit = true → (b.map fun c => (c.toNat : Int)).foldl (fun n c => 10 * n + c - 48) (n : Int) = ((b.foldl (fun n c => 10 * n + (c.toNat - 48)) n : Nat) : Int) := by
    intro b
    induction b with
    | nil => intro n _; rfl
    | cons c b ih =>
      intro n hb
      rw [List.all_cons, Bool.and_eq_true] at hb
      rw [List.map_cons, List.foldl_cons, List.foldl_cons, ← ih _ hb.2]
      have hc := hb.1
      unfold isDigit at hc
      simp only [Bool.and_eq_true, decide_eq_true_eq] at hc
      congr 1
      omega
  exact this b 0 h
/-- slices of lists of ints -/
def yrI (p : List Int) : Option Int :=
  if fitC [57, 57, 57, 57] p = true then some (numI p)
  else if (p.length : Int) - 1 < 6 ∨ 10 < (p.length : Int) - 1 ∨ (6 < (p.length : Int) - 1 ∧ p.getD 1 0 = 48) then none
  else if fitC (43 :: List.replicate (p.length - 1) 57) p = true ∧ 9999 < numI (p.drop 1) then some (numI (p.drop 1))
  else if fitC (45 :: List.replicate (p.length - 1) 57) p = true ∧ 0 < numI (p.drop 1) then some (-numI (p.drop 1))
  else none
theorem fitC_digits : ∀ (n : Nat) (b : Bytes), fitC (List.replicate n 57) (codes b) = true ↔ b.length = n ∧ b.all isDigit = true
  | 0, [] => by simp [fitC, codes]
  | 0, _ :: _ => by simp [fitC, codes]
  | n + 1, [] => by simp [fitC, codes, List.replicate_succ]
  | n + 1, c :: b => by
    have ih := fitC_digits n b
    have e : codes (c :: b) = (c.toNat : Int) :: codes b := rfl
    rw [List.replicate_succ, e]
    simp only [fitC, if_true, Bool.and_eq_true, ih, List.length_cons, List.all_cons, decide_eq_true_eq]
    unfold isDigit
    simp only [Bool.and_eq_true, decide_eq_true_eq]
    constructor
    · rintro ⟨⟨a, b⟩, c, d⟩
      exact ⟨by omega, ⟨by omega, by omega⟩, d⟩
    · rintro ⟨a, ⟨b, c⟩, d⟩
      exact ⟨⟨by omega, by omega⟩, by omega, d⟩
theorem fitC_sign (s n : Nat) (hs : s ≠ 57) (c : UInt8) (b : Bytes) : fitC (s :: List.replicate n 57) (codes (c :: b)) = true ↔ c.toNat = s ∧ b.length = n ∧ b.all isDigit = true := by
  have e : codes (c :: b) = (c.toNat : Int) :: codes b := rfl
  rw [e]
  simp only [fitC, if_neg hs, Bool.and_eq_true, fitC_digits, decide_eq_true_eq]
  constructor
  · rintro ⟨a, b⟩
    exact ⟨by omega, b⟩
  · rintro ⟨a, b⟩
    exact ⟨by omega, b⟩
theorem codes_app (a b : Bytes) : codes (a ++ b) = codes a ++ codes b := by unfold codes; rw [List.map_append]
theorem codes_len (a : Bytes) : (codes a).length = a.length := by unfold codes; rw [List.length_map]
theorem num_pos (b : Bytes) : 0 ≤ num b := by unfold num; omega
theorem u8 {c : UInt8} {n : Nat} (h : c.toNat = n) (hn : n < 256) : c = UInt8.ofNat n := by
  apply UInt8.toNat_inj.mp
  rw [h]
  simp [Nat.mod_eq_of_lt hn]
theorem yearAt_cons (s : UInt8) (t : Bytes) : yearAt (s :: t) = (if s = 45 ∨ s = 43 then (if (t.takeWhile isDigit).length < 6 ∨ 10 < (t.takeWhile isDigit).length ∨ (6 < (t.takeWhile isDigit).length ∧ (t.takeWhile isDigit).head? = some 48) ∨ (0 ≤ (if s = 45 then -num (t.takeWhile isDigit) else num (t.takeWhile isDigit)) ∧ (if s = 45 then -num (t.takeWhile isDigit) else num (t.takeWhile isDigit)) ≤ 9999) then none else some ((if s = 45 then -num (t.takeWhile isDigit) else num (t.takeWhile isDigit)), t.drop (t.takeWhile isDigit).length))
      else if 4 ≤ (s :: t).length ∧ ((s :: t).take 4).all isDigit = true then some (num ((s :: t).take 4), (s :: t).drop 4) else none) := rfl
/-- a year that is read stands ahead -/
theorem year_back {p r : Bytes} {y : Int} (h : yrI (codes p) = some y) (hr : ∀ c ∈ r.head?, isDigit c = false) : yearAt (p ++ r) = some (y, r) := by
  unfold yrI at h
  by_cases f4 : fitC [57, 57, 57, 57] (codes p) = true
  · rw [if_pos f4] at h
    obtain ⟨hl, hd⟩ := (fitC_digits 4 p).mp f4
    rw [numI_codes p hd] at h
    match p, hl with
    | [a, b, c, d], _ =>
      have ha : isDigit a = true := (show isDigit a = true ∧ isDigit b = true ∧ isDigit c = true ∧ isDigit d = true by simpa using hd).1
      show (if a = 45 ∨ a = 43 then _ else if 4 ≤ (a :: b :: c :: d :: r).length ∧ ((a :: b :: c :: d :: r).take 4).all isDigit = true then some (num ((a :: b :: c :: d :: r).take 4), (a :: b :: c :: d :: r).drop 4) else none) = _
      rw [if_neg, if_pos]
      · cases h; rfl
      · refine ⟨by simp, ?_⟩
        exact hd
      · rintro (e | e) <;> subst e <;> revert ha <;> decide
  · rw [if_neg f4] at h
    split at h
    · cases h
    · rename_i hc
      rw [codes_len] at hc h
      match p with
      | [] => simp at hc
      | s :: w =>
        have ed : (codes (s :: w)).drop 1 = codes w := rfl
        have el : (s :: w).length - 1 = w.length := by simp
        rw [ed, el] at h
        simp only [List.length_cons] at hc
        have key : ∀ (hd : w.all isDigit = true), (w ++ r).takeWhile isDigit = w := by
          intro hd
          rw [List.takeWhile_append_of_pos (by simpa using hd)]
          cases r with
          | nil => simp
          | cons c r =>
            have : isDigit c = false := hr c (by simp)
            rw [List.takeWhile_cons, this]
            simp
        have h48 : ¬ (6 < w.length ∧ w.head? = some 48) := by
          rintro ⟨a, b⟩
          apply hc
          refine .inr (.inr ⟨by omega, ?_⟩)
          cases w with
          | nil => simp at b
          | cons c w =>
            simp at b
            subst b
            rfl
        by_cases hp : fitC (43 :: List.replicate w.length 57) (codes (s :: w)) = true ∧ 9999 < numI (codes w)
        · rw [if_pos hp] at h
          obtain ⟨h0, h4⟩ := hp
          obtain ⟨h1, _, h3⟩ := (fitC_sign 43 _ (by decide) s w).mp h0
          have hs : s = 43 := u8 h1 (by decide)
          subst hs
          rw [numI_codes w h3] at h h4
          rw [List.cons_append, yearAt_cons]
          rw [key h3, if_pos (.inr rfl), if_neg (show ¬ (43 : UInt8) = 45 by decide), if_neg, List.drop_left]
          · cases h; rfl
          · rintro (a | a | a | a)
            · omega
            · omega
            · exact h48 a
            · omega
        · rw [if_neg hp] at h
          by_cases hm : fitC (45 :: List.replicate w.length 57) (codes (s :: w)) = true ∧ 0 < numI (codes w)
          · rw [if_pos hm] at h
            obtain ⟨h0, h4⟩ := hm
            obtain ⟨h1, _, h3⟩ := (fitC_sign 45 _ (by decide) s w).mp h0
            have hs : s = 45 := u8 h1 (by decide)
            subst hs
            rw [numI_codes w h3] at h h4
            rw [List.cons_append, yearAt_cons]
            rw [key h3, if_pos (.inl rfl), if_pos rfl, if_neg, List.drop_left]
            · cases h; rfl
            · rintro (a | a | a | a)
              · omega
              · omega
              · exact h48 a
              · omega
          · rw [if_neg hm] at h
            cases h
/-- what stands ahead is a year that is read -/
theorem year_forth {b r : Bytes} {y : Int} (h : yearAt b = some (y, r)) : ∃ p, b = p ++ r ∧ yrI (codes p) = some y := by
  match b with
  | [] => simp [yearAt] at h
  | s :: t =>
    rw [yearAt_cons] at h
    by_cases hs : s = 45 ∨ s = 43
    · rw [if_pos hs] at h
      generalize hw : t.takeWhile isDigit = w at h
      have hd : w.all isDigit = true := by
        rw [← hw, List.all_eq_true]
        intro x hx
        exact List.all_eq_true.mp (List.all_takeWhile) x hx
      have ht : t = w ++ t.drop w.length := by
        rw [← hw]
        conv => lhs; rw [← List.takeWhile_append_dropWhile (p := isDigit) (l := t)]
        congr 1
        conv => rhs; arg 2; rw [← List.takeWhile_append_dropWhile (p := isDigit) (l := t)]
        rw [List.drop_left]
      generalize hy : (if s = 45 then -num w else num w) = y' at h
      by_cases hc : w.length < 6 ∨ 10 < w.length ∨ (6 < w.length ∧ w.head? = some 48) ∨ (0 ≤ y' ∧ y' ≤ 9999)
      · rw [if_pos hc] at h
        cases h
      · rw [if_neg hc] at h
        cases h
        refine ⟨s :: w, by rw [List.cons_append, ← ht], ?_⟩
        have f4 : ¬ fitC [57, 57, 57, 57] (codes (s :: w)) = true := by
          intro f
          have := ((fitC_digits 4 (s :: w)).mp f).2
          rw [List.all_cons, Bool.and_eq_true] at this
          rcases hs with e | e <;> subst e <;> exact absurd this.1 (by decide)
        have hg : ¬ ((((codes (s :: w)).length : Nat) : Int) - 1 < 6 ∨ 10 < (((codes (s :: w)).length : Nat) : Int) - 1 ∨ (6 < (((codes (s :: w)).length : Nat) : Int) - 1 ∧ (codes (s :: w)).getD 1 0 = 48)) := by
          rw [codes_len, List.length_cons]
          rintro (a | a | ⟨a, a'⟩)
          · exact hc (.inl (by omega))
          · exact hc (.inr (.inl (by omega)))
          · refine hc (.inr (.inr (.inl ⟨by omega, ?_⟩)))
            cases w with
            | nil => simp at a
            | cons c w =>
              have : (c.toNat : Int) = 48 := a'
              have : c = 48 := u8 (n := 48) (by omega) (by decide)
              rw [this]
              rfl
        have ed : (codes (s :: w)).drop 1 = codes w := rfl
        have el : (codes (s :: w)).length - 1 = w.length := by rw [codes_len]; simp
        unfold yrI
        rw [if_neg f4, if_neg hg, ed, el, numI_codes w hd]
        rcases hs with e | e
        · subst e
          have n1 : ¬ (fitC (43 :: List.replicate w.length 57) (codes (45 :: w)) = true ∧ 9999 < num w) := by
            rw [fitC_sign 43 _ (by decide)]
            rintro ⟨⟨a, _⟩, _⟩
            exact absurd a (by decide)
          have hn := num_pos w
          rw [if_pos rfl] at hy
          subst hy
          rw [if_neg n1, if_pos]
          refine ⟨(fitC_sign 45 _ (by decide) 45 w).mpr ⟨rfl, rfl, hd⟩, ?_⟩
          rcases Int.lt_or_eq_of_le hn with g | g
          · exact g
          · exfalso
            apply hc
            rw [← g]
            exact .inr (.inr (.inr ⟨by decide, by decide⟩))
        · subst e
          rw [if_neg (show ¬ (43 : UInt8) = 45 by decide)] at hy
          subst hy
          rw [if_pos]
          refine ⟨(fitC_sign 43 _ (by decide) 43 w).mpr ⟨rfl, rfl, hd⟩, ?_⟩
          have hn := num_pos w
          by_cases g : 9999 < num w
          · exact g
          · exact absurd (.inr (.inr (.inr ⟨hn, by omega⟩))) hc
    · rw [if_neg hs] at h
      split at h
      · rename_i hc
        cases h
        refine ⟨(s :: t).take 4, (List.take_append_drop 4 (s :: t)).symm, ?_⟩
        unfold yrI
        rw [if_pos (show fitC [57, 57, 57, 57] (codes ((s :: t).take 4)) = true from (fitC_digits 4 _).mpr ⟨by rw [List.length_take]; omega, hc.2⟩), numI_codes _ hc.2]
      · cases h
end Cal

end

section
namespace Cal
open Kg24 PySem
def frm : Nat → Str
  | 0 => Str.ofString "-99-99"
  | 1 => Str.ofString "-999"
  | _ => Str.ofString "-W99-9"
theorem frm0 : (frm 0).cps.toList = [45, 57, 57, 45, 57, 57] := by decide +kernel
theorem frm1 : (frm 1).cps.toList = [45, 57, 57, 57] := by decide +kernel
theorem frm2 : (frm 2).cps.toList = [45, 87, 57, 57, 45, 57] := by decide +kernel
/-- day_in -/
def dyI (style y : Int) (part : List Int) : Option Int :=
  if style = 0 then dayO 0 y (numI ((part.take 3).drop 1)) (numI (part.drop 4))
  else if style = 2 then dayO 7 y (numI ((part.take 4).drop 2)) (numI (part.drop 5))
  else if yof 0 (ys 0 y + numI (part.drop 1) - 1) = y then some (ys 0 y + numI (part.drop 1) - 1) else none
/-- a form tried -/
def att (i : Nat) (xs : List Int) : Option Int :=
  if fitS (frm i) (xs.drop (xs.length - (frm i).length)) = true then (yrI (xs.take (xs.length - (frm i).length))).bind fun y => dyI i y (xs.drop (xs.length - (frm i).length)) else none
/-- what stands behind the year, as the document has it -/
def dayF (y : Int) (r : Bytes) : Option Int := match r with
  | [45, a, b, 45, c, d] => if [a, b, c, d].all isDigit = true ∧ valid 0 ⟨y, num [a, b], num [c, d]⟩ = true then some (dayOf 0 ⟨y, num [a, b], num [c, d]⟩) else none
  | [45, a, b, c] => if [a, b, c].all isDigit = true ∧ 1 ≤ num [a, b, c] ∧ num [a, b, c] ≤ Kg24.length 0 y then some (newYear 0 y + num [a, b, c] - 1) else none
  | [45, x, a, b, 45, c] => if x = 87 ∧ [a, b, c].all isDigit = true ∧ valid 7 ⟨y, num [a, b], num [c]⟩ = true then some (dayOf 7 ⟨y, num [a, b], num [c]⟩) else none
  | _ => none
theorem dayIn_is (b : Bytes) : dayIn b = (yearAt b).bind fun x => dayF x.1 x.2 := rfl
theorem num2 {a b : UInt8} (ha : isDigit a = true) (hb : isDigit b = true) : numI [(a.toNat : Int), (b.toNat : Int)] = num [a, b] := numI_codes [a, b] (by simp [ha, hb])
theorem num1 {a : UInt8} (ha : isDigit a = true) : numI [(a.toNat : Int)] = num [a] := numI_codes [a] (by simp [ha])
theorem num3 {a b c : UInt8} (ha : isDigit a = true) (hb : isDigit b = true) (hc : isDigit c = true) : numI [(a.toNat : Int), (b.toNat : Int), (c.toNat : Int)] = num [a, b, c] := numI_codes [a, b, c] (by simp [ha, hb, hc])
theorem dig {x : UInt8} : decide (48 ≤ (x.toNat : Int) ∧ (x.toNat : Int) ≤ 57) = true ↔ isDigit x = true := by
  unfold isDigit
  simp only [Bool.and_eq_true, decide_eq_true_eq]
  omega
theorem eq8 {x : UInt8} {n : Nat} (hn : n < 256) : decide ((x.toNat : Int) = (n : Int)) = true ↔ x = UInt8.ofNat n := by
  rw [decide_eq_true_eq]
  constructor
  · intro h
    exact u8 (by omega) hn
  · intro h
    rw [h]
    simp [Nat.mod_eq_of_lt hn]
theorem isForm0 {r : Bytes} : fitC [45, 57, 57, 45, 57, 57] (codes r) = true ↔ ∃ a b c d, r = [45, a, b, 45, c, d] ∧ isDigit a = true ∧ isDigit b = true ∧ isDigit c = true ∧ isDigit d = true := by
  constructor
  · intro h
    have hl := fitC_len h
    rw [codes_len] at hl
    match r, hl with
    | [x0, x1, x2, x3, x4, x5], _ =>
      have e : codes [x0, x1, x2, x3, x4, x5] = [(x0.toNat : Int), (x1.toNat : Int), (x2.toNat : Int), (x3.toNat : Int), (x4.toNat : Int), (x5.toNat : Int)] := rfl
      rw [e] at h
      simp only [fitC, if_true, show ¬ (45 : Nat) = 57 by decide, if_false, Bool.and_eq_true, dig, Bool.and_true] at h
      obtain ⟨h0, h1, h2, h3, h4, h5⟩ := h
      have e0 := (eq8 (n := 45) (by decide)).mp h0
      have e3 := (eq8 (n := 45) (by decide)).mp h3
      subst e0 e3
      exact ⟨x1, x2, x4, x5, rfl, h1, h2, h4, h5⟩
  · rintro ⟨a, b, c, d, rfl, h1, h2, h3, h4⟩
    have e : codes [45, a, b, 45, c, d] = [(45 : Int), (a.toNat : Int), (b.toNat : Int), (45 : Int), (c.toNat : Int), (d.toNat : Int)] := rfl
    rw [e]
    simp only [fitC, if_true, show ¬ (45 : Nat) = 57 by decide, if_false, Bool.and_eq_true, dig, h1, h2, h3, h4, and_true]
    decide
theorem isForm1 {r : Bytes} : fitC [45, 57, 57, 57] (codes r) = true ↔ ∃ a b c, r = [45, a, b, c] ∧ isDigit a = true ∧ isDigit b = true ∧ isDigit c = true := by
  constructor
  · intro h
    have hl := fitC_len h
    rw [codes_len] at hl
    match r, hl with
    | [x0, x1, x2, x3], _ =>
      have e : codes [x0, x1, x2, x3] = [(x0.toNat : Int), (x1.toNat : Int), (x2.toNat : Int), (x3.toNat : Int)] := rfl
      rw [e] at h
      simp only [fitC, if_true, show ¬ (45 : Nat) = 57 by decide, if_false, Bool.and_eq_true, dig, Bool.and_true] at h
      obtain ⟨h0, h1, h2, h3⟩ := h
      have e0 := (eq8 (n := 45) (by decide)).mp h0
      subst e0
      exact ⟨x1, x2, x3, rfl, h1, h2, h3⟩
  · rintro ⟨a, b, c, rfl, h1, h2, h3⟩
    have e : codes [45, a, b, c] = [(45 : Int), (a.toNat : Int), (b.toNat : Int), (c.toNat : Int)] := rfl
    rw [e]
    simp only [fitC, if_true, show ¬ (45 : Nat) = 57 by decide, if_false, Bool.and_eq_true, dig, h1, h2, h3, and_true]
    decide
theorem isForm2 {r : Bytes} : fitC [45, 87, 57, 57, 45, 57] (codes r) = true ↔ ∃ a b c, r = [45, 87, a, b, 45, c] ∧ isDigit a = true ∧ isDigit b = true ∧ isDigit c = true := by
  constructor
  · intro h
    have hl := fitC_len h
    rw [codes_len] at hl
    match r, hl with
    | [x0, x1, x2, x3, x4, x5], _ =>
      have e : codes [x0, x1, x2, x3, x4, x5] = [(x0.toNat : Int), (x1.toNat : Int), (x2.toNat : Int), (x3.toNat : Int), (x4.toNat : Int), (x5.toNat : Int)] := rfl
      rw [e] at h
      simp only [fitC, if_true, show ¬ (45 : Nat) = 57 by decide, show ¬ (87 : Nat) = 57 by decide, if_false, Bool.and_eq_true, dig, Bool.and_true] at h
      obtain ⟨h0, h1, h2, h3, h4, h5⟩ := h
      have e0 := (eq8 (n := 45) (by decide)).mp h0
      have e1 := (eq8 (n := 87) (by decide)).mp h1
      have e4 := (eq8 (n := 45) (by decide)).mp h4
      subst e0 e1 e4
      exact ⟨x2, x3, x5, rfl, h2, h3, h5⟩
  · rintro ⟨a, b, c, rfl, h1, h2, h3⟩
    have e : codes [45, 87, a, b, 45, c] = [(45 : Int), (87 : Int), (a.toNat : Int), (b.toNat : Int), (45 : Int), (c.toNat : Int)] := rfl
    rw [e]
    simp only [fitC, if_true, show ¬ (45 : Nat) = 57 by decide, show ¬ (87 : Nat) = 57 by decide, if_false, Bool.and_eq_true, dig, h1, h2, h3, and_true]
    decide
theorem dash_digit : isDigit 45 = false := by decide
theorem w_digit : isDigit 87 = false := by decide
theorem dayF0 (y : Int) {a b c d : UInt8} (h1 : isDigit a = true) (h2 : isDigit b = true) (h3 : isDigit c = true) (h4 : isDigit d = true) : dyI 0 y (codes [45, a, b, 45, c, d]) = dayF y [45, a, b, 45, c, d] := by
  unfold dyI
  rw [if_pos rfl]
  show dayO 0 y (numI [(a.toNat : Int), (b.toNat : Int)]) (numI [(c.toNat : Int), (d.toNat : Int)]) = (if [a, b, c, d].all isDigit = true ∧ valid 0 ⟨y, num [a, b], num [c, d]⟩ = true then some (dayOf 0 ⟨y, num [a, b], num [c, d]⟩) else none)
  rw [num2 h1 h2, num2 h3 h4, dayO_is (by decide) (by decide)]
  have e : [a, b, c, d].all isDigit = true := by simp [h1, h2, h3, h4]
  show (if valid 0 ⟨y, num [a, b], num [c, d]⟩ = true then some (dayOf 0 ⟨y, num [a, b], num [c, d]⟩) else none) = _
  by_cases v : valid 0 ⟨y, num [a, b], num [c, d]⟩ = true
  · rw [if_pos v, if_pos ⟨e, v⟩]
  · rw [if_neg v, if_neg (fun g => v g.2)]
theorem dayF2 (y : Int) {a b c : UInt8} (h1 : isDigit a = true) (h2 : isDigit b = true) (h3 : isDigit c = true) : dyI 2 y (codes [45, 87, a, b, 45, c]) = dayF y [45, 87, a, b, 45, c] := by
  unfold dyI
  rw [if_neg (by decide), if_pos rfl]
  have e2 : dayF y [45, 87, a, b, 45, c] = (if (87 : UInt8) = 87 ∧ [a, b, c].all isDigit = true ∧ valid 7 ⟨y, num [a, b], num [c]⟩ = true then some (dayOf 7 ⟨y, num [a, b], num [c]⟩) else none) := by
    unfold dayF
    split
    · rename_i q
      simp only [List.cons.injEq] at q
      have : b = 45 := q.2.2.2.1
      rw [this] at h2
      exact absurd h2 (by decide)
    · rename_i q
      simp at q
    · rename_i q
      simp only [List.cons.injEq] at q
      obtain ⟨_, rfl, rfl, rfl, _, rfl, _⟩ := q
      rfl
    · rename_i q
      exact absurd rfl (q 87 a b c)
  rw [e2]
  show dayO 7 y (numI [(a.toNat : Int), (b.toNat : Int)]) (numI [(c.toNat : Int)]) = _
  rw [num2 h1 h2, num1 h3, dayO_is (by decide) (by decide)]
  have e : [a, b, c].all isDigit = true := by simp [h1, h2, h3]
  show (if valid 7 ⟨y, num [a, b], num [c]⟩ = true then some (dayOf 7 ⟨y, num [a, b], num [c]⟩) else none) = _
  by_cases v : valid 7 ⟨y, num [a, b], num [c]⟩ = true
  · rw [if_pos v, if_pos ⟨rfl, e, v⟩]
  · rw [if_neg v, if_neg (fun g => v g.2.2)]
theorem dayF_4 (y : Int) (a b c : UInt8) : dayF y [45, a, b, c] = (if [a, b, c].all isDigit = true ∧ 1 ≤ num [a, b, c] ∧ num [a, b, c] ≤ Kg24.length 0 y then some (newYear 0 y + num [a, b, c] - 1) else none) := by
  unfold dayF
  split
  · rename_i q
    simp at q
  · rename_i q
    simp only [List.cons.injEq] at q
    obtain ⟨_, rfl, rfl, rfl, _⟩ := q
    rfl
  · rename_i q
    simp at q
  · rename_i q1 q2 q3
    exact absurd rfl (q2 a b c)
theorem dayF1 (y : Int) {a b c : UInt8} (h1 : isDigit a = true) (h2 : isDigit b = true) (h3 : isDigit c = true) : dyI 1 y (codes [45, a, b, c]) = dayF y [45, a, b, c] := by
  unfold dyI
  rw [if_neg (by decide), if_neg (by decide)]
  rw [dayF_4]
  show (if yof 0 (ys 0 y + numI [(a.toNat : Int), (b.toNat : Int), (c.toNat : Int)] - 1) = y then some (ys 0 y + numI [(a.toNat : Int), (b.toNat : Int), (c.toNat : Int)] - 1) else none) = _
  rw [num3 h1 h2 h3]
  have e : [a, b, c].all isDigit = true := by simp [h1, h2, h3]
  have q : ∀ z, ys 0 z = newYear 0 z := fun z => ys_kind z (by decide) (by decide)
  by_cases v : 1 ≤ num [a, b, c] ∧ num [a, b, c] ≤ Kg24.length 0 y
  · have g : yof 0 (ys 0 y + num [a, b, c] - 1) = y := by
      unfold Kg24.length at v
      refine (yof_eq ?_ ?_).symm
      · rw [q]; omega
      · rw [q, q]; omega
    rw [if_pos g, if_pos ⟨e, v⟩, q]
  · have g : ¬ yof 0 (ys 0 y + num [a, b, c] - 1) = y := by
      intro g
      have := yof_is 0 (ys 0 y + num [a, b, c] - 1)
      rw [g, q, q] at this
      apply v
      unfold Kg24.length
      omega
    rw [if_neg g, if_neg (fun g => v g.2)]
/-- what stands behind the year, of any form -/
theorem dayF_some {y d : Int} {r : Bytes} (h : dayF y r = some d) : ∃ i, i < 3 ∧ fitC (frm i).cps.toList (codes r) = true ∧ dyI i y (codes r) = some d := by
  unfold dayF at h
  split at h
  · rename_i a b c d'
    split at h
    · rename_i g
      have g1 : isDigit a = true ∧ isDigit b = true ∧ isDigit c = true ∧ isDigit d' = true := by simpa using g.1
      refine ⟨0, by decide, ?_, ?_⟩
      · rw [frm0]; exact isForm0.mpr ⟨a, b, c, d', rfl, g1⟩
      · have := dayF0 y g1.1 g1.2.1 g1.2.2.1 g1.2.2.2
        show dyI 0 y _ = _
        rw [this]
        show (if _ then _ else _) = _
        rw [if_pos g]
        exact h
    · cases h
  · rename_i a b c
    split at h
    · rename_i g
      have g1 : isDigit a = true ∧ isDigit b = true ∧ isDigit c = true := by simpa using g.1
      refine ⟨1, by decide, ?_, ?_⟩
      · rw [frm1]; exact isForm1.mpr ⟨a, b, c, rfl, g1⟩
      · have := dayF1 y g1.1 g1.2.1 g1.2.2
        show dyI 1 y _ = _
        rw [this, dayF_4, if_pos g]
        exact h
    · cases h
  · rename_i x a b c no
    split at h
    · rename_i g
      obtain ⟨gx, ga, gv⟩ := g
      subst gx
      have g1 : isDigit a = true ∧ isDigit b = true ∧ isDigit c = true := by simpa using ga
      refine ⟨2, by decide, ?_, ?_⟩
      · rw [frm2]; exact isForm2.mpr ⟨a, b, c, rfl, g1⟩
      · have := dayF2 y g1.1 g1.2.1 g1.2.2
        show dyI 2 y _ = _
        unfold dyI
        rw [if_neg (by decide), if_pos rfl]
        show dayO 7 y (numI [(a.toNat : Int), (b.toNat : Int)]) (numI [(c.toNat : Int)]) = _
        rw [num2 g1.1 g1.2.1, num1 g1.2.2, dayO_is (by decide) (by decide)]
        exact (if_pos gv).trans h
    · cases h
  · cases h
theorem frm_dash (i : Nat) : ∃ t, (frm i).cps.toList = 45 :: t := by
  match i with
  | 0 => exact ⟨_, frm0⟩
  | 1 => exact ⟨_, frm1⟩
  | i + 2 => exact ⟨_, frm2⟩
theorem fit_dyI {i : Nat} (hi : i < 3) {y : Int} {r : Bytes} (h : fitC (frm i).cps.toList (codes r) = true) : dyI i y (codes r) = dayF y r ∧ ∃ t, r = 45 :: t := by
  match i, hi with
  | 0, _ =>
    rw [frm0] at h
    obtain ⟨a, b, c, d, rfl, h1, h2, h3, h4⟩ := isForm0.mp h
    exact ⟨dayF0 y h1 h2 h3 h4, _, rfl⟩
  | 1, _ =>
    rw [frm1] at h
    obtain ⟨a, b, c, rfl, h1, h2, h3⟩ := isForm1.mp h
    exact ⟨dayF1 y h1 h2 h3, _, rfl⟩
  | 2, _ =>
    rw [frm2] at h
    obtain ⟨a, b, c, rfl, h1, h2, h3⟩ := isForm2.mp h
    exact ⟨dayF2 y h1 h2 h3, _, rfl⟩
theorem codes_drop (b : Bytes) (n : Nat) : (codes b).drop n = codes (b.drop n) := by unfold codes; rw [List.map_drop]
theorem codes_take (b : Bytes) (n : Nat) : (codes b).take n = codes (b.take n) := by unfold codes; rw [List.map_take]
theorem att_dayIn {i : Nat} (hi : i < 3) {b : Bytes} {d : Int} (h : att i (codes b) = some d) : dayIn b = some d := by
  unfold att at h
  rw [codes_drop, codes_take] at h
  by_cases f : fitS (frm i) (codes (b.drop ((codes b).length - (frm i).length))) = true
  · rw [if_pos f] at h
    generalize hn : (codes b).length - (frm i).length = n at h f
    cases e : yrI (codes (b.take n)) with
    | none => rw [e] at h; cases h
    | some y =>
      rw [e] at h
      have h : dyI i y (codes (b.drop n)) = some d := h
      obtain ⟨e2, t, ht⟩ := fit_dyI hi (y := y) f
      have ya := year_back (r := b.drop n) e (by
        rw [ht]
        intro c hc
        simp at hc
        rw [← hc]
        rfl)
      rw [List.take_append_drop] at ya
      rw [dayIn_is, ya]
      exact e2.symm.trans h
  · rw [if_neg f] at h
    cases h
theorem dayIn_att {b : Bytes} {d : Int} (h : dayIn b = some d) : ∃ i, i < 3 ∧ att i (codes b) = some d := by
  rw [dayIn_is] at h
  cases e : yearAt b with
  | none => rw [e] at h; cases h
  | some x =>
    obtain ⟨y, r⟩ := x
    rw [e] at h
    have h : dayF y r = some d := h
    obtain ⟨i, hi, hf, hd⟩ := dayF_some h
    obtain ⟨p, rfl, hp⟩ := year_forth e
    refine ⟨i, hi, ?_⟩
    have hl := fitC_len hf
    rw [codes_len] at hl
    have hl2 : (frm i).length = r.length := hl.symm
    have e1 : (codes (p ++ r)).length - (frm i).length = p.length := by
      rw [codes_len, List.length_append, hl2]
      omega
    unfold att
    rw [e1, codes_drop, codes_take, List.drop_left, List.take_left]
    have f : fitS (frm i) (codes r) = true := hf
    rw [if_pos f, hp]
    exact hd
/-- read's answer -/
def reA (xs : List Int) : List Int := told (does (.read (some (xs.map fun c => UInt8.ofNat c.toNat))))
def Byt (xs : List Int) : Prop := ∀ x ∈ xs, 0 ≤ x ∧ x ≤ 255
theorem codes_bytes {xs : List Int} (h : Byt xs) : codes (xs.map fun c => UInt8.ofNat c.toNat) = xs := by
  unfold codes
  rw [List.map_map]
  conv => rhs; rw [← List.map_id xs]
  apply List.map_congr_left
  intro x hx
  have := h x hx
  show ((UInt8.ofNat x.toNat).toNat : Int) = x
  have e : (UInt8.ofNat x.toNat).toNat = x.toNat := by
    simp
    omega
  omega
theorem reA_yes {xs : List Int} {i : Nat} {d : Int} (hb : Byt xs) (hi : i < 3) (h : att i xs = some d) (hd : isd d = true) : [0, d] = reA xs := by
  rw [isd_iff] at hd
  have e := att_dayIn hi (b := xs.map fun c => UInt8.ofNat c.toNat) (by rw [codes_bytes hb]; exact h)
  unfold reA
  show _ = told (match (some (xs.map fun c => UInt8.ofNat c.toNat)).bind dayIn with
    | some d => if dayOk d = true then ⟨0, [d]⟩ else one (-1)
    | none => one (-1))
  have e2 : (some (xs.map fun c => UInt8.ofNat c.toNat)).bind dayIn = some d := e
  rw [e2]
  show _ = told (if dayOk d = true then ⟨0, [d]⟩ else one (-1))
  rw [if_pos]
  · rfl
  · unfold dayOk MOST
    simp only [Bool.and_eq_true, decide_eq_true_eq]
    exact hd
theorem reA_no {xs : List Int} (hb : Byt xs) (h : ∀ j, j < 3 → ∀ d, att j xs = some d → ¬ isd d = true) : [-1] = reA xs := by
  unfold reA
  show _ = told (match (some (xs.map fun c => UInt8.ofNat c.toNat)).bind dayIn with
    | some d => if dayOk d = true then ⟨0, [d]⟩ else one (-1)
    | none => one (-1))
  have e2 : (some (xs.map fun c => UInt8.ofNat c.toNat)).bind dayIn = dayIn (xs.map fun c => UInt8.ofNat c.toNat) := rfl
  rw [e2]
  cases e : dayIn (xs.map fun c => UInt8.ofNat c.toNat) with
  | none => rfl
  | some d =>
    show _ = told (if dayOk d = true then ⟨0, [d]⟩ else one (-1))
    rw [if_neg]
    · rfl
    · intro g
      obtain ⟨i, hi, ha⟩ := dayIn_att e
      rw [codes_bytes hb] at ha
      apply h i hi d ha
      rw [isd_iff]
      unfold dayOk MOST at g
      simp only [Bool.and_eq_true, decide_eq_true_eq] at g
      exact g
end Cal

end

section
namespace Cal
open Kg24 PySem
/-- fits, turn by turn -/
theorem sg9 {c : Nat} : ((⟨#[c]⟩ : Str) = Str.ofString "9") ↔ c = 57 := by
  have e : Str.ofString "9" = ⟨#[57]⟩ := by decide +kernel
  rw [e]
  constructor
  · intro h
    have h : (#[c] : Array Nat) = #[57] := Str.mk.inj h
    simpa using h
  · intro h
    rw [h]
theorem ord0 : (((Str.ofString "0").cps.getD 0 0 : Nat) : Int) = 48 := by decide +kernel
theorem ord9 : (((Str.ofString "9").cps.getD 0 0 : Nat) : Int) = 57 := by decide +kernel
theorem ordc (c : Nat) : ((((⟨#[c]⟩ : Str).cps.getD 0 0 : Nat)) : Int) = c := rfl
theorem bad_lo {c : Nat} {x : Int} (h2 : (⟨#[c]⟩ : Str) = Str.ofString "9") (h3 : x < (((Str.ofString "0").cps.getD 0 0 : Nat) : Int)) : ¬ (if c = 57 then decide (48 ≤ x ∧ x ≤ 57) else decide (x = (c : Int))) = true := by
  rw [ord0] at h3
  rw [if_pos (sg9.mp h2), decide_eq_true_eq]
  omega
theorem bad_hi {c : Nat} {x : Int} (h2 : (⟨#[c]⟩ : Str) = Str.ofString "9") (h3 : (((Str.ofString "9").cps.getD 0 0 : Nat) : Int) < x) : ¬ (if c = 57 then decide (48 ≤ x ∧ x ≤ 57) else decide (x = (c : Int))) = true := by
  rw [ord9] at h3
  rw [if_pos (sg9.mp h2), decide_eq_true_eq]
  omega
theorem bad_ne {c : Nat} {x : Int} (h2 : ¬ (⟨#[c]⟩ : Str) = Str.ofString "9") (h3 : ¬ x = ((((⟨#[c]⟩ : Str).cps.getD 0 0 : Nat)) : Int)) : ¬ (if c = 57 then decide (48 ≤ x ∧ x ≤ 57) else decide (x = (c : Int))) = true := by
  rw [if_neg (fun g => h2 (sg9.mpr g)), decide_eq_true_eq]
  exact h3
theorem good_d {c : Nat} {x : Int} (h2 : (⟨#[c]⟩ : Str) = Str.ofString "9") (h3 : ¬ x < (((Str.ofString "0").cps.getD 0 0 : Nat) : Int)) (h4 : ¬ (((Str.ofString "9").cps.getD 0 0 : Nat) : Int) < x) : (if c = 57 then decide (48 ≤ x ∧ x ≤ 57) else decide (x = (c : Int))) = true := by
  rw [ord0] at h3
  rw [ord9] at h4
  rw [if_pos (sg9.mp h2), decide_eq_true_eq]
  omega
theorem good_e {c : Nat} {x : Int} (h2 : ¬ (⟨#[c]⟩ : Str) = Str.ofString "9") (h3 : x = ((((⟨#[c]⟩ : Str).cps.getD 0 0 : Nat)) : Int)) : (if c = 57 then decide (48 ≤ x ∧ x ≤ 57) else decide (x = (c : Int))) = true := by
  rw [if_neg (fun g => h2 (sg9.mpr g)), decide_eq_true_eq]
  exact h3
theorem fitS_bad2 {f : Str} {p : List Int} {i c : Nat} {x : Int} (ef : f.cps[i]? = some c) (ep : p[i]? = some x) (g : ¬ (if c = 57 then decide (48 ≤ x ∧ x ≤ 57) else decide (x = (c : Int))) = true) : false = fitS f p :=
  fitS_bad (by rw [Array.getElem?_toList]; exact ef) ep g
theorem fit_turn {f : Str} {p : List Int} {i c : Nat} {x : Int} (h : fitC (f.cps.toList.take i) (p.take i) = true) (ef : f.cps[i]? = some c) (ep : p[i]? = some x) (g : (if c = 57 then decide (48 ≤ x ∧ x ≤ 57) else decide (x = (c : Int))) = true) : fitC (f.cps.toList.take (i + 1)) (p.take (i + 1)) = true :=
  fitS_turn h (by rw [Array.getElem?_toList]; exact ef) ep g
theorem fit_end {α : Type} {L2V : Int → α} {f : Str} {p : List Int} {i : Nat} (h1 : (p.length : Int) = (f.length : Int)) (hend : i = f.cps.size ∨ (i < f.cps.size ∧ i = (p.map L2V).length)) (h : fitC (f.cps.toList.take i) (p.take i) = true) : true = fitS f p := by
  have hf : f.length = f.cps.size := rfl
  rw [List.length_map] at hend
  have e : i = f.length := by omega
  subst e
  exact fitS_all (by omega) h
/-- number_in, turn by turn -/
theorem num_turn {p : List Int} {i : Nat} {w x : Int} (h : w = numI (p.take i)) (e : p[i]? = some x) : 10 * w + x - (((Str.ofString "0").cps.getD 0 0 : Nat) : Int) = numI (p.take (i + 1)) := by
  rw [ord0, numI_turn e, h]
/-- nines -/
theorem nine_cps {n : Int} (h : 6 ≤ n) (g : n ≤ 10) : (Txt.mul (Str.ofString "9") n).cps.toList = List.replicate n.toNat 57 := by
  have : n = 6 ∨ n = 7 ∨ n = 8 ∨ n = 9 ∨ n = 10 := by omega
  rcases this with e | e | e | e | e <;> subst e <;> decide +kernel
theorem nine_ok {n : Int} (h : 6 ≤ n) (g : n ≤ 10) : MulOk (Str.ofString "9") n := by
  have : n = 6 ∨ n = 7 ∨ n = 8 ∨ n = 9 ∨ n = 10 := by omega
  have e1 : (Str.ofString "9").length = 1 := by decide +kernel
  unfold MulOk
  rw [e1]
  rcases this with e | e | e | e | e <;> subst e <;> exact ⟨by decide, fun _ _ => by decide, fun _ _ => by decide⟩
theorem nine_len {n : Int} (h : 6 ≤ n) (g : n ≤ 10) : (Txt.mul (Str.ofString "9") n).length ≤ 20 := by
  have e : (Txt.mul (Str.ofString "9") n).length = (Txt.mul (Str.ofString "9") n).cps.toList.length := rfl
  rw [e, nine_cps h g, List.length_replicate]
  omega
theorem fit4 (p : List Int) : fitS (Str.ofString "9999") p = fitC [57, 57, 57, 57] p := by
  unfold fitS
  have e : (Str.ofString "9999").cps.toList = [57, 57, 57, 57] := by decide +kernel
  rw [e]
theorem fitP (p : List Int) (h : 6 ≤ (p.length : Int) - 1) (g : (p.length : Int) - 1 ≤ 10) : fitS (Str.ofString "+" ++ Txt.mul (Str.ofString "9") ((p.length : Int) - 1)) p = fitC (43 :: List.replicate (p.length - 1) 57) p := by
  unfold fitS
  have e : (Str.ofString "+").cps.toList = [43] := by decide +kernel
  have e2 : ((p.length : Int) - 1).toNat = p.length - 1 := by omega
  rw [app_cps, nine_cps h g, e, e2]
  rfl
theorem fitM (p : List Int) (h : 6 ≤ (p.length : Int) - 1) (g : (p.length : Int) - 1 ≤ 10) : fitS (Str.ofString "-" ++ Txt.mul (Str.ofString "9") ((p.length : Int) - 1)) p = fitC (45 :: List.replicate (p.length - 1) 57) p := by
  unfold fitS
  have e : (Str.ofString "-").cps.toList = [45] := by decide +kernel
  have e2 : ((p.length : Int) - 1).toNat = p.length - 1 := by omega
  rw [app_cps, nine_cps h g, e, e2]
  rfl
theorem yr_4 {p : List Int} (h : fitS (Str.ofString "9999") p = true) : some (numI p) = yrI p := by
  rw [fit4] at h
  unfold yrI
  rw [if_pos h]
theorem yr_no {p : List Int} (h : ¬ fitS (Str.ofString "9999") p = true) (g : (p.length : Int) - 1 < 6 ∨ 10 < (p.length : Int) - 1 ∨ (6 < (p.length : Int) - 1 ∧ p.getD (1 : Int).toNat 0 = (((Str.ofString "0").cps.getD 0 0 : Nat) : Int))) : none = yrI p := by
  rw [fit4] at h
  rw [ord0] at g
  have g : (p.length : Int) - 1 < 6 ∨ 10 < (p.length : Int) - 1 ∨ (6 < (p.length : Int) - 1 ∧ p.getD 1 0 = 48) := g
  unfold yrI
  rw [if_neg h, if_pos g]
theorem yr_rest {p : List Int} (h : ¬ fitS (Str.ofString "9999") p = true) (g1 : ¬ (p.length : Int) - 1 < 6) (g2 : ¬ 10 < (p.length : Int) - 1) (g3 : ¬ 6 < (p.length : Int) - 1 ∨ ¬ p.getD (1 : Int).toNat 0 = (((Str.ofString "0").cps.getD 0 0 : Nat) : Int)) :
    yrI p = if fitS (Str.ofString "+" ++ Txt.mul (Str.ofString "9") ((p.length : Int) - 1)) p = true ∧ 9999 < numI (p.drop (1 : Int).toNat) then some (numI (p.drop (1 : Int).toNat)) else if fitS (Str.ofString "-" ++ Txt.mul (Str.ofString "9") ((p.length : Int) - 1)) p = true ∧ 0 < numI (p.drop (1 : Int).toNat) then some (-numI (p.drop (1 : Int).toNat)) else none := by
  rw [fit4] at h
  rw [ord0] at g3
  have g4 : ¬ ((p.length : Int) - 1 < 6 ∨ 10 < (p.length : Int) - 1 ∨ (6 < (p.length : Int) - 1 ∧ p.getD 1 0 = 48)) := by
    rintro (a | a | ⟨a, b⟩)
    · exact g1 a
    · exact g2 a
    · rcases g3 with q | q
      · exact q a
      · exact q b
  rw [fitP p (by omega) (by omega), fitM p (by omega) (by omega)]
  unfold yrI
  rw [if_neg h, if_neg g4]
  rfl
/-- day_in -/
theorem dyI_0 {s y : Int} {p : List Int} {o : Option Int} (h : s = 0) (e : dayO 0 y (numI ((p.take (3 : Int).toNat).drop (1 : Int).toNat)) (numI (p.drop (4 : Int).toNat)) = o) : o = dyI s y p := by
  subst h
  exact e.symm
theorem dyI_2 {s y : Int} {p : List Int} {o : Option Int} (h : ¬ s = 0) (h2 : s = 2) (e : dayO 7 y (numI ((p.take (4 : Int).toNat).drop (2 : Int).toNat)) (numI (p.drop (5 : Int).toNat)) = o) : o = dyI s y p := by
  subst h2
  exact e.symm
theorem dyI_1 {s y : Int} {p : List Int} (h : ¬ s = 0) (h2 : ¬ s = 2) (e : yof 0 (ys 0 y + numI (p.drop (1 : Int).toNat) - 1) = y) : some (ys 0 y + numI (p.drop (1 : Int).toNat) - 1) = dyI s y p := by
  unfold dyI
  rw [if_neg h, if_neg h2]
  exact (if_pos e).symm
theorem dyI_n {s y : Int} {p : List Int} (h : ¬ s = 0) (h2 : ¬ s = 2) (e : ¬ yof 0 (ys 0 y + numI (p.drop (1 : Int).toNat) - 1) = y) : none = dyI s y p := by
  unfold dyI
  rw [if_neg h, if_neg h2]
  exact (if_neg e).symm
/-- read -/
theorem forms_at {i : Nat} {f : Str} (h : ([Str.ofString "-99-99", Str.ofString "-999", Str.ofString "-W99-9"] : List Str)[i]? = some f) : f = frm i ∧ i < 3 := by
  match i with
  | 0 => exact ⟨(Option.some.inj h).symm, by decide⟩
  | 1 => exact ⟨(Option.some.inj h).symm, by decide⟩
  | 2 => exact ⟨(Option.some.inj h).symm, by decide⟩
  | i + 3 => simp at h
theorem frm_len {i : Nat} {f : Str} (h : f = frm i) : f.length ≤ 6 := by
  subst h
  match i with
  | 0 => decide +kernel
  | 1 => decide +kernel
  | i + 2 => exact (by decide +kernel : (Str.ofString "-W99-9").length ≤ 6)
theorem frm_pos {i : Nat} {f : Str} (h : f = frm i) : (0 : Int) < (f.length : Nat) := by
  obtain ⟨t, e⟩ := frm_dash i
  subst h
  have : (frm i).length = (frm i).cps.toList.length := rfl
  rw [this, e, List.length_cons]
  omega
theorem att_yes {i : Nat} {f : Str} {xs : List Int} {y d : Int} (hf : f = frm i) (h1 : fitS f (xs.drop (xs.length - ((f.length : Nat) : Int).toNat)) = true) (h2 : yrI (xs.take (xs.length - ((f.length : Nat) : Int).toNat)) = some y)
    (h3 : dyI ((i : Nat) : Int) y (xs.drop (xs.length - ((f.length : Nat) : Int).toNat)) = some d) : att i xs = some d := by
  subst hf
  rw [Int.toNat_natCast] at h1 h2 h3
  unfold att
  rw [if_pos h1, h2]
  exact h3
theorem att_n1 {i : Nat} {f : Str} {xs : List Int} (hf : f = frm i) (h1 : ¬ fitS f (xs.drop (xs.length - ((f.length : Nat) : Int).toNat)) = true) : att i xs = none := by
  subst hf
  rw [Int.toNat_natCast] at h1
  unfold att
  rw [if_neg h1]
theorem att_n2 {i : Nat} {f : Str} {xs : List Int} (hf : f = frm i) (h1 : fitS f (xs.drop (xs.length - ((f.length : Nat) : Int).toNat)) = true) (h2 : yrI (xs.take (xs.length - ((f.length : Nat) : Int).toNat)) = none) : att i xs = none := by
  subst hf
  rw [Int.toNat_natCast] at h1 h2
  unfold att
  rw [if_pos h1, h2]
  rfl
theorem att_n3 {i : Nat} {f : Str} {xs : List Int} {y : Int} (hf : f = frm i) (h1 : fitS f (xs.drop (xs.length - ((f.length : Nat) : Int).toNat)) = true) (h2 : yrI (xs.take (xs.length - ((f.length : Nat) : Int).toNat)) = some y)
    (h3 : dyI ((i : Nat) : Int) y (xs.drop (xs.length - ((f.length : Nat) : Int).toNat)) = none) : att i xs = none := by
  subst hf
  rw [Int.toNat_natCast] at h1 h2 h3
  unfold att
  rw [if_pos h1, h2]
  exact h3
theorem att_on {i : Nat} {xs : List Int} (h : ∀ j, j < i → ∀ d, att j xs = some d → ¬ isd d = true) (g : att i xs = none) : ∀ j, j < i + 1 → ∀ d, att j xs = some d → ¬ isd d = true := by
  intro j hj d hd
  by_cases e : j = i
  · subst e
    rw [g] at hd
    cases hd
  · exact h j (by omega) d hd
theorem att_off {i : Nat} {xs : List Int} {w : Int} (h : ∀ j, j < i → ∀ d, att j xs = some d → ¬ isd d = true) (g : att i xs = some w) (hw : ¬ isd w = true) : ∀ j, j < i + 1 → ∀ d, att j xs = some d → ¬ isd d = true := by
  intro j hj d hd
  by_cases e : j = i
  · subst e
    rw [g] at hd
    cases hd
    exact hw
  · exact h j (by omega) d hd
end Cal

end

set_option maxRecDepth 100000
/-! THE HAND LAYER, for ints, bools, texts, own classes, lists, tuples, dicts, comprehensions, walks over dicts, enumerate, zip, reversed, texts, calls, loops. Paste it whole ahead of your own text; what your proof does not reach may be deleted. -/
namespace L2
open PySem PySem.Spec PyProof.Rows

/-- a key: an int or a str -/
abbrev Key := Sum Int Str
def keyIs : Key → Value → Bool
  | .inl k, v => Value.isInt k v
  | .inr x, v => Value.isStrOf x v
def keyH (w : World) : Key → Int
  | .inl k => hashInt k
  | .inr x => hashStr w x
theorem keyIs_shape : ∀ {k : Key} {v : Value}, keyIs k v = true → (∃ i t, k = Sum.inl i ∧ v = Value.int i t) ∨ (∃ x t, k = Sum.inr x ∧ v = Value.str x t)
  | .inl i, v, h => by
    obtain ⟨t, e⟩ := Value.isInt_shape (k := i) (v := v) h
    exact .inl ⟨i, t, rfl, e⟩
  | .inr x, v, h => by
    obtain ⟨t, e⟩ := Value.isStrOf_shape (x := x) (v := v) h
    exact .inr ⟨x, t, rfl, e⟩
theorem key_ll (a b : Int) : decide ((Sum.inl a : Key) = Sum.inl b) = (a == b) := by
  by_cases e : a = b
  · subst e; simp
  · have h : ¬ (Sum.inl a : Key) = Sum.inl b := fun q => e (Sum.inl.inj q)
    rw [decide_eq_false h]
    exact (beq_eq_false_iff_ne.mpr e).symm
theorem key_rr (a b : Str) : decide ((Sum.inr a : Key) = Sum.inr b) = decide (a = b) := by
  by_cases e : a = b
  · subst e; simp
  · have h : ¬ (Sum.inr a : Key) = Sum.inr b := fun q => e (Sum.inr.inj q)
    rw [decide_eq_false h, decide_eq_false e]
theorem key_lr (a : Int) (b : Str) : decide ((Sum.inl a : Key) = Sum.inr b) = false := decide_eq_false (fun q => nomatch q)
theorem key_rl (a : Str) (b : Int) : decide ((Sum.inr a : Key) = Sum.inl b) = false := decide_eq_false (fun q => nomatch q)

def mixKind (prog : Program) (w : World) : PySem.KeyKind prog w Key where
  is := keyIs
  hash := keyH w
  inj := fun v a b ha hb => by
    rcases keyIs_shape ha with ⟨i, t, rfl, rfl⟩ | ⟨x, t, rfl, rfl⟩
    · rcases keyIs_shape hb with ⟨j, u, rfl, e⟩ | ⟨y, u, rfl, e⟩
      · injection e with e1 _; rw [e1]
      · exact nomatch e
    · rcases keyIs_shape hb with ⟨j, u, rfl, e⟩ | ⟨y, u, rfl, e⟩
      · exact nomatch e
      · injection e with e1 _; rw [e1]
  byValue := fun k v h => by
    rcases keyIs_shape h with ⟨i, t, rfl, rfl⟩ | ⟨x, t, rfl, rfl⟩ <;> rfl
  pyHash := fun hv h => by
    rcases keyIs_shape hv with ⟨i, t, rfl, rfl⟩ | ⟨x, t, rfl, rfl⟩
    · exact wpAny_pyHash_int h
    · exact wpAny_pyHash_str h
  eqBool := fun hu hv h => by
    rcases keyIs_shape hu with ⟨i, t, rfl, rfl⟩ | ⟨x, t, rfl, rfl⟩
    · rcases keyIs_shape hv with ⟨j, u, rfl, rfl⟩ | ⟨y, u, rfl, rfl⟩
      · rw [key_ll] at h; exact wpAny_eqBool_int h
      · rw [key_lr] at h; exact SeqAt.EqAt.int_str i t y u _ _ _ _ h
    · rcases keyIs_shape hv with ⟨j, u, rfl, rfl⟩ | ⟨y, u, rfl, rfl⟩
      · rw [key_rl] at h; exact SeqAt.EqAt.str_int x t j u _ _ _ _ h
      · rw [key_rr] at h; exact wpAny_eqBool_str h
  «strs» := fun k x t v h => by
    rcases keyIs_shape h with ⟨i, u, rfl, e⟩ | ⟨y, u, rfl, e⟩
    · exact nomatch e
    · injection e with e1 _
      subst e1
      cases v <;> rfl

end L2

namespace L2
open PySem PySem.Spec PyProof.Rows

/-- a value, without the heap -/
inductive V where
  | non | bl (b : Bool) | int (i : Int) | str (x : Str) | byt (b : Array UInt8) | flt (b : UInt64) | ref (a : Addr) | ty (n : String)
  deriving DecidableEq

def RelV : V → Value → Prop
  | .non, u => u = Value.none
  | .bl b, u => u = Value.bool b
  | .int i, u => ∃ t, u = Value.int i t
  | .str x, u => ∃ t, u = Value.str x t
  | .byt b, u => ∃ t, u = Value.bytes b t
  | .flt b, u => ∃ t, u = Value.float b t
  | .ref a, u => u = Value.ref a
  | .ty n, u => u = Value.type n

abbrev Vals : List V → List Value → Prop := Paired RelV
theorem Vals.length {xs : List V} {us : List Value} (r : Vals xs us) : xs.length = us.length := Paired.length r
theorem Vals.get : ∀ {xs : List V} {us : List Value} {i : Nat} {x : V}, Vals xs us → xs[i]? = some x → ∃ u, us[i]? = some u ∧ RelV x u
  | _, _, _, _, .nil, e => by simp at e
  | _, _, 0, _, .cons r _, e => by simp at e; subst e; exact ⟨_, rfl, r⟩
  | _, _, i + 1, x, .cons _ t, e => by
    obtain ⟨u, h1, h2⟩ := Vals.get (i := i) (x := x) t (by simpa using e)
    exact ⟨u, by simpa using h1, h2⟩
theorem Vals.append : ∀ {xs ys : List V} {us ws : List Value}, Vals xs us → Vals ys ws → Vals (xs ++ ys) (us ++ ws)
  | _, _, _, _, .nil, s => s
  | _, _, _, _, .cons r t, s => .cons r (Vals.append t s)
theorem Vals.take : ∀ {xs : List V} {us : List Value} (n : Nat), Vals xs us → Vals (xs.take n) (us.take n)
  | _, _, 0, _ => .nil
  | _, _, _ + 1, .nil => .nil
  | _, _, n + 1, .cons r t => .cons r (Vals.take n t)
theorem Vals.drop : ∀ {xs : List V} {us : List Value} (n : Nat), Vals xs us → Vals (xs.drop n) (us.drop n)
  | _, _, 0, r => r
  | _, _, _ + 1, .nil => .nil
  | _, _, n + 1, .cons _ t => Vals.drop n t

def RelO : Option V → Option Value → Prop
  | some v, some u => RelV v u
  | none, none => True
  | _, _ => False
def KV {κ : Type} : List (κ × V) → List (κ × Value) → Prop := Paired fun (p : κ × V) (q : κ × Value) => p.1 = q.1 ∧ RelV p.2 q.2

/-- a key of a dict (00_mix): an int or a text -/
def kV : Key → V
  | .inl i => .int i
  | .inr x => .str x

/-- what stands at a tracked address -/
inductive HO where
  /-- a list -/
  | lst (xs : List V)
  /-- a tuple (never changes) -/
  | tup (xs : List V)
  /-- a dict whose keys are ints and texts; one whose keys are tuples of ints and texts (the empty one is both) -/
  | dK (kvs : List (Key × V)) | dT (kvs : List (List Key × V))
  /-- a set of ints: its members, its size -/
  | set (S : Int → Bool) (n : Nat)
  /-- an instance of the class at C, its dict at dx, its attributes -/
  | ins (C dx : Addr) (fs : List (Str × V))
  /-- the dict of the instance at x -/
  | own (x : Addr)
  /-- the dict of an exception -/
  | xd (fs : List (Str × V))
  /-- a bound method, f of x -/
  | met (f x : Addr)
  /-- a range object lo, lo + 1, .. below hi -/
  | rng (lo hi : Int)
  /-- a thing that is known to the object (the script; a dict while a loop walks it): read, never written while it is so -/
  | frz (o : Obj) (u : HO)
  /-- a code object's table -/
  | tbl (ps : Array Value)
  /-- any other thing, by what is true of its one object (a def of one's own: SetO a S n := HO.ext fun h => ..) -/
  | ext (φ : Heap → Prop)

abbrev Hp := Addr → Option HO
def upd (H : Hp) (a : Addr) (o : HO) : Hp := fun b => if b = a then some o else H b
theorem upd_same {H : Hp} {a : Addr} {o : HO} : upd H a o a = some o := by unfold upd; rw [if_pos rfl]
theorem upd_ne {H : Hp} {a b : Addr} {o : HO} (h : b ≠ a) : upd H a o b = H b := by unfold upd; rw [if_neg h]
theorem upd_upd {H : Hp} {a : Addr} {o u : HO} : upd (upd H a o) a u = upd H a u := by
  funext b; unfold upd; split <;> rfl
theorem ne_of_none {H : Hp} {a b : Addr} {o : HO} (h : H a = some o) (h' : H b = none) : a ≠ b := by
  intro e; subst e; rw [h] at h'; cases h'

section
variable (P : Program) (w : World)
def ObjOk (H : Hp) (h : Heap) (a : Addr) : HO → Prop
  | .lst xs => xs.length ≤ sizeLine ∧ ∃ (its : List Value) (n : Nat), Vals xs its ∧ h.get? a = some { cls := .type "list", data := .seq its.toArray n }
  | .tup xs => xs.length ≤ sizeLine ∧ ∃ its : List Value, Vals xs its ∧ IsTup h a its.toArray
  | .dK kvs => kvs.length ≤ sizeLine ∧ (a == sysModules) = false ∧ ∃ vs, KV kvs vs ∧ h.DictOf (mixKind P w) a vs
  | .dT kvs => kvs.length ≤ sizeLine ∧ (a == sysModules) = false ∧ ∃ xs : List (List Key × Addr × Value),
      Paired (fun (p : List Key × V) (q : List Key × Addr × Value) => p.1 = q.1 ∧ H q.2.1 = some (.tup (p.1.map kV)) ∧ RelV p.2 q.2.2) kvs xs ∧
      ∃ o es ep, h.get? a = some o ∧ o.ExactDict ∧ o.data = .dict es ep ∧ es.toList = xs.map (entryOfKey (tupleKind (mixKind P w))) ∧ (xs.map (·.1)).Nodup
  | .set S n => h.SetOf (intKind P w) a S n
  | .ins C dx fs => H dx = some (.own a) ∧ fs.length ≤ 1000 ∧ dx ≠ a ∧ h.get? a = some (PySem.W.instObj C dx) ∧
      ∃ mA, h.Ns1 dx mA ∧ (∀ f, RelO (fs.lookup f) (mA f)) ∧ PySem.Within mA (fs.map (·.1))
  | .own _ => ∃ o, h.get? a = some o
  | .xd fs => ∃ mA, h.Ns1 a mA ∧ ∀ f, RelO (fs.lookup f) (mA f)
  | .rng lo hi => ∃ t u v, h.get? a = some { cls := .type "range", data := .fields #[.int lo t, .int hi u, .int 1 v] }
  | .frz o u => h.get? a = some o ∧ ObjOk H h a u
  | .tbl ps => h.get? a = some { cls := .none, data := .fields ps }
  | .met f x => h.get? a = some (PySem.W.methodObj (.ref f) (.ref x))
  | .ext φ => φ h ∧ (∃ o, h.get? a = some o) ∧ ∀ h1 h2 : Heap, φ h1 → (∀ o, h1.get? a = some o → h2.get? a = some o) → φ h2
/-- the abstract heap is held -/
def HOk (H : Hp) (h : Heap) : Prop := ∀ a o, H a = some o → ObjOk P w H h a o
end

section
variable {P : Program} {w : World} {H H' : Hp} {h h' : Heap} {a : Addr} {o : HO}
theorem ObjOk.lt (x : ObjOk P w H h a o) : a < h.objs.size := by
  cases o with
  | lst xs => obtain ⟨_, _, _, _, e⟩ := x; exact Heap.lt_size e
  | tup xs => obtain ⟨_, _, _, p⟩ := x; exact p.lt
  | dK kvs => obtain ⟨_, _, _, _, o, _, _, e, _⟩ := x; exact Heap.lt_size e
  | dT kvs => obtain ⟨_, _, _, _, o, _, _, e, _⟩ := x; exact Heap.lt_size e
  | set S n => obtain ⟨o, _, _, _, e, _⟩ := x; exact Heap.lt_size e
  | ins C dx fs => obtain ⟨_, _, _, e, _⟩ := x; exact Heap.lt_size e
  | own y => obtain ⟨_, e⟩ := x; exact Heap.lt_size e
  | xd fs => obtain ⟨_, ⟨_, _, _, e, _⟩, _⟩ := x; exact Heap.lt_size e
  | rng lo hi => obtain ⟨_, _, _, e⟩ := x; exact Heap.lt_size e
  | frz ob u => obtain ⟨e, _⟩ := x; exact Heap.lt_size e
  | tbl ps => exact Heap.lt_size (show h.get? a = some _ from x)
  | met f y => exact Heap.lt_size (show h.get? a = some _ from x)
  | ext φ => obtain ⟨_, ⟨_, e⟩, _⟩ := x; exact Heap.lt_size e
theorem Paired.mapP {α β : Type} {F G : α → β → Prop} : ∀ {l₁ : List α} {l₂ : List β}, Paired F l₁ l₂ → (∀ a b, F a b → G a b) → Paired G l₁ l₂
  | _, _, .nil, _ => .nil
  | _, _, .cons r t, f => .cons (f _ _ r) (Paired.mapP t f)
/-- what an object's description leans on: its own object, its own dict, the tuples -/
theorem ObjOk.stay (x : ObjOk P w H h a o) (k : ∀ b u, (b = a ∨ H b = some (.own a)) → h.get? b = some u → h'.get? b = some u)
    (ho : ∀ b, H b = some (.own a) → H' b = some (.own a)) (ht : ∀ b xs, H b = some (.tup xs) → H' b = some (.tup xs)) : ObjOk P w H' h' a o := by
  induction o with
  | lst xs => obtain ⟨z, its, n, r, e⟩ := x; exact ⟨z, its, n, r, k _ _ (.inl rfl) e⟩
  | tup xs => obtain ⟨z, its, r, ob, e, c⟩ := x; exact ⟨z, its, r, ob, k _ _ (.inl rfl) e, c⟩
  | dK kvs => obtain ⟨z, y, vs, r, ob, es, ep, e, c⟩ := x; exact ⟨z, y, vs, r, ob, es, ep, k _ _ (.inl rfl) e, c⟩
  | dT kvs =>
    obtain ⟨z, y, xs, r, ob, es, ep, e, c⟩ := x
    exact ⟨z, y, xs, Paired.mapP r fun p q z => ⟨z.1, ht _ _ z.2.1, z.2.2⟩, ob, es, ep, k _ _ (.inl rfl) e, c⟩
  | set S n => obtain ⟨ob, es, ep, t, e, c⟩ := x; exact ⟨ob, es, ep, t, k _ _ (.inl rfl) e, c⟩
  | ins C dx fs =>
    obtain ⟨d, z, ne, e, mA, ⟨od, es, ep, e2, c⟩, r⟩ := x
    exact ⟨ho _ d, z, ne, k _ _ (.inl rfl) e, mA, ⟨od, es, ep, k _ _ (.inr d) e2, c⟩, r⟩
  | own y => obtain ⟨ob, e⟩ := x; exact ⟨ob, k _ _ (.inl rfl) e⟩
  | xd fs => obtain ⟨mA, ⟨od, es, ep, e, c⟩, r⟩ := x; exact ⟨mA, ⟨od, es, ep, k _ _ (.inl rfl) e, c⟩, r⟩
  | rng lo hi => obtain ⟨t, u, v, e⟩ := x; exact ⟨t, u, v, k _ _ (.inl rfl) e⟩
  | frz ob u ih => obtain ⟨e, q⟩ := x; exact ⟨k _ _ (.inl rfl) e, ih q⟩
  | tbl ps =>
    have e : h.get? a = some { cls := .none, data := .fields ps } := x
    show h'.get? a = some { cls := .none, data := .fields ps }
    exact k a _ (.inl rfl) e
  | met f y =>
    have e : h.get? a = some (PySem.W.methodObj (.ref f) (.ref y)) := x
    show h'.get? a = some (PySem.W.methodObj (.ref f) (.ref y))
    exact k a _ (.inl rfl) e
  | ext φ => obtain ⟨p, ⟨o, e⟩, st⟩ := x; exact ⟨st _ _ p fun o q => k _ _ (.inl rfl) q, ⟨o, k _ _ (.inl rfl) e⟩, st⟩
theorem HOk.lt (x : HOk P w H h) (e : H a = some o) : a < h.objs.size := (x a o e).lt
theorem HOk.fresh (x : HOk P w H h) (e : h.objs.size ≤ a) : H a = none := by
  cases q : H a with
  | none => rfl
  | some u => exact absurd (Nat.lt_of_lt_of_le (x.lt q) e) (Nat.lt_irrefl _)
/-- every object of the heap is kept -/
theorem HOk.kept (x : HOk P w H h) (k : ∀ b u, h.get? b = some u → h'.get? b = some u) : HOk P w H h' := fun a o e =>
  (x a o e).stay (fun b u _ q => k b u q) (fun _ q => q) fun _ _ q => q
/-- a new object is laid and tracked -/
theorem HOk.laid (x : HOk P w H h) (k : ∀ b u, h.get? b = some u → h'.get? b = some u) (hp : h.objs.size ≤ a) (new : ObjOk P w (upd H a o) h' a o) : HOk P w (upd H a o) h' := fun b u e => by
  have hn := x.fresh hp
  by_cases hb : b = a
  · subst hb; rw [upd_same] at e; cases e; exact new
  · rw [upd_ne hb] at e
    exact (x b u e).stay (fun c v _ q => k c v q) (fun c q => by rw [upd_ne (ne_of_none q hn)]; exact q) fun c xs q => by rw [upd_ne (ne_of_none q hn)]; exact q
end

/-- what may be read as u: it is u, or a known u -/
def Rd (H : Hp) (a : Addr) (u : HO) : Prop := H a = some u ∨ ∃ o, H a = some (.frz o u)
theorem Rd.ok {P : Program} {w : World} {H : Hp} {h : Heap} {a : Addr} {u : HO} (r : Rd H a u) (x : HOk P w H h) : ObjOk P w H h a u := by
  rcases r with r | ⟨o, r⟩
  · exact x a u r
  · obtain ⟨_, q⟩ := x a _ r
    exact q
/-- what may be written -/
def Mut : Option HO → Prop
  | some (.lst _) => True
  | some (.dK _) => True
  | some (.dT _) => True
  | some (.set _ _) => True
  | some (.ins _ _ _) => True
  | some (.ext _) => True
  | _ => False
section
variable {P : Program} {w : World} {H : Hp} {h h' : Heap} {x e : Addr} {o' : HO}
/-- the object at e is changed: x itself, or the dict of the instance x -/
theorem HOk.write (ok : HOk P w H h) (mu : Mut (H x)) (he : e = x ∨ H e = some (.own x)) (k : ∀ b u, b ≠ e → h.get? b = some u → h'.get? b = some u) (heo : ∃ u, h'.get? e = some u)
    (new : ObjOk P w (upd H x o') h' x o') : HOk P w (upd H x o') h' := fun b u q => by
  have nown : ∀ c y, H c = some (.own y) → c ≠ x := fun c y r z => by subst z; rw [r] at mu; exact mu
  have ntup : ∀ c xs, H c = some (.tup xs) → c ≠ x := fun c xs r z => by subst z; rw [r] at mu; exact mu
  by_cases hb : b = x
  · subst hb; rw [upd_same] at q; cases q; exact new
  · rw [upd_ne hb] at q
    by_cases hbe : b = e
    · have q' : H b = some (.own x) := by
        rcases he with z | z
        · exact absurd (hbe.trans z) hb
        · rw [hbe]; exact z
      rw [q] at q'; cases q'
      obtain ⟨v, hv⟩ := heo
      exact ⟨v, by rw [hbe]; exact hv⟩
    · refine (ok b u q).stay (fun c v hc r => k c v ?_ r) (fun c r => by rw [upd_ne (nown c b r)]; exact r) fun c xs r => by rw [upd_ne (ntup c xs r)]; exact r
      rcases hc with rfl | hc
      · exact hbe
      · rintro rfl
        rcases he with z | z
        · exact nown c b hc z
        · rw [hc] at z; cases z; exact hb rfl
end

/-! ### kept unless tracked; of the frames at fs (the callers') the slots may change (an exception that passes writes there); of the records at ex (iterators) nothing is said -/
structure Un (fs ex : List Addr) (H H' : Hp) (h h' : Heap) : Prop where
  keep : ∀ b o, h.get? b = some o → H b = none → b ∉ fs → b ∉ ex → h'.get? b = some o
  slot : ∀ b o, h.get? b = some o → H b = none → b ∈ fs → b ∉ ex → ∃ sl, h'.get? b = some { o with slots := sl }
  free : ∀ b o, h.get? b = some o → H b = none → b ∉ ex → H' b = none
  there : ∀ b o, h.get? b = some o → b ∉ ex → ∃ o', h'.get? b = some o'
  tups : ∀ b xs, H b = some (.tup xs) → H' b = some (.tup xs)
  frzs : ∀ b o u, H b = some (.frz o u) → H' b = some (.frz o u)
  tbls : ∀ b ps, H b = some (.tbl ps) → ∃ more, H' b = some (.tbl (ps ++ more))
section
variable {fs fs' ex ex' : List Addr} {H H1 H2 : Hp} {h h1 h2 h' : Heap} {a x e : Addr} {o : HO}
theorem Un.any (u : Un fs ex H H1 h h1) {b : Addr} {ob : Obj} (q : h.get? b = some ob) (n : H b = none) (hx : b ∉ ex) : ∃ sl, h1.get? b = some { ob with slots := sl } := by
  by_cases hb : b ∈ fs
  · exact u.slot b ob q n hb hx
  · exact ⟨ob.slots, u.keep b ob q n hb hx⟩
theorem Un.kept (k : ∀ b u, h.get? b = some u → h'.get? b = some u) : Un fs ex H H h h' :=
  ⟨fun b ob q _ _ _ => k b ob q, fun b ob q _ _ _ => ⟨ob.slots, k b ob q⟩, fun _ _ _ n _ => n, fun b ob q _ => ⟨ob, k b ob q⟩, fun _ _ q => q, fun _ _ _ q => q, fun _ ps q => ⟨#[], by rw [q]; simp⟩⟩
theorem Un.refl : Un fs ex H H h h := Un.kept fun _ _ q => q
theorem Un.laid (k : ∀ b u, h.get? b = some u → h'.get? b = some u) (hp : h.objs.size ≤ a) (hn : H a = none) : Un fs ex H (upd H a o) h h' where
  keep := fun b u q _ _ _ => k b u q
  slot := fun b u q _ _ _ => ⟨u.slots, k b u q⟩
  free := fun b u q n _ => by rw [upd_ne (Nat.ne_of_lt (Nat.lt_of_lt_of_le (Heap.lt_size q) hp))]; exact n
  there := fun b u q _ => ⟨u, k b u q⟩
  tups := fun b xs q => by rw [upd_ne (ne_of_none q hn)]; exact q
  frzs := fun b u xs q => by rw [upd_ne (ne_of_none q hn)]; exact q
  tbls := fun b ps q => ⟨#[], by rw [upd_ne (ne_of_none q hn), q]; simp⟩
theorem Un.write (mu : Mut (H x)) (he : e = x ∨ H e = some (.own x)) (k : ∀ b u, b ≠ e → h.get? b = some u → h'.get? b = some u) (heo : ∃ u, h'.get? e = some u) : Un fs ex H (upd H x o) h h' := by
  have hx : ∀ b, H b = none → b ≠ x := fun b n z => by subst z; rw [n] at mu; exact mu
  have hb : ∀ b, H b = none → b ≠ e := fun b n z => by
    subst z
    rcases he with r | r
    · exact hx b n r
    · rw [n] at r; cases r
  have hm : ∀ b u, H b = some u → ¬ Mut (some u) → b ≠ x := fun b u q nm z => by subst z; rw [q] at mu; exact nm mu
  refine ⟨fun b u q n _ _ => k b u (hb b n) q, fun b u q n _ _ => ⟨u.slots, k b u (hb b n) q⟩, fun b u q n _ => by rw [upd_ne (hx b n)]; exact n, fun b u q _ => ?_,
    fun b xs q => by rw [upd_ne (hm b _ q fun z => z)]; exact q, fun b u xs q => by rw [upd_ne (hm b _ q fun z => z)]; exact q, fun b ps q => ⟨#[], by rw [upd_ne (hm b _ q fun z => z), q]; simp⟩⟩
  by_cases hbe : b = e
  · subst hbe; exact heo
  · exact ⟨u, k b u hbe q⟩
end

/-! ### the heap without what is tracked -/
def trk (h : Heap) (H : Hp) : List Addr := (List.range h.objs.size).filter fun a => (H a).isSome
def hidT (h : Heap) (H : Hp) : Heap := PySem.W.hideAll h (trk h H)
theorem hidT_size (h : Heap) (H : Hp) : (hidT h H).objs.size = h.objs.size := PySem.W.hideAll_size _ _
theorem hidT_get {h : Heap} {H : Hp} {b : Addr} {o : Obj} (e : h.get? b = some o) (n : H b = none) : (hidT h H).get? b = some o :=
  PySem.W.hideAll_get _ e fun hm => by
    have q : (H b).isSome = true := (List.mem_filter.mp hm).2
    rw [n] at q; simp at q
theorem of_hidT {h : Heap} {H : Hp} {b : Addr} {o : Obj} (e : (hidT h H).get? b = some o) : h.get? b = some o ∧ H b = none := by
  have e' : h.get? b = some o := PySem.W.of_hideAll (trk h H) e
  refine ⟨e', ?_⟩
  cases q : H b with
  | none => rfl
  | some x =>
    have hm : b ∈ trk h H := List.mem_filter.mpr ⟨List.mem_range.mpr (Heap.lt_size e'), by simp [q]⟩
    have z : (hidT h H).get? b = none := PySem.W.hideAll_none (trk h H) hm
    rw [z] at e; cases e

/-! ### OpenK's ledger, filled with every new object but one -/
end L2

namespace L2
open PySem PySem.Spec PyProof.Rows

/-- the module's facts, over the base: the heap at the law's entry without what is tracked there -/
structure Mod (K : PySem.W.Frag) (mg : Str → Option Value) (base : Heap) : Prop where
  kin : K.In base
  glob : base.Ns mainGlobals mg
  blt : ∃ mb, base.Ns builtinsNs mb ∧ ∀ x : Str, x ≠ "__name__" → mb x = bootBuiltins x
  nolimit : base.NoLimit

/-- the context: a def's body (or a comprehension's block) running. base: fixed through the whole law; s₀, H₀: the entry; outer: the frames whose slots others may change (a def's callers); stack: all frames that run;
   ex: iterators that were made ahead of the entry and are walked here (a comprehension's); fn: the names whose cells were made at the entry (a def: all; a comprehension's block: its own); calm: not within an except suite; pn: pins that every state bears; xe: what is wanted of an exception that leaves the code -/
structure Cx where
  prog : Program
  w : World
  K : PySem.W.Frag
  mg : Str → Option Value
  base : Heap
  A : Around
  N : List Str
  s_0 : Shared
  H_0 : Hp
  env : Env
  outer : List Env
  stack : List Env
  ex : List Addr
  fn : Str → Bool
  calm : Bool
  pn : List (Addr × Obj)
  xe : Value → Shared → Prop
/-- the callers' frames -/
def frs (l : List Env) : List Addr := l.filterMap (·.frame)
abbrev Cx.fs (X : Cx) : List Addr := frs X.outer

def Vis (sc : Scope) (x : Str) : Prop := sc.names.lookup x = some .local ∨ sc.names.lookup x = some .cell ∨ sc.names.lookup x = some .free
def Loc (sc : Scope) (x : Str) : Prop := sc.names.lookup x = some .local ∨ sc.names.lookup x = some .cell
def Look (env : Env) (h : Heap) (m : Str → Option Value) (x : Str) (u : Value) : Prop :=
  (env.kindOf x = some .local ∧ m x = some u) ∨ ((env.kindOf x = some .cell ∨ env.kindOf x = some .free) ∧ ∃ c, env.cells.lookup x = some c ∧ h.IsCell c (some u))

structure Cx.Ok (X : Cx) : Prop where
  mod : Mod X.K X.mg X.base
  kind : X.env.scope.kind = .function
  glob : X.env.globals = mainGlobals
  blt : X.env.builtins = builtinsNs
  above : X.s_0.heap.objs.size ≤ X.env.locals
  inj : ∀ x y c, X.env.cells.lookup x = some c → X.env.cells.lookup y = some c → x = y
  has : ∀ x, (X.env.kindOf x = some .cell ∨ X.env.kindOf x = some .free) → ∃ c, X.env.cells.lookup x = some c
  cab : ∀ x c, X.fn x = true → X.env.cells.lookup x = some c → X.s_0.heap.objs.size ≤ c
  hd : X.calm = true → X.A.handled = none
  frames : X.A.frames = some X.stack
  stk : X.stack = X.outer ∨ (X.stack = X.env :: X.outer ∧ X.env.frame = some X.env.locals)
  exf : ∀ b ∈ X.ex, b ≠ X.env.locals ∧ ∀ x c, X.env.cells.lookup x = some c → c ≠ b
  bs : ∀ b o, X.base.get? b = some o → X.s_0.heap.get? b = some o ∧ X.H_0 b = none
  bsz : X.base.objs.size ≤ X.s_0.heap.objs.size
  noex : ∀ b o, X.base.get? b = some o → b ∉ X.ex
  exfs : ∀ b ∈ X.ex, b ∉ X.fs
  funs : X.s_0.heap.FunFrames X.base X.outer
  frf : ∀ b ∈ X.fs, X.H_0 b = none

structure Inv (X : Cx) (pins : List (Addr × Obj)) (σ : List (Option V)) (H : Hp) (s : Shared) : Prop where
  ok : X.Ok
  os : s.os = X.s_0.os
  bare : AllBare s.gens
  base : Un X.fs X.ex X.H_0 H X.s_0.heap s.heap
  loc : ∃ m, s.heap.Ns X.env.locals m ∧ ∀ (i : Nat) (x : Str) (v : V), X.N[i]? = some x → σ[i]? = some (some v) → Vis X.env.scope x → ∃ u, RelV v u ∧ Look X.env s.heap m x u
  cell : ∀ x c, X.env.cells.lookup x = some c → ∃ v, s.heap.IsCell c v
  free : H X.env.locals = none
  freeC : ∀ x c, X.env.cells.lookup x = some c → H c = none
  pin : ∀ p ∈ X.pn ++ pins, s.heap.get? p.1 = some p.2 ∧ H p.1 = none ∧ p.1 ≠ X.env.locals ∧ p.1 ∉ X.fs ∧ ∀ v, p.2.data ≠ .cell v
  hok : HOk X.prog X.w H s.heap
  len : σ.length = X.N.length

section
variable {X : Cx} {pins : List (Addr × Obj)} {σ : List (Option V)} {H H' : Hp} {s : Shared} {h' : Heap}

theorem Cx.Ok.nofr (ok : X.Ok) {b : Addr} {o : Obj} (e : X.base.get? b = some o) : b ∉ X.fs := fun hb => by
  have := (ok.funs.mem hb).1
  rw [e] at this; cases this
theorem Inv.bs (I : Inv X pins σ H s) : ∀ b o, X.base.get? b = some o → s.heap.get? b = some o ∧ H b = none := fun b o e =>
  ⟨I.base.keep b o (I.ok.bs b o e).1 (I.ok.bs b o e).2 (I.ok.nofr e) (I.ok.noex b o e), I.base.free b o (I.ok.bs b o e).1 (I.ok.bs b o e).2 (I.ok.noex b o e)⟩
theorem Inv.bk (I : Inv X pins σ H s) : ∀ b o, X.base.get? b = some o → s.heap.get? b = some o := fun b o e => (I.bs b o e).1
theorem Inv.mod (I : Inv X pins σ H s) : Mod X.K X.mg X.base := I.ok.mod
theorem Inv.kIn (I : Inv X pins σ H s) : X.K.In s.heap := I.ok.mod.kin.keeps I.bk
theorem Inv.lt (I : Inv X pins σ H s) : X.env.locals < s.heap.objs.size := let ⟨_, hn, _⟩ := I.loc; hn.lt
theorem Inv.sz (I : Inv X pins σ H s) : X.s_0.heap.objs.size ≤ s.heap.objs.size := Nat.le_trans I.ok.above (Nat.le_of_lt I.lt)
theorem Inv.nofs (I : Inv X pins σ H s) {a : Addr} (h : s.heap.objs.size ≤ a) : a ∉ X.fs := fun hb => by
  obtain ⟨_, o, ho, _⟩ := I.ok.funs.mem hb
  exact absurd (Nat.lt_of_lt_of_le (Heap.lt_size ho) (Nat.le_trans I.sz h)) (Nat.lt_irrefl _)
theorem Inv.cne (I : Inv X pins σ H s) : ∀ x c, X.env.cells.lookup x = some c → c ≠ X.env.locals := fun x c e z => by
  obtain ⟨v, o, ho, hd⟩ := I.cell x c e
  obtain ⟨m, ⟨o', es, ep, ho', hd', _⟩, _⟩ := I.loc
  rw [z, ho'] at ho; cases ho; rw [hd'] at hd; cases hd
theorem Inv.funs (I : Inv X pins σ H s) : s.heap.FunFrames X.base X.outer := by
  have all : ∀ (l : List Env), (∀ b ∈ frs l, b ∈ X.fs) → X.s_0.heap.FunFrames X.base l → s.heap.FunFrames X.base l := by
    intro l
    induction l with
    | nil => intro _ _; trivial
    | cons env r ih =>
      intro hs hl
      obtain ⟨hk, ⟨L, o, hf, hn, ho, hd⟩, hr⟩ := hl
      have hL : L ∈ X.fs := hs L (by unfold frs; rw [List.filterMap_cons, hf]; exact List.mem_cons_self)
      obtain ⟨sl, e⟩ := I.base.slot L o ho (I.ok.frf L hL) hL fun z => I.ok.exfs L z hL
      exact ⟨hk, ⟨L, _, hf, hn, e, hd⟩, ih (fun b hb => hs b (by unfold frs; rw [List.filterMap_cons, hf]; exact List.mem_cons_of_mem _ hb)) hr⟩
  exact all X.outer (fun _ hb => hb) I.ok.funs

/-- the frames that run, for a call -/
theorem Inv.stack (I : Inv X pins σ H s) : s.heap.FunFrames X.base X.stack := by
  rcases I.ok.stk with e | ⟨e, hf⟩
  · rw [e]; exact I.funs
  · rw [e]
    obtain ⟨m, hn, _⟩ := I.loc
    refine .cons (by rw [I.ok.kind]; decide) hf hn ?_ I.funs
    exact Heap.get?_none_of_le (Nat.le_trans I.ok.bsz I.ok.above)
theorem Inv.stkSub (I : Inv X pins σ H s) : ∀ b ∈ frs X.stack, b ∈ X.env.locals :: X.fs := fun b hb => by
  rcases I.ok.stk with e | ⟨e, hf⟩
  · rw [e] at hb; exact List.mem_cons_of_mem _ hb
  · rw [e] at hb
    unfold frs at hb
    rw [List.filterMap_cons, hf] at hb
    exact hb
theorem Inv.stkFree (I : Inv X pins σ H s) : ∀ b ∈ frs X.stack, H b = none := fun b hb => by
  rcases List.mem_cons.mp (I.stkSub b hb) with e | hb
  · rw [e]; exact I.free
  · obtain ⟨_, o, ho, _⟩ := I.ok.funs.mem hb
    exact I.base.free b o ho (I.ok.frf b hb) fun z => I.ok.exfs b z hb

/-- THE STEP: the untracked objects but the frame and the records at ch are kept (the callers' frames up to slots), the frame's map is kept, the new abstract heap is held -/
theorem Inv.step {g' : Array GenState} {t' : Nat} {d' : Drawn} {ch : List Addr} (I : Inv X pins σ H s)
    (hch : ∀ b ∈ ch, (b ∈ X.ex ∨ X.s_0.heap.objs.size ≤ b) ∧ b ≠ X.env.locals ∧ (∀ x c, X.env.cells.lookup x = some c → c ≠ b) ∧ ∀ p ∈ X.pn ++ pins, p.1 ≠ b)
    (keep : ∀ b o, b ≠ X.env.locals → b ∉ X.fs → b ∉ ch → s.heap.get? b = some o → H b = none → h'.get? b = some o)
    (slot : ∀ b o, b ≠ X.env.locals → b ∈ X.fs → b ∉ ch → s.heap.get? b = some o → H b = none → ∃ sl, h'.get? b = some { o with slots := sl }) (free : ∀ b o, b ∉ ch → s.heap.get? b = some o → H b = none → H' b = none)
    (there : ∀ b o, b ∉ ch → s.heap.get? b = some o → ∃ o', h'.get? b = some o')
    (tups : ∀ b xs, H b = some (.tup xs) → H' b = some (.tup xs)) (frzs : ∀ b o u, H b = some (.frz o u) → H' b = some (.frz o u)) (tbls : ∀ b ps, H b = some (.tbl ps) → ∃ more, H' b = some (.tbl (ps ++ more)))
    (ns : ∀ m, s.heap.Ns X.env.locals m → h'.Ns X.env.locals m) (hok : HOk X.prog X.w H' h') (hg : AllBare g') :
    Inv X pins σ H' { s with heap := h', gens := g', drawn := d', toks := t' } := by
  have neL : ∀ b o, X.s_0.heap.get? b = some o → b ≠ X.env.locals := fun b o e => Nat.ne_of_lt (Nat.lt_of_lt_of_le (Heap.lt_size e) I.ok.above)
  have neC : ∀ b o, X.s_0.heap.get? b = some o → b ∉ X.ex → b ∉ ch := fun b o e hx hb => by
    rcases (hch b hb).1 with z | z
    · exact hx z
    · exact absurd (Nat.lt_of_lt_of_le (Heap.lt_size e) z) (Nat.lt_irrefl _)
  have cellK : ∀ x c, X.env.cells.lookup x = some c → ∀ v, s.heap.IsCell c v → h'.IsCell c v := fun x c e v ⟨o, ho, hd⟩ => by
    have nch : c ∉ ch := fun z => (hch c z).2.2.1 x c e rfl
    by_cases hc : c ∈ X.fs
    · obtain ⟨sl, q⟩ := slot c o (I.cne x c e) hc nch ho (I.freeC x c e)
      exact ⟨_, q, hd⟩
    · exact ⟨o, keep c o (I.cne x c e) hc nch ho (I.freeC x c e), hd⟩
  refine ⟨I.ok, I.os, hg, ⟨fun b o e n hb hx => ?_, fun b o e n hb hx => ?_, fun b o e n hx => ?_, fun b o e hx => ?_, fun b xs e => tups b xs (I.base.tups b xs e), fun b o xs e => frzs b o xs (I.base.frzs b o xs e), fun b ps e => ?_⟩, ?_, fun x c e => ?_, ?_, fun x c e => ?_, fun p hp => ?_, hok, I.len⟩
  · exact keep b o (neL b o e) hb (neC b o e hx) (I.base.keep b o e n hb hx) (I.base.free b o e n hx)
  · obtain ⟨sl, e1⟩ := I.base.slot b o e n hb hx
    obtain ⟨sl', e2⟩ := slot b _ (neL b o e) hb (neC b o e hx) e1 (I.base.free b o e n hx)
    exact ⟨sl', e2⟩
  · obtain ⟨o', e1⟩ := I.base.there b o e hx
    exact free b o' (neC b o e hx) e1 (I.base.free b o e n hx)
  · obtain ⟨o', e1⟩ := I.base.there b o e hx
    exact there b o' (neC b o e hx) e1
  · obtain ⟨m1, e1⟩ := I.base.tbls b ps e
    obtain ⟨m2, e2⟩ := tbls b _ e1
    exact ⟨m1 ++ m2, by rw [e2, Array.append_assoc]⟩
  · obtain ⟨m, hn, hl⟩ := I.loc
    refine ⟨m, ns m hn, fun i x v e1 e2 e3 => ?_⟩
    obtain ⟨u, r, l⟩ := hl i x v e1 e2 e3
    refine ⟨u, r, ?_⟩
    rcases l with l | ⟨k, c, e, z⟩
    · exact .inl l
    · exact .inr ⟨k, c, e, cellK x c e _ z⟩
  · obtain ⟨v, z⟩ := I.cell x c e
    exact ⟨v, cellK x c e v z⟩
  · obtain ⟨m, ⟨o, _, _, ho, _⟩, _⟩ := I.loc
    exact free _ o (fun z => (hch _ z).2.1 rfl) ho I.free
  · obtain ⟨v, o, ho, hd⟩ := I.cell x c e
    exact free c o (fun z => (hch c z).2.2.1 x c e rfl) ho (I.freeC x c e)
  · obtain ⟨e, n, ne, nf, d⟩ := I.pin p hp
    have nch : p.1 ∉ ch := fun z => (hch p.1 z).2.2.2 p hp rfl
    exact ⟨keep p.1 p.2 ne nf nch e n, free p.1 p.2 nch e n, ne, nf, d⟩
/-- .. where the frame's own object is kept too -/
theorem Inv.un {t' : Nat} (I : Inv X pins σ H s) (u : Un X.fs [] H H' s.heap h') (hok : HOk X.prog X.w H' h') : Inv X pins σ H' { s with heap := h', toks := t' } := by
  obtain ⟨m, ⟨o, es, ep, ho, r⟩, _⟩ := id I.loc
  obtain ⟨sl, hL⟩ := u.any ho I.free (by simp)
  exact I.step (g' := s.gens) (d' := s.drawn) (ch := []) (fun _ z => nomatch z) (fun b o _ hb _ e n => u.keep b o e n hb (by simp)) (fun b o _ hb _ e n => u.slot b o e n hb (by simp)) (fun b o _ e n => u.free b o e n (by simp)) (fun b o _ e => u.there b o e (by simp)) u.tups u.frzs u.tbls (fun m' hm => by
    obtain ⟨o', es', ep', ho', r'⟩ := hm
    rw [ho] at ho'; cases ho'
    exact ⟨_, es', ep', hL, r'⟩) hok I.bare
/-- behind a call (or a comprehension's block): the slots of this frame may have changed too, the records at ch may have turned -/
theorem Inv.call {g' : Array GenState} {t' : Nat} {d' : Drawn} {ch : List Addr} (I : Inv X pins σ H s) (u : Un (frs X.stack) ch H H' s.heap h') (hok : HOk X.prog X.w H' h') (hg : AllBare g')
    (hch : ∀ b ∈ ch, (b ∈ X.ex ∨ X.s_0.heap.objs.size ≤ b) ∧ b ≠ X.env.locals ∧ (∀ x c, X.env.cells.lookup x = some c → c ≠ b) ∧ ∀ p ∈ X.pn ++ pins, p.1 ≠ b) :
    Inv X pins σ H' { s with heap := h', gens := g', drawn := d', toks := t' } := by
  obtain ⟨m, ⟨o, es, ep, ho, r⟩, _⟩ := id I.loc
  obtain ⟨sl, hL⟩ := u.any ho I.free fun z => (hch _ z).2.1 rfl
  exact I.step (ch := ch) hch (fun b o hL hb hc e n => u.keep b o e n (fun z => (List.mem_cons.mp (I.stkSub b z)).elim hL hb) hc) (fun b o _ _ hc e n => u.any e n hc) (fun b o hc e n => u.free b o e n hc) (fun b o hc e => u.there b o e hc) u.tups u.frzs u.tbls (fun m' hm => by
    obtain ⟨o', es', ep', ho', r'⟩ := hm
    rw [ho] at ho'; cases ho'
    exact ⟨_, es', ep', hL, r'⟩) hok hg
/-- an untracked record of ours (an iterator) has turned -/
theorem Inv.turned {t' : Nat} {it : Addr} (I : Inv X pins σ H s) (k : ∀ b o, b ≠ it → s.heap.get? b = some o → h'.get? b = some o) (hn : H it = none) (hL : it ≠ X.env.locals)
    (h1 : it ∈ X.ex ∨ X.s_0.heap.objs.size ≤ it) (h2 : ∀ x c, X.env.cells.lookup x = some c → c ≠ it) (h3 : ∀ p ∈ X.pn ++ pins, p.1 ≠ it) : Inv X pins σ H { s with heap := h', toks := t' } := by
  have nit : ∀ b u, H b = some u → b ≠ it := fun b u e z => by rw [z, hn] at e; cases e
  refine I.step (g' := s.gens) (d' := s.drawn) (ch := [it]) (fun b hb => ?_) (fun b o _ _ hc e _ => k b o (fun z => hc (by simp [z])) e) (fun b o _ _ hc e _ => ⟨o.slots, k b o (fun z => hc (by simp [z])) e⟩) (fun _ _ _ _ n => n)
    (fun b o hc e => ⟨o, k b o (fun z => hc (by simp [z])) e⟩) (fun _ _ e => e) (fun _ _ _ e => e) (fun b ps e => ⟨#[], by rw [e]; simp⟩) (fun m hm => ?_) (fun b u e => ?_) I.bare
  · have e : b = it := by simpa using hb
    subst e
    exact ⟨h1, hL, h2, h3⟩
  · obtain ⟨o, es, ep, ho, r⟩ := hm
    exact ⟨o, es, ep, k _ o (Ne.symm hL) ho, r⟩
  · refine (I.hok b u e).stay (fun c v hc q => k c v ?_ q) (fun _ q => q) fun _ _ q => q
    rcases hc with z | z
    · rw [z]; exact nit b u e
    · exact nit c _ z
theorem Inv.tok (I : Inv X pins σ H s) (t : Nat) : Inv X pins σ H { s with toks := t } := I.un (h' := s.heap) (t' := t) Un.refl I.hok
/-- all objects kept -/
theorem Inv.kept {t' : Nat} (I : Inv X pins σ H s) (k : ∀ b u, s.heap.get? b = some u → h'.get? b = some u) : Inv X pins σ H { s with heap := h', toks := t' } := I.un (Un.kept k) (I.hok.kept k)
/-- a new object laid and tracked -/
theorem Inv.laid {a : Addr} {o : HO} {t' : Nat} (I : Inv X pins σ H s) (k : ∀ b u, s.heap.get? b = some u → h'.get? b = some u) (hp : s.heap.objs.size ≤ a) (new : ObjOk X.prog X.w (upd H a o) h' a o) :
    Inv X pins σ (upd H a o) { s with heap := h', toks := t' } := I.un (Un.laid k hp (I.hok.fresh hp)) (I.hok.laid k hp new)
/-- an object written -/
theorem Inv.write {x e : Addr} {o : HO} {t' : Nat} (I : Inv X pins σ H s) (mu : Mut (H x)) (he : e = x ∨ H e = some (.own x)) (k : ∀ b u, b ≠ e → s.heap.get? b = some u → h'.get? b = some u) (heo : ∃ u, h'.get? e = some u)
    (new : ObjOk X.prog X.w (upd H x o) h' x o) : Inv X pins σ (upd H x o) { s with heap := h', toks := t' } := I.un (Un.write mu he k heo) (I.hok.write mu he k heo new)
/-- forgetting slots, pins -/
theorem Inv.weak {σ' : List (Option V)} (I : Inv X pins σ H s) (hl : σ'.length = σ.length) (w : ∀ (i : Nat) v, σ'[i]? = some (some v) → σ[i]? = some (some v)) : Inv X pins σ' H s :=
  ⟨I.ok, I.os, I.bare, I.base, let ⟨m, hn, hl'⟩ := I.loc; ⟨m, hn, fun i x v e1 e2 e3 => hl' i x v e1 (w i v e2) e3⟩, I.cell, I.free, I.freeC, I.pin, I.hok, hl.trans I.len⟩
theorem Inv.pins_of {pins' : List (Addr × Obj)} (I : Inv X pins σ H s) (h : ∀ p ∈ pins', s.heap.get? p.1 = some p.2 ∧ H p.1 = none ∧ p.1 ≠ X.env.locals ∧ p.1 ∉ X.fs ∧ ∀ v, p.2.data ≠ .cell v) : Inv X pins' σ H s :=
  ⟨I.ok, I.os, I.bare, I.base, I.loc, I.cell, I.free, I.freeC, fun p hp => (List.mem_append.mp hp).elim (fun z => I.pin p (List.mem_append_left _ z)) (h p), I.hok, I.len⟩

theorem nodup_ix {N : List Str} (hN : N.Nodup) {i j : Nat} {x : Str} (a : N[i]? = some x) (b : N[j]? = some x) : i = j := by
  obtain ⟨h1, e1⟩ := List.getElem?_eq_some_iff.mp a
  obtain ⟨h2, e2⟩ := List.getElem?_eq_some_iff.mp b
  exact (List.getElem_inj hN).mp (e1.trans e2.symm)

/-- a name is stored; what changed -/
theorem store_ok2 {M : Model} {A : Around} {E : Value → Shared → Prop} {i : Nat} {x : Str} {v : V} {u : Value} {Q : Unit → Shared → Prop} (I : Inv X pins σ H s) (hN : X.N.Nodup) (hi : X.N[i]? = some x) (hx : Loc X.env.scope x) (r : RelV v u)
    (h : ∀ s', Inv X pins (σ.set i (some v)) H s' → (∃ a, Heap.SameBut a s.heap s'.heap ∧ (a = X.env.locals ∨ X.env.cells.lookup x = some a)) → Q () s') (hf : X.fn x = true ∨ X.env.scope.names.lookup x = some .local := by first | exact .inl rfl | exact .inr rfl | assumption) : wpAny M A (storeName X.env x u) Q E s := by
  obtain ⟨m, hn, hl⟩ := id I.loc
  have hcls : (X.env.scope.kind == .class || (X.env.scope.kind == .module && X.env.locals != X.env.globals)) = false := by rw [I.ok.kind]; rfl
  have hiσ : i < σ.length := by rw [I.len]; exact (List.getElem?_eq_some_iff.mp hi).1
  have cne := I.cne
  have tracked : ∀ {a : Addr} {h' : Heap}, (∃ o, s.heap.get? a = some o ∧ H a = none) → Heap.SameBut a s.heap h' → HOk X.prog X.w H h' := fun {a h'} ha hs b ob e => by
    obtain ⟨_, _, hfree⟩ := ha
    refine (I.hok b ob e).stay (fun c w' hc q => (hs.2 c ?_).trans q) (fun _ q => q) fun _ _ q => q
    rintro rfl
    rcases hc with rfl | hc
    · rw [hfree] at e; cases e
    · rw [hfree] at hc; cases hc
  rcases hx with hk | hk
  · refine wpAny_storeName_local hk hn (fun h' hn' hs => ?_) hcls
    obtain ⟨oL, _, _, hoL, _⟩ := id hn
    refine h _ ⟨I.ok, I.os, I.bare, ⟨fun b o e n hb hx => ?_, fun b o e n hb hx => ?_, I.base.free, fun b o e hx => ?_, I.base.tups, I.base.frzs, I.base.tbls⟩, ⟨_, hn', fun j y v' e1 e2 e3 => ?_⟩, fun y c e => ?_, I.free, I.freeC, fun p hp => ?_, tracked ⟨oL, hoL, I.free⟩ hs, by simpa using I.len⟩ ⟨_, hs, .inl rfl⟩
    · exact (hs.2 b (Nat.ne_of_lt (Nat.lt_of_lt_of_le (Heap.lt_size e) I.ok.above))).trans (I.base.keep b o e n hb hx)
    · obtain ⟨sl, e1⟩ := I.base.slot b o e n hb hx
      exact ⟨sl, (hs.2 b (Nat.ne_of_lt (Nat.lt_of_lt_of_le (Heap.lt_size e) I.ok.above))).trans e1⟩
    · obtain ⟨o', e1⟩ := I.base.there b o e hx
      exact ⟨o', (hs.2 b (Nat.ne_of_lt (Nat.lt_of_lt_of_le (Heap.lt_size e) I.ok.above))).trans e1⟩
    · by_cases hj : j = i
      · subst hj
        rw [hi] at e1; cases e1
        rw [List.getElem?_set_self hiσ] at e2
        cases e2
        exact ⟨u, r, .inl ⟨hk, by simp⟩⟩
      · rw [List.getElem?_set_ne (Ne.symm hj)] at e2
        obtain ⟨u', r', q⟩ := hl j y v' e1 e2 e3
        refine ⟨u', r', ?_⟩
        rcases q with ⟨k, e⟩ | ⟨k, c, e, z⟩
        · refine .inl ⟨k, ?_⟩
          have : y ≠ x := fun e => hj (nodup_ix hN e1 (e ▸ hi))
          simp [this, e]
        · exact .inr ⟨k, c, e, z.sameBut hs (cne y c e)⟩
    · obtain ⟨w', z⟩ := I.cell y c e
      exact ⟨w', z.sameBut hs (cne y c e)⟩
    · obtain ⟨e, n, ne, nf, d⟩ := I.pin p hp
      exact ⟨(hs.2 p.1 ne).trans e, n, ne, nf, d⟩
  · have hfn : X.fn x = true := by
      rcases hf with z | z
      · exact z
      · rw [z] at hk; cases hk
    obtain ⟨c, hc⟩ := I.ok.has x (.inl hk)
    obtain ⟨w', z⟩ := I.cell x c hc
    refine wpAny_storeName_cell I.ok.kind hk hc z (fun h' hc' hs => ?_)
    obtain ⟨oc, hoc, hocd⟩ := id z
    refine h { s with heap := h' } ⟨I.ok, I.os, I.bare, ⟨fun b o e n hb hx => ?_, fun b o e n hb hx => ?_, I.base.free, fun b o e hx => ?_, I.base.tups, I.base.frzs, I.base.tbls⟩, ⟨m, hn.sameBut hs (Ne.symm (cne x c hc)), fun j y v' e1 e2 e3 => ?_⟩, fun y c' e => ?_, I.free, I.freeC, fun p hp => ?_, tracked ⟨oc, hoc, I.freeC x c hc⟩ hs, by simpa using I.len⟩ ⟨c, hs, .inr hc⟩
    · exact (hs.2 b (Nat.ne_of_lt (Nat.lt_of_lt_of_le (Heap.lt_size e) (I.ok.cab x c hfn hc)))).trans (I.base.keep b o e n hb hx)
    · obtain ⟨sl, e1⟩ := I.base.slot b o e n hb hx
      exact ⟨sl, (hs.2 b (Nat.ne_of_lt (Nat.lt_of_lt_of_le (Heap.lt_size e) (I.ok.cab x c hfn hc)))).trans e1⟩
    · obtain ⟨o', e1⟩ := I.base.there b o e hx
      exact ⟨o', (hs.2 b (Nat.ne_of_lt (Nat.lt_of_lt_of_le (Heap.lt_size e) (I.ok.cab x c hfn hc)))).trans e1⟩
    · by_cases hj : j = i
      · subst hj
        rw [hi] at e1; cases e1
        rw [List.getElem?_set_self hiσ] at e2
        cases e2
        exact ⟨u, r, .inr ⟨.inl hk, c, hc, hc'⟩⟩
      · rw [List.getElem?_set_ne (Ne.symm hj)] at e2
        obtain ⟨u', r', q⟩ := hl j y v' e1 e2 e3
        refine ⟨u', r', ?_⟩
        rcases q with q | ⟨k, c', e, z'⟩
        · exact .inl q
        · refine .inr ⟨k, c', e, z'.sameBut hs ?_⟩
          rintro rfl
          exact hj (nodup_ix hN e1 (I.ok.inj _ _ _ e hc ▸ hi))
    · by_cases hcc : c' = c
      · subst hcc; exact ⟨_, hc'⟩
      · obtain ⟨w2, z2⟩ := I.cell y c' e
        exact ⟨w2, z2.sameBut hs hcc⟩
    · obtain ⟨e, n, ne, nf, d⟩ := I.pin p hp
      refine ⟨(hs.2 p.1 ?_).trans e, n, ne, nf, d⟩
      intro q
      rw [q, hoc] at e
      have q' : oc = p.2 := Option.some.inj e
      exact d w' (by rw [← q']; exact hocd)
theorem store_ok {M : Model} {A : Around} {E : Value → Shared → Prop} {i : Nat} {x : Str} {v : V} {u : Value} {Q : Unit → Shared → Prop} (I : Inv X pins σ H s) (hN : X.N.Nodup) (hi : X.N[i]? = some x) (hx : Loc X.env.scope x) (r : RelV v u)
    (h : ∀ s', Inv X pins (σ.set i (some v)) H s' → Q () s') (hf : X.fn x = true ∨ X.env.scope.names.lookup x = some .local := by first | exact .inl rfl | exact .inr rfl | assumption) : wpAny M A (storeName X.env x u) Q E s :=
  store_ok2 I hN hi hx r (fun s' I' _ => h s' I') hf
/-- behind a call or a block, the state as it is -/
theorem Inv.call' {s' : Shared} {ch : List Addr} (I : Inv X pins σ H s) (ho : s'.os = s.os) (u : Un (frs X.stack) ch H H' s.heap s'.heap) (hok : HOk X.prog X.w H' s'.heap) (hg : AllBare s'.gens)
    (hch : ∀ b ∈ ch, (b ∈ X.ex ∨ X.s_0.heap.objs.size ≤ b) ∧ b ≠ X.env.locals ∧ (∀ x c, X.env.cells.lookup x = some c → c ≠ b) ∧ ∀ p ∈ X.pn ++ pins, p.1 ≠ b) : Inv X pins σ H' s' := by
  obtain ⟨h', g', d', t', o'⟩ := s'
  have e : o' = s.os := ho
  subst e
  exact I.call (g' := g') (t' := t') (d' := d') u hok hg hch
end

/-! ### the judgements -/
/-- an exception: its class, its own dict's address (where it has one), the abstract heap behind it -/
abbrev XK := Value → Option Addr → Hp → Prop
abbrev St := List (Option V)
abbrev VK := V → Hp → Prop
/-- an expression's reading; a test's; an argument list's -/
abbrev TE := St → Hp → VK → Prop
abbrev TT := St → Hp → (Bool → Hp → Prop) → Prop
abbrev TA := St → Hp → (List V → Hp → Prop) → Prop
/-- what is wanted behind a statement -/
structure Ends where
  nx : St → Hp → Prop
  rt : VK
  bk : St → Hp → Prop := fun _ _ => False
  ct : St → Hp → Prop := fun _ _ => False
abbrev TS := Ends → St → Hp → Prop

def EP (X : Cx) (pins : List (Addr × Obj)) (σ : St) (Q : VK) (u : Value) (s' : Shared) : Prop := ∃ v H', Inv X pins σ H' s' ∧ RelV v u ∧ Q v H'
def TP (X : Cx) (pins : List (Addr × Obj)) (σ : St) (Q : Bool → Hp → Prop) (b : Bool) (s' : Shared) : Prop := ∃ H', Inv X pins σ H' s' ∧ Q b H'
def AP (X : Cx) (pins : List (Addr × Obj)) (σ : St) (Q : List V → Hp → Prop) (us : List Value) (s' : Shared) : Prop := ∃ vs H', Inv X pins σ H' s' ∧ Vals vs us ∧ Q vs H'
def SP (X : Cx) (pins : List (Addr × Obj)) (D : Ends) (f : Flow) (s' : Shared) : Prop :=
  match f with
  | .next => ∃ σ' H', Inv X pins σ' H' s' ∧ D.nx σ' H'
  | .brk => ∃ σ' H', Inv X pins σ' H' s' ∧ D.bk σ' H'
  | .cont => ∃ σ' H', Inv X pins σ' H' s' ∧ D.ct σ' H'
  | .ret u => ∃ v σ' H', Inv X pins σ' H' s' ∧ RelV v u ∧ D.rt v H'

def PE (X : Cx) (e : Expr) (t : TE) : Prop :=
  ∀ (pins : List (Addr × Obj)) (s : Shared) (σ : St) (H : Hp) (Q : VK), Inv X pins σ H s → t σ H Q → wpAny (model X.prog X.w) X.A (eval e X.env) (EP X pins σ Q) X.xe s
def PT (X : Cx) (e : Expr) (t : TT) : Prop :=
  ∀ (pins : List (Addr × Obj)) (s : Shared) (σ : St) (H : Hp) (Q : Bool → Hp → Prop), Inv X pins σ H s → t σ H Q → wpAny (model X.prog X.w) X.A (isTrue e X.env (eval e X.env)) (TP X pins σ Q) X.xe s
/-- a test whatever its 'whole' is (and, or) -/
def PW (X : Cx) (e : Expr) (t : TT) : Prop :=
  ∀ (whole : Sem Value) (pins : List (Addr × Obj)) (s : Shared) (σ : St) (H : Hp) (Q : Bool → Hp → Prop), Inv X pins σ H s → t σ H Q → wpAny (model X.prog X.w) X.A (isTrue e X.env whole) (TP X pins σ Q) X.xe s
theorem PW.pt {X : Cx} {e : Expr} {t : TT} (h : PW X e t) : PT X e t := h _
/-- an argument list (no star), from the left -/
def PA (X : Cx) (es : List Expr) (t : TA) : Prop :=
  ∀ (pos : Pos) (pins : List (Addr × Obj)) (s : Shared) (σ : St) (H : Hp) (Q : List V → Hp → Prop), Inv X pins σ H s → t σ H Q → wpAny (model X.prog X.w) X.A (spliced (backTo pos (starEach es X.env))) (AP X pins σ Q) X.xe s
def PS (X : Cx) (st : Stmt) (t : TS) : Prop :=
  ∀ (pins : List (Addr × Obj)) (s : Shared) (σ : St) (H : Hp) (D : Ends), Inv X pins σ H s → t D σ H → wpAny (model X.prog X.w) X.A (exec st X.env) (SP X pins D) X.xe s
def PSs (X : Cx) (st : List Stmt) (t : TS) : Prop :=
  ∀ (pins : List (Addr × Obj)) (s : Shared) (σ : St) (H : Hp) (D : Ends), Inv X pins σ H s → t D σ H → wpAny (model X.prog X.w) X.A (execs st X.env) (SP X pins D) X.xe s
/-- weaken the end -/
theorem thn {α : Type} {t : Sem α} {Q Q' : α → Shared → Prop} {M : Model} {A : Around} {E : Value → Shared → Prop} {s : Shared} (h : wpAny M A t Q E s) (hQ : ∀ a s, Q a s → Q' a s) : wpAny M A t Q' E s := wpAny_mono h hQ fun _ _ x => x
end L2

namespace L2
open PySem PySem.Spec PyProof.Rows
section
variable {X : Cx}


/-! ### names and constants -/
def tVar (i : Nat) : TE := fun σ H Q => ∃ v, σ[i]? = some (some v) ∧ Q v H
def tC (v : V) : TE := fun _ H Q => Q v H
theorem pe_var {i : Nat} {x : Str} {pos : Pos} (hN : X.N[i]? = some x) (hv : Vis X.env.scope x) (hd : (x == ("__debug__" : Str)) = false := by decide) (hcd : (x == ("__classdict__" : Str)) = false := by decide) : PE X (.Name x pos) (tVar i) := by
  intro pins s σ H Q I h
  obtain ⟨v, e, h⟩ := h
  obtain ⟨m, hn, hl⟩ := I.loc
  obtain ⟨u, r, l⟩ := hl i x v hN e hv
  have fin : EP X pins σ Q u s := ⟨v, H, I, r, h⟩
  rcases l with ⟨hk, hm⟩ | ⟨hk, c, hc, hcell⟩
  · exact wpAny_Name (wpAny_loadName_local I.ok.kind hk hn hm fin) hd
  · rcases hk with hk | hk
    · exact wpAny_Name (wpAny_loadName_cell I.ok.kind hk hc hcell fin) hd
    · exact wpAny_Name (wpAny_loadName_free I.ok.kind hk hc hcell fin hcd) hd
theorem pe_int {i j pos} : PE X (.Constant (.int i) j pos) (tC (.int i)) := fun _ _ _ H _ I h => wpAny_Constant_int ⟨.int i, H, I.tok _, ⟨_, rfl⟩, h⟩
theorem pe_bl {b j pos} : PE X (.Constant (.bool b) j pos) (tC (.bl b)) := fun _ _ _ H _ I h => Constant_bool ⟨.bl b, H, I, rfl, h⟩
theorem pe_non {j pos} : PE X (.Constant .none j pos) (tC .non) := fun _ _ _ H _ I h => Constant_none ⟨.non, H, I, rfl, h⟩
theorem pe_str {x j pos} : PE X (.Constant (.str x) j pos) (tC (.str x)) := fun _ _ _ H _ I h => Calls.Constant_str ⟨.str x, H, I.tok _, ⟨_, rfl⟩, h⟩

/-- a global name of the def -/
def Gl (X : Cx) (x : Str) : Prop := X.env.kindOf x = some .globalImplicit
theorem ld_glob {E : Value → Shared → Prop} {pins : List (Addr × Obj)} {s : Shared} {σ : St} {H : Hp} {x : Str} {u : Value} {pos : Pos} {Q : Value → Shared → Prop} (I : Inv X pins σ H s) (hg : Gl X x) (hm : X.mg x = some u) (h : Q u s)
    (hd : (x == ("__debug__" : Str)) = false := by decide) : wpAny (model X.prog X.w) X.A (eval (.Name x pos) X.env) Q E s :=
  Calls.Name_function_global I.ok.kind hg (Calls.loadGlobal_global (by rw [I.ok.glob]; exact I.mod.glob.keeps I.bk) hm h) hd
theorem ld_blt {E : Value → Shared → Prop} {pins : List (Addr × Obj)} {s : Shared} {σ : St} {H : Hp} {x : Str} {u : Value} {pos : Pos} {Q : Value → Shared → Prop} (I : Inv X pins σ H s) (hg : Gl X x) (hm : X.mg x = none) (hv : bootBuiltins x = some u) (h : Q u s)
    (hn : x ≠ "__name__" := by decide) (hd : (x == ("__debug__" : Str)) = false := by decide) : wpAny (model X.prog X.w) X.A (eval (.Name x pos) X.env) Q E s := by
  obtain ⟨mb, h1, h2⟩ := I.mod.blt
  exact Calls.Name_function_global I.ok.kind hg (Calls.loadGlobal_builtin (by rw [I.ok.glob]; exact I.mod.glob.keeps I.bk) hm (by rw [I.ok.blt]; exact h1.keeps I.bk) ((h2 x hn).trans hv) h) hd
/-- a module's constant, a class, a function, as a value -/
theorem pe_glob {x : Str} {v : V} {u : Value} {pos : Pos} (hg : Gl X x) (hm : X.mg x = some u) (r : RelV v u) (hd : (x == ("__debug__" : Str)) = false := by decide) : PE X (.Name x pos) (tC v) :=
  fun _ _ _ H _ I h => ld_glob I hg hm ⟨v, H, I, r, h⟩ hd

/-! ### arithmetic -/
variable {a b : Expr} {ta tb : TE} {pos : Pos}

/-! ### comparisons -/
/-- a comparison as a value, as a test -/
def tB (t : TE) : TT := fun σ H Q => t σ H fun x H1 => ∃ c, x = .bl c ∧ Q c H1
/-- an expression whose value is a bool, as a test -/
theorem pt_val {e : Expr} {t : TE} (h : PE X e t) (he : ∀ whole, isTrue e X.env whole = (do let v ← whole; standAt e.pos; holding [v] (truthy v)) := by intro _; rfl) : PT X e (tB t) := by
  intro pins s σ H Q I hw
  refine isTrue_plain (thn (h pins s σ H _ I hw) fun v s1 ⟨x, H1, I1, r1, q1⟩ => ?_) (he _)
  obtain ⟨d, rfl, q⟩ := q1
  cases r1
  exact wpAny_truthy_bool ⟨H1, I1, q⟩

/-! ### and, or, not -/
variable {tA tB' : TT} {rest : List Expr}
def tAnd (t u : TT) : TT := fun σ H Q => t σ H fun c H1 => if c = true then u σ H1 Q else Q false H1
def tOr (t u : TT) : TT := fun σ H Q => t σ H fun c H1 => if c = true then Q true H1 else u σ H1 Q
theorem pw_and1 (ha : PT X a tA) : PW X (.BoolOp .And [a] pos) tA := by
  intro wh pins s σ H Q I h
  refine isTrue_and (thn (ha pins s σ H Q I h) fun c s1 e => ?_)
  cases c with
  | true => exact isTrue_and_nil e
  | false => exact e
theorem pw_or1 (ha : PT X a tA) : PW X (.BoolOp .Or [a] pos) tA := by
  intro wh pins s σ H Q I h
  refine isTrue_or (thn (ha pins s σ H Q I h) fun c s1 e => ?_)
  cases c with
  | false => exact isTrue_or_nil e
  | true => exact e
theorem pw_and (ha : PT X a tA) (hb : PW X (.BoolOp .And (b :: rest) pos) tB') : PW X (.BoolOp .And (a :: b :: rest) pos) (tAnd tA tB') := by
  intro wh pins s σ H Q I h
  refine isTrue_and (thn (ha pins s σ H _ I h) fun c s1 ⟨H1, I1, q1⟩ => ?_)
  cases c with
  | true => exact hb wh pins s1 σ H1 Q I1 q1
  | false => exact ⟨H1, I1, q1⟩
theorem pw_or (ha : PT X a tA) (hb : PW X (.BoolOp .Or (b :: rest) pos) tB') : PW X (.BoolOp .Or (a :: b :: rest) pos) (tOr tA tB') := by
  intro wh pins s σ H Q I h
  refine isTrue_or (thn (ha pins s σ H _ I h) fun c s1 ⟨H1, I1, q1⟩ => ?_)
  cases c with
  | true => exact ⟨H1, I1, q1⟩
  | false => exact hb wh pins s1 σ H1 Q I1 q1
/-- a if t else b -/
def tIf (t : TT) (ta tb : TE) : TE := fun σ H Q => t σ H fun c H1 => if c = true then ta σ H1 Q else tb σ H1 Q
theorem pe_ifExp {c : Expr} (hc : PT X c tA) (ha : PE X a ta) (hb : PE X b tb) : PE X (.IfExp c a b pos) (tIf tA ta tb) := by
  intro pins s σ H Q I h
  refine wpAny_IfExp (thn (hc pins s σ H _ I h) fun d s1 ⟨H1, I1, q1⟩ => ?_)
  cases d with
  | true => exact ha pins s1 σ H1 Q I1 q1
  | false => exact hb pins s1 σ H1 Q I1 q1
end
end L2

namespace L2
open PySem PySem.Spec PyProof.Rows

/-! ### a list, a tuple that is read: tracked, frozen, or an object of the module -/
def SqL (K : PySem.W.Frag) (H : Hp) (a : Addr) (xs : List V) : Prop :=
  Rd H a (.lst xs) ∨
    ∃ (o : Obj) (its : Array Value) (n : Nat), K.lookup a = some o ∧ o.cls = .type "list" ∧ o.dict = none ∧ o.data = .seq its n ∧ its.size ≤ sizeLine ∧ Vals xs its.toList
def SqT (K : PySem.W.Frag) (H : Hp) (a : Addr) (xs : List V) : Prop :=
  Rd H a (.tup xs) ∨
    ∃ (o : Obj) (its : Array Value) (n : Nat), K.lookup a = some o ∧ o.cls = .type "tuple" ∧ o.data = .seq its n ∧ its.size ≤ sizeLine ∧ Vals xs its.toList
def absV : Value → Option V
  | .none => some .non
  | .bool b => some (.bl b)
  | .int i _ => some (.int i)
  | .str x _ => some (.str x)
  | .bytes b _ => some (.byt b)
  | .float b _ => some (.flt b)
  | .ref a => some (.ref a)
  | .type n => some (.ty n)
  | _ => none
theorem RelV.abs {x : V} {u : Value} (r : RelV x u) : absV u = some x := by
  cases x with
  | non => cases r; rfl
  | bl _ => cases r; rfl
  | int _ => obtain ⟨t, rfl⟩ := r; rfl
  | str _ => obtain ⟨t, rfl⟩ := r; rfl
  | byt _ => obtain ⟨t, rfl⟩ := r; rfl
  | flt _ => obtain ⟨t, rfl⟩ := r; rfl
  | ref _ => cases r; rfl
  | ty _ => cases r; rfl
theorem RelV.inj {x y : V} {u : Value} (r : RelV x u) (q : RelV y u) : x = y := Option.some.inj (r.abs.symm.trans q.abs)
theorem Vals.inj : ∀ {xs ys : List V} {us : List Value}, Vals xs us → Vals ys us → xs = ys
  | _, _, _, .nil, .nil => rfl
  | _, _, _, .cons r t, .cons r' t' => by rw [r.inj r', Vals.inj t t']
section
variable {X : Cx} {pins : List (Addr × Obj)} {σ : St} {H : Hp} {s : Shared} {a : Addr} {xs ys : List V}
theorem SqL.of {K : PySem.W.Frag} (h : H a = some (.lst xs)) : SqL K H a xs := .inl (.inl h)
theorem SqT.of {K : PySem.W.Frag} (h : H a = some (.tup xs)) : SqT K H a xs := .inl (.inl h)
theorem Inv.list (I : Inv X pins σ H s) (h : SqL X.K H a xs) : ∃ its : List Value, Vals xs its ∧ PlainL s.heap a its.toArray ∧ xs.length ≤ sizeLine := by
  rcases h with h | ⟨o, its, n, hk, hc, hd, hs, hz, r⟩
  · obtain ⟨z, its, n, r, e⟩ := h.ok I.hok
    exact ⟨its, r, ⟨_, n, e, rfl, rfl, rfl⟩, z⟩
  · refine ⟨its.toList, r, ⟨o, n, I.kIn a o hk, hc, hd, by simpa using hs⟩, ?_⟩
    have e := r.length
    simp only [Array.length_toList] at e
    omega
theorem Inv.tuple (I : Inv X pins σ H s) (h : SqT X.K H a xs) : ∃ its : List Value, Vals xs its ∧ IsTup s.heap a its.toArray ∧ xs.length ≤ sizeLine := by
  rcases h with h | ⟨o, its, n, hk, hc, hs, hz, r⟩
  · obtain ⟨z, its, r, p⟩ := h.ok I.hok
    exact ⟨its, r, p, z⟩
  · refine ⟨its.toList, r, ⟨o, I.kIn a o hk, hc, n, by simpa using hs⟩, ?_⟩
    have e := r.length
    simp only [Array.length_toList] at e
    omega
theorem Inv.list_inj (I : Inv X pins σ H s) (h : SqL X.K H a xs) (h' : SqL X.K H a ys) : xs = ys := by
  obtain ⟨its, r, ⟨o, n, e, _, _, d⟩, _⟩ := I.list h
  obtain ⟨its', r', ⟨o', n', e', _, _, d'⟩, _⟩ := I.list h'
  rw [e] at e'; cases e'
  rw [d] at d'
  injection d' with d1 _
  have : its = its' := by simpa using congrArg Array.toList d1
  subst this
  exact r.inj r'
end

/-! ### another wish about exceptions -/
abbrev Cx.wish (X : Cx) (E : Value → Shared → Prop) : Cx := { X with xe := E }
/-- no exception leaves -/
abbrev Cx.nox (X : Cx) : Cx := X.wish fun _ _ => False
theorem Cx.Ok.wish {X : Cx} (ok : X.Ok) (E : Value → Shared → Prop) : (X.wish E).Ok :=
  ⟨ok.mod, ok.kind, ok.glob, ok.blt, ok.above, ok.inj, ok.has, ok.cab, ok.hd, ok.frames, ok.stk, ok.exf, ok.bs, ok.bsz, ok.noex, ok.exfs, ok.funs, ok.frf⟩
theorem Cx.Ok.unwish {X : Cx} {E : Value → Shared → Prop} (ok : (X.wish E).Ok) : X.Ok :=
  ⟨ok.mod, ok.kind, ok.glob, ok.blt, ok.above, ok.inj, ok.has, ok.cab, ok.hd, ok.frames, ok.stk, ok.exf, ok.bs, ok.bsz, ok.noex, ok.exfs, ok.funs, ok.frf⟩
section
variable {X : Cx} {pins : List (Addr × Obj)} {σ : St} {H : Hp} {s : Shared} {E : Value → Shared → Prop}
theorem Inv.wish (I : Inv X pins σ H s) (E : Value → Shared → Prop) : Inv (X.wish E) pins σ H s := ⟨I.ok.wish E, I.os, I.bare, I.base, I.loc, I.cell, I.free, I.freeC, I.pin, I.hok, I.len⟩
theorem Inv.unwish (I : Inv (X.wish E) pins σ H s) : Inv X pins σ H s := ⟨I.ok.unwish, I.os, I.bare, I.base, I.loc, I.cell, I.free, I.freeC, I.pin, I.hok, I.len⟩
theorem SP.unwish {D : Ends} {f : Flow} {s' : Shared} (h : SP (X.wish E) pins D f s') : SP X pins D f s' := by
  cases f with
  | next => obtain ⟨σ', H', I, q⟩ := h; exact ⟨σ', H', I.unwish, q⟩
  | brk => obtain ⟨σ', H', I, q⟩ := h; exact ⟨σ', H', I.unwish, q⟩
  | cont => obtain ⟨σ', H', I, q⟩ := h; exact ⟨σ', H', I.unwish, q⟩
  | ret u => obtain ⟨v, σ', H', I, r, q⟩ := h; exact ⟨v, σ', H', I.unwish, r, q⟩
theorem PSs.nox {st : List Stmt} {t : TS} (h : PSs X.nox st t) : PSs X st t := fun pins s σ H D I hw =>
  wpAny_mono (h pins s σ H D (I.wish _) hw) (fun _ _ q => q.unwish) fun _ _ z => False.elim z
end

/-! ### blocks and small statements -/
section
variable {X : Cx} {st : Stmt} {rest : List Stmt} {t u : TS} {e : Expr} {te : TE} {pos : Pos}
def tNext : TS := fun D σ H => D.nx σ H
def tSeq (t u : TS) : TS := fun D σ H => t { D with nx := u D } σ H
theorem pss_nil : PSs X [] tNext := fun _ _ σ H _ I h => wpAny_execs_nil ⟨σ, H, I, h⟩
theorem pss_cons (h1 : PS X st t) (h2 : PSs X rest u) : PSs X (st :: rest) (tSeq t u) := by
  intro pins s σ H D I h
  refine wpAny_execs_cons (thn (h1 pins s σ H { D with nx := u D } I h) fun f s1 q => ?_)
  cases f with
  | next =>
    obtain ⟨σ', H', I', q⟩ := q
    exact h2 pins s1 σ' H' D I' q
  | ret v => exact q
  | brk => exact q
  | cont => exact q
theorem pss_one (h1 : PS X st t) : PSs X [st] t := by
  intro pins s σ H D I h
  refine wpAny_execs_cons (thn (h1 pins s σ H D I h) fun f s1 q => ?_)
  cases f with
  | next => exact wpAny_execs_nil q
  | ret v => exact q
  | brk => exact q
  | cont => exact q
def tRet (te : TE) : TS := fun D σ H => te σ H D.rt
theorem ps_ret (he : PE X e te) : PS X (.Return (some e) pos) (tRet te) := by
  intro pins s σ H D I h
  exact wpAny_Return_some (thn (he pins s σ H _ I h) fun v s1 ⟨x, H1, I1, r1, q1⟩ => ⟨x, σ, H1, I1, r1, q1⟩)
def tIfS (c : TT) (t u : TS) : TS := fun D σ H => c σ H fun b H1 => if b = true then t D σ H1 else u D σ H1
theorem ps_if {c : Expr} {a b : List Stmt} {tc : TT} (hc : PT X c tc) (ha : PSs X a t) (hb : PSs X b u) : PS X (.If c a b pos) (tIfS tc t u) := by
  intro pins s σ H D I h
  refine wpAny_If (thn (hc pins s σ H _ I h) fun d s1 ⟨H1, I1, q1⟩ => ?_)
  cases d with
  | true => exact ha pins s1 σ H1 D I1 q1
  | false => exact hb pins s1 σ H1 D I1 q1
end

/-! ### targets -/
abbrev TG := V → St → Hp → (St → Hp → Prop) → Prop
abbrev TGs := List V → St → Hp → (St → Hp → Prop) → Prop
def PG (X : Cx) (target : Expr) (t : TG) : Prop :=
  ∀ (pins : List (Addr × Obj)) (s : Shared) (σ : St) (H : Hp) (v : V) (u : Value) (Q : St → Hp → Prop), Inv X pins σ H s → RelV v u → t v σ H Q →
    wpAny (model X.prog X.w) X.A (assign target X.env u) (fun _ s' => ∃ σ' H', Inv X pins σ' H' s' ∧ Q σ' H') X.xe s
/-- several targets, one after another -/
def PGs (X : Cx) (ts : List Expr) (t : TGs) : Prop :=
  ∀ (pins : List (Addr × Obj)) (s : Shared) (σ : St) (H : Hp) (vs : List V) (us : List Value) (Q : St → Hp → Prop), Inv X pins σ H s → Vals vs us → t vs σ H Q →
    wpAny (model X.prog X.w) X.A (assignInOrder ((assignEach ts X.env).map (·.2)) us) (fun _ s' => ∃ σ' H', Inv X pins σ' H' s' ∧ Q σ' H') X.xe s
/-- a op= b, by values -/
abbrev TIp := V → V → Hp → VK → Prop
def PIp (X : Cx) (op : Operator) (t : TIp) : Prop :=
  ∀ (pins : List (Addr × Obj)) (s : Shared) (σ : St) (H : Hp) (x y : V) (v u : Value) (Q : VK), Inv X pins σ H s → RelV x v → RelV y u → t x y H Q →
    wpAny (model X.prog X.w) X.A (inplaceOp op v u) (EP X pins σ Q) X.xe s
section
variable {X : Cx} {pos : Pos}
def gName (i : Nat) : TG := fun v σ H Q => Q (σ.set i (some v)) H
theorem pg_name {i : Nat} {x : Str} (hN : X.N.Nodup) (hi : X.N[i]? = some x) (hx : Loc X.env.scope x) (hf : X.fn x = true ∨ X.env.scope.names.lookup x = some .local := by first | exact .inl rfl | exact .inr rfl | assumption) : PG X (.Name x pos) (gName i) := by
  intro pins s σ H v u Q I r h
  exact wpAny_assign_Name (store_ok I hN hi hx r (fun s' I' => ⟨_, H, I', h⟩) hf)
def gNil : TGs := fun vs σ H Q => vs = [] ∧ Q σ H
def gCons (t : TG) (u : TGs) : TGs := fun vs σ H Q => ∃ v r, vs = v :: r ∧ t v σ H fun σ' H' => u r σ' H' Q
theorem pgs_nil : PGs X [] gNil := by
  intro pins s σ H vs us Q I r h
  obtain ⟨e, h⟩ := h
  subst e
  cases r
  exact assignInOrder_nil ⟨σ, H, I, h⟩
theorem pgs_cons {e : Expr} {es : List Expr} {t : TG} {u : TGs} (h1 : PG X e t) (h2 : PGs X es u)
    (hs : (assignEach (e :: es) X.env).map (·.2) = assign e X.env :: (assignEach es X.env).map (·.2) := by rfl) : PGs X (e :: es) (gCons t u) := by
  intro pins s σ H vs us Q I r h
  obtain ⟨v, vr, e1, h⟩ := h
  subst e1
  cases r with
  | cons r rr =>
    rw [hs]
    refine assignInOrder_cons (thn (h1 pins s σ H _ _ _ I r h) fun _ s1 ⟨σ1, H1, I1, q1⟩ => ?_)
    exact h2 pins s1 σ1 H1 _ _ Q I1 rr q1
/-- (a, b, ..) = a tuple of that length -/
def gTup (K : PySem.W.Frag) (n : Nat) (t : TGs) : TG := fun v σ H Q => ∃ a xs, v = .ref a ∧ SqT K H a xs ∧ xs.length = n ∧ t xs σ H Q
theorem pg_tup {es : List Expr} {k : Nat} {t : TGs} {n : Nat} (hc : X.calm = true) (h : PGs X es t)
    (hn : (assignEach es X.env).length = n := by rfl) (hst : (assignEach es X.env).findIdx? (·.1) = none := by rfl) : PG X (.Tuple es k pos) (gTup X.K n t) := by
  intro pins s σ H v u Q I r hw
  obtain ⟨a, xs, e1, hq, hl, hw⟩ := hw
  subst e1
  cases r
  obtain ⟨its, rv, ht, hz⟩ := I.tuple hq
  refine assign_Tuple_tuple (I.ok.hd hc) ht (by simp [hn, ← hl, rv.length]) hst fun h' hx => ?_
  have I1 : Inv X pins σ H { s with heap := h' } := I.kept (t' := s.toks) fun b o e => hx b o (Nat.ne_of_lt (Heap.lt_size e)) e
  exact h pins _ σ H xs _ Q I1 (by simpa using rv) hw
/-- target = value -/
def tAsg (te : TE) (g : TG) : TS := fun D σ H => te σ H fun x H1 => g x σ H1 D.nx
/-- name = value -/
theorem ps_set {i : Nat} {x : Str} {e : Expr} {te : TE} {pos' : Pos} (hN : X.N.Nodup) (hi : X.N[i]? = some x) (hx : Loc X.env.scope x) (he : PE X e te) (hs : swapsWith e (some (.Name x pos')) pos.line X.env = pure false := by rfl) (hf : X.fn x = true ∨ X.env.scope.names.lookup x = some .local := by first | exact .inl rfl | exact .inr rfl | assumption) :
    PS X (.Assign [.Name x pos'] e pos) (tAsg te (gName i)) := by
  intro pins s σ H D I h
  refine wpAny_Assign_Name (thn (he pins s σ H _ I h) fun v s1 ⟨y, H1, I1, r1, q1⟩ => ?_) hs
  exact store_ok I1 hN hi hx r1 (fun s2 I2 => ⟨_, H1, I2, q1⟩) hf
/-- name op= e -/
def tAug (i : Nat) (te : TE) (ti : TIp) : TS := fun D σ H => ∃ x, σ[i]? = some (some x) ∧ te σ H fun y H1 => ti x y H1 fun z H2 => D.nx (σ.set i (some z)) H2
theorem ps_aug {i : Nat} {x : Str} {e : Expr} {te : TE} {op : Operator} {ti : TIp} {pos' : Pos} (hN : X.N.Nodup) (hi : X.N[i]? = some x) (hx : Loc X.env.scope x) (he : PE X e te) (ho : PIp X op ti) (hf : X.fn x = true ∨ X.env.scope.names.lookup x = some .local := by first | exact .inl rfl | exact .inr rfl | assumption) :
    PS X (.AugAssign (.Name x pos') op e pos) (tAug i te ti) := by
  intro pins s σ H D I h
  obtain ⟨v, e1, h⟩ := h
  obtain ⟨m, hn, hl⟩ := I.loc
  have vis : Vis X.env.scope x := by rcases hx with k | k; exact .inl k; exact .inr (.inl k)
  obtain ⟨u, r, l⟩ := hl i x v hi e1 vis
  refine wpAny_AugAssign_Name ?_
  have go : wpAny (model X.prog X.w) X.A (eval e X.env) (fun w s₂ => wpAny (model X.prog X.w) X.A (inplaceOp op u w) (fun r s₃ => wpAny (model X.prog X.w) X.A (storeName X.env x r) (fun _ => SP X pins D .next) X.xe s₃) X.xe s₂) X.xe s := by
    refine thn (he pins s σ H _ I h) fun w s1 ⟨y, H1, I1, r1, q1⟩ => ?_
    refine thn (ho pins s1 σ H1 v y u w _ I1 r r1 q1) fun z s2 ⟨zv, H2, I2, r2, q2⟩ => ?_
    exact store_ok I2 hN hi hx r2 (fun s3 I3 => ⟨_, H2, I3, q2⟩) hf
  rcases l with ⟨hk, hm⟩ | ⟨hk, c, hc, hcell⟩
  · exact wpAny_loadName_local I.ok.kind hk hn hm go
  · rcases hk with hk | hk
    · exact wpAny_loadName_cell I.ok.kind hk hc hcell go
    · rcases hx with k | k
      · have : X.env.scope.names.lookup x = some .free := hk
        rw [k] at this; cases this
      · have : X.env.scope.names.lookup x = some .free := hk
        rw [k] at this; cases this
end

/-! ### while -/
section
variable {X : Cx} {pos : Pos}
/-- the invariant W with its measure -/
def tWhile (c : TT) (tb : TS) : TS := fun D σ H => ∃ W : Nat → St → Hp → Prop, (∃ m, W m σ H) ∧ ∀ m σ H, W m σ H →
  c σ H fun b H1 => if b = true then ∃ N : St → Hp → Prop, (∀ σ' H', N σ' H' → ∃ m', m' < m ∧ W m' σ' H') ∧ tb { D with nx := N, ct := N, bk := D.nx } σ H1 else D.nx σ H1
theorem ps_while {c : Expr} {body : List Stmt} {tc : TT} {tb : TS} (hp : PassesOwn (model X.prog X.w) X.A X.env X.xe) (hc : PT X c tc) (hb : PSs X body tb) : PS X (.While c body [] pos) (tWhile tc tb) := by
  intro pins s σ H D I h
  obtain ⟨W, ⟨m0, w0⟩, turn⟩ := h
  refine wpAny_While (codeAny_whileLoop (fun n s' => ∃ σ' H', Inv X pins σ' H' s' ∧ W n σ' H') ?_ m0 ⟨σ, H, I, w0⟩)
  rintro n s1 ⟨σ1, H1, I1, w1⟩
  refine wpAny_passesOwn hp (thn (hc pins s1 σ1 H1 _ I1 (turn n σ1 H1 w1)) fun b s2 ⟨H2, I2, q2⟩ => ?_)
  cases b with
  | true =>
    obtain ⟨N, hN, q2⟩ := q2
    rw [if_pos rfl]
    refine wpAny_passesOwn hp (thn (hb pins s2 σ1 H2 _ I2 q2) fun f s3 q3 => ?_)
    cases f with
    | next =>
      obtain ⟨σ3, H3, I3, n3⟩ := q3
      obtain ⟨m', hm, w3⟩ := hN σ3 H3 n3
      exact ⟨m', hm, σ3, H3, I3, w3⟩
    | cont =>
      obtain ⟨σ3, H3, I3, n3⟩ := q3
      obtain ⟨m', hm, w3⟩ := hN σ3 H3 n3
      exact ⟨m', hm, σ3, H3, I3, w3⟩
    | brk => exact q3
    | ret v => exact q3
  | false =>
    rw [if_neg Bool.false_ne_true]
    exact wpAny_execs_nil ⟨σ1, H2, I2, q2⟩
end

/-! ### what a loop or a comprehension walks -/
/-- at turn i: it yields x (the heap may grow), or it stops -/
structure It where
  go : Nat → Hp → Prop
  yld : Nat → Hp → V → Hp → Prop
  stop : Nat → Hp → Prop
/-- the iterator's own objects may turn: they are not the frame's, not pinned, younger than the entry (or a comprehension's own) -/
def FpOk (X : Cx) (pins : List (Addr × Obj)) (H : Hp) (b : Addr) : Prop :=
  H b = none ∧ b ≠ X.env.locals ∧ b ∉ X.fs ∧ (b ∈ X.ex ∨ X.s_0.heap.objs.size ≤ b) ∧ (∀ x c, X.env.cells.lookup x = some c → c ≠ b) ∧ ∀ p ∈ X.pn ++ pins, p.1 ≠ b
theorem Inv.fpOk {X : Cx} {pins : List (Addr × Obj)} {σ : St} {H H' : Hp} {s : Shared} {b : Addr} (I : Inv X pins σ H s) (hb : s.heap.objs.size ≤ b) (hn : H' b = none) : FpOk X pins H' b := by
  refine ⟨hn, Nat.ne_of_gt (Nat.lt_of_lt_of_le I.lt hb), I.nofs hb, .inr (Nat.le_trans I.sz hb), fun x c e z => ?_, fun p hp z => ?_⟩
  · obtain ⟨v, q⟩ := I.cell x c e
    exact absurd (Nat.lt_of_lt_of_le q.lt (by rw [z]; exact hb)) (Nat.lt_irrefl _)
  · exact absurd (Nat.lt_of_lt_of_le (Heap.lt_size (I.pin p hp).1) (by rw [z]; exact hb)) (Nat.lt_irrefl _)
structure Turn (P : Program) (w : World) (K : PySem.W.Frag) (tg : Expr) (J : It) (fp : List Addr) (it : Addr) (tn : Nat → Heap → Prop) : Prop where
  mem : it ∈ fp
  obj : ∀ i h, tn i h → ∀ b ∈ fp, ∃ o, h.get? b = some o ∧ ∀ v, o.data ≠ .cell v
  keep : ∀ i h h', tn i h → (∀ b ∈ fp, ∀ o, h.get? b = some o → h'.get? b = some o) → tn i h'
  item : ∀ (X : Cx), X.prog = P → X.w = w → X.K = K → X.calm = true → ∀ (i : Nat) (pins : List (Addr × Obj)) (s : Shared) (σ : St) (H : Hp) (E : Value → Shared → Prop), Inv X pins σ H s → (∀ b ∈ fp, FpOk X pins H b) → tn i s.heap → J.go i H →
    wpAny (model P w) X.A (pyNext (.ref it)) (fun r s1 => ∃ u, r = some u ∧
      wpAny (model P w) X.A (letOwnedTupleGo tg (.ref it) u) (fun _ s2 => ∃ x H', Inv X pins σ H' s2 ∧ RelV x u ∧ J.yld i H x H' ∧ tn (i + 1) s2.heap ∧ ∀ b ∈ fp, H' b = none) E s1) E s
  done : ∀ (X : Cx), X.prog = P → X.w = w → X.K = K → X.calm = true → ∀ (i : Nat) (pins : List (Addr × Obj)) (s : Shared) (σ : St) (H : Hp) (E : Value → Shared → Prop), Inv X pins σ H s → (∀ b ∈ fp, FpOk X pins H b) → tn i s.heap → J.stop i H →
    wpAny (model P w) X.A (pyNext (.ref it)) (fun r s1 => r = none ∧ Inv X pins σ H s1) E s
  self : ∀ (A : Around) (i : Nat) (s : Shared) (Q : Value → Shared → Prop) (E : Value → Shared → Prop), tn i s.heap → Q (.ref it) s → wpAny (model P w) A (pyIter (.ref it)) Q E s
abbrev TI := St → Hp → (It → Hp → Prop) → Prop
/-- an iterator has come -/
def PIE (X : Cx) (pins : List (Addr × Obj)) (σ : St) (tg : Expr) (R : It → Hp → Prop) (itv : Value) (s2 : Shared) : Prop :=
  ∃ (it : Addr) (fp : List Addr) (tn : Nat → Heap → Prop) (J : It) (H' : Hp), itv = .ref it ∧ Inv X pins σ H' s2 ∧ Turn X.prog X.w X.K tg J fp it tn ∧ tn 0 s2.heap ∧ (∀ b ∈ fp, FpOk X pins H' b) ∧ R J H'
def PI (X : Cx) (tg iter : Expr) (wi : TI) : Prop :=
  ∀ (pins : List (Addr × Obj)) (s : Shared) (σ : St) (H : Hp) (R : It → Hp → Prop), Inv X pins σ H s → wi σ H R →
    wpAny (model X.prog X.w) X.A (eval iter X.env) (fun v s1 => wpAny (model X.prog X.w) X.A (pyIter v) (PIE X pins σ tg R) X.xe s1) X.xe s

/-- the step ahead of the store is nothing for an iterator that keeps no tuple -/
theorem go_of {M : Model} {A : Around} {E : Value → Shared → Prop} {s : Shared} {tg : Expr} {it : Addr} {u : Value} {o : Obj} {n : String} {vs : Array Value} {Q : Unit → Shared → Prop} (ho : s.heap.get? it = some o) (hc : o.cls = .type n) (hd : o.data = .fields vs)
    (hn : ["enumerate", "zip", "dict_itemiterator", "dict_reverseitemiterator", "odict_iterator", "itertools.zip_longest", "itertools.pairwise"].contains n = false) (hQ : Q () s) : wpAny M A (letOwnedTupleGo tg (.ref it) u) Q E s := by
  unfold letOwnedTupleGo
  cases tg <;> first
    | exact wpAny_pure hQ
    | (cases u <;> first
        | exact wpAny_pure hQ
        | (refine wpAny_bind (wpAny_load ho ?_)
           rw [hc, hd]
           show wpAny M A (if (["enumerate", "zip", "dict_itemiterator", "dict_reverseitemiterator", "odict_iterator", "itertools.zip_longest", "itertools.pairwise"].contains n && vs[0]? == some (rawInt _)) = true then _ else _) Q E s
           rw [if_neg (by intro h; rw [hn, Bool.false_and] at h; cases h)]
           exact wpAny_pure hQ))

/-- the list at a, as it stands at each turn (a loop may append to it) -/
def Itl (K : PySem.W.Frag) (a : Addr) : It :=
  ⟨fun i H => ∃ xs x, SqL K H a xs ∧ xs[i]? = some x, fun i H x H' => H' = H ∧ ∀ xs, SqL K H a xs → xs[i]? = some x, fun i H => ∃ xs, SqL K H a xs ∧ xs.length ≤ i⟩
theorem turn_list {P : Program} {w : World} {K : PySem.W.Frag} {tg : Expr} (a it : Addr) : Turn P w K tg (Itl K a) [it] it (fun i h => h.IsListIter it a i) where
  mem := by simp
  obj := fun i h st b hb => by
    have e : b = it := by simpa using hb
    subst e
    obtain ⟨o, e, c, d⟩ := st
    exact ⟨o, e, fun v z => by rw [d] at z; cases z⟩
  keep := fun i h h' st k => st.at fun o e => k it (by simp) o e
  item := by
    intro X hP hw hK hc i pins s σ H E I hf st hg
    subst hP hw hK
    obtain ⟨xs, x, hq, hx⟩ := hg
    obtain ⟨its, rv, p, hz⟩ := I.list hq
    obtain ⟨u, hu, ru⟩ := rv.get hx
    obtain ⟨f0, f1, f2, f3, f4, f5⟩ := hf it (by simp)
    refine wpAny_pyNext_list_item st p.isList (x := u) (by simpa using hu) fun h' st' sb => ?_
    have I1 : Inv X pins σ H { s with heap := h' } := I.turned (t' := s.toks) (fun b o hb e => (sb.2 b hb).trans e) f0 f1 f3 f4 f5
    obtain ⟨o, e, c, d⟩ := id st'
    exact ⟨u, rfl, go_of (s := { s with heap := h' }) e c d (by decide) ⟨x, H, I1, ru, ⟨rfl, fun ys hy => by rw [I.list_inj hy hq]; exact hx⟩, st', fun b hb => (hf b hb).1⟩⟩
  done := by
    intro X hP hw hK hc i pins s σ H E I hf st hg
    subst hP hw hK
    obtain ⟨xs, hq, hx⟩ := hg
    obtain ⟨its, rv, p, hz⟩ := I.list hq
    obtain ⟨f0, f1, f2, f3, f4, f5⟩ := hf it (by simp)
    have hl := rv.length
    exact wpAny_pyNext_list_end (I.ok.hd hc) st p.isList (by simp; omega) fun h' eb => ⟨rfl, I.turned (t' := s.toks) (fun b o hb e => eb b o hb e) f0 f1 f3 f4 f5⟩
  self := fun _ _ _ _ _ st h => wpAny_pyIter_listiter st h
end L2

namespace L2
open PySem PySem.Spec PyProof.Rows
section
variable {X : Cx} {tg : Expr}
def iList (K : PySem.W.Frag) (tl : TE) : TI := fun σ H R => tl σ H fun x H1 => ∃ a, x = .ref a ∧ (∃ xs, SqL K H1 a xs) ∧ R (Itl K a) H1
theorem pi_list {l : Expr} {tl : TE} (hl : PE X l tl) : PI X tg l (iList X.K tl) := by
  intro pins s σ H R I h
  refine thn (hl pins s σ H _ I h) fun v s1 ⟨x, H1, I1, r1, q1⟩ => ?_
  obtain ⟨a, e, ⟨xs, hq⟩, q⟩ := q1
  subst e
  cases r1
  obtain ⟨its, rv, p, hz⟩ := I1.list hq
  refine wpAny_pyIter_list p.isList ?_
  refine ⟨s1.heap.objs.size, [s1.heap.objs.size], _, _, H1, rfl, I1.kept (t' := s1.toks) fun b o e => Heap.get?_push_of_some _ e, turn_list a _, ⟨_, Heap.get?_push_size _ rfl, rfl, rfl⟩, fun b hb => ?_, q⟩
  have e : b = s1.heap.objs.size := by simpa using hb
  subst e
  exact I1.fpOk (Nat.le_refl _) (I1.hok.fresh (Nat.le_refl _))

/-! ### for -/
/-- W: the invariant by the turn and a measure; N: what the body is to reach -/
def tFor (wi : TI) (g : TG) (tb : TS) : TS := fun D σ H => wi σ H fun J H1 => ∃ W : Nat → Nat → St → Hp → Prop, (∃ m, W 0 m σ H1) ∧ ∀ i m σ H, W i m σ H →
  (J.stop i H ∧ D.nx σ H) ∨ (J.go i H ∧ ∃ N : St → Hp → Prop, (∀ σ' H', N σ' H' → ∃ m', m' < m ∧ W (i + 1) m' σ' H') ∧ ∀ x H', J.yld i H x H' → g x σ H' fun σ2 H2 => tb { D with nx := N, ct := N, bk := D.nx } σ2 H2)
/-- the records at fp as they stand -/
def pinsAt (fp : List Addr) (h : Heap) : List (Addr × Obj) := fp.filterMap fun b => (h.get? b).map fun o => (b, o)
theorem mem_pinsAt {fp : List Addr} {h : Heap} {b : Addr} {o : Obj} (hb : b ∈ fp) (e : h.get? b = some o) : (b, o) ∈ pinsAt fp h := List.mem_filterMap.mpr ⟨b, hb, by rw [e]; rfl⟩
theorem of_pinsAt {fp : List Addr} {h : Heap} {p : Addr × Obj} (hp : p ∈ pinsAt fp h) : p.1 ∈ fp ∧ h.get? p.1 = some p.2 := by
  obtain ⟨b, hb, e⟩ := List.mem_filterMap.mp hp
  cases q : h.get? b with
  | none => rw [q] at e; cases e
  | some o =>
    rw [q] at e
    have e' : (b, o) = p := Option.some.inj e
    subst e'
    exact ⟨hb, q⟩
theorem Inv.pinned {pins : List (Addr × Obj)} {σ : St} {H : Hp} {s : Shared} {fp : List Addr} (I : Inv X pins σ H s) (hf : ∀ b ∈ fp, FpOk X pins H b) (ho : ∀ b ∈ fp, ∃ o, s.heap.get? b = some o ∧ ∀ v, o.data ≠ .cell v) : Inv X (pins ++ pinsAt fp s.heap) σ H s :=
  I.pins_of fun p hp => (List.mem_append.mp hp).elim (fun z => I.pin p (List.mem_append_right _ z)) fun z => by
    obtain ⟨hb, e⟩ := of_pinsAt z
    obtain ⟨f0, f1, f2, _⟩ := hf p.1 hb
    obtain ⟨o, e', d⟩ := ho p.1 hb
    rw [e] at e'; cases e'
    exact ⟨e, f0, f1, f2, d⟩
theorem Inv.unpinned {pins pl : List (Addr × Obj)} {σ : St} {H : Hp} {s : Shared} (I : Inv X (pins ++ pl) σ H s) : Inv X pins σ H s := I.pins_of fun p hp => I.pin p (List.mem_append_right _ (List.mem_append_left _ hp))
theorem ps_for {iter : Expr} {body : List Stmt} {wi : TI} {g : TG} {tb : TS} {pos : Pos} (hp : PassesOwn (model X.prog X.w) X.A X.env X.xe) (hc : X.calm = true) (hi : PI X tg iter wi) (hg : PG X tg g) (hb : PSs X body tb)
    (hs : ∀ x, foldedSetIterable iter X.env x = pure x := by intro _; rfl) : PS X (.For tg iter body [] pos) (tFor wi g tb) := by
  intro pins s σ H D I h
  refine wpAny_For (thn (hi pins s σ H _ I h) fun v s1 h1 => thn h1 fun itv s2 h2 => ?_) hs
  obtain ⟨it, fp, tn, J, H2, e, I2, T, st2, f2, W, ⟨m0, w0⟩, turn⟩ := h2
  subst e
  -- what stays true of the iterator's objects through the loop
  have stat : ∀ {H' : Hp}, (∀ b ∈ fp, H' b = none) → ∀ b ∈ fp, FpOk X pins H' b := fun hn b hb => ⟨hn b hb, (f2 b hb).2⟩
  refine codeAny_forLoop_any (fun n s' => ∃ i σ' H', Inv X pins σ' H' s' ∧ tn i s'.heap ∧ (∀ b ∈ fp, H' b = none) ∧ W i n σ' H') ?_ m0 ⟨0, σ, H2, I2, st2, fun b hb => (f2 b hb).1, w0⟩
  rintro n s3 ⟨i, σ3, H3, I3, st3, fr3, w3⟩
  rcases turn i n σ3 H3 w3 with ⟨stop, qn⟩ | ⟨go, N, hN, step⟩
  · refine wpAny_passesOwn hp (thn (T.done X rfl rfl rfl hc i pins s3 σ3 H3 X.xe I3 (stat fr3) st3 stop) fun r s4 ⟨hr, I4⟩ => ?_)
    subst hr
    exact wpAny_execs_nil ⟨σ3, H3, I4, qn⟩
  · refine wpAny_passesOwn hp (thn (T.item X rfl rfl rfl hc i pins s3 σ3 H3 X.xe I3 (stat fr3) st3 go) fun r s4 ⟨u, hr, h4⟩ => ?_)
    subst hr
    refine wpAny_passesOwn hp (thn h4 fun _ s5 ⟨x, H5, I5, r5, y5, st5, fr5⟩ => ?_)
    have I5' := I5.pinned (stat fr5) (T.obj _ _ st5)
    refine wpAny_passesOwn hp (thn (hg _ s5 σ3 H5 x u _ I5' r5 (step x H5 y5)) fun _ s6 ⟨σ6, H6, I6, q6⟩ => ?_)
    refine wpAny_passesOwn hp (thn (hb _ s6 σ6 H6 _ I6 q6) fun f s7 q7 => ?_)
    have again : ∀ {σ7 : St} {H7 : Hp}, Inv X (pins ++ pinsAt fp s5.heap) σ7 H7 s7 → N σ7 H7 → ∃ m, m < n ∧ ∃ i σ' H', Inv X pins σ' H' s7 ∧ tn i s7.heap ∧ (∀ b ∈ fp, H' b = none) ∧ W i m σ' H' := fun {σ7 H7} I7 n7 => by
      obtain ⟨m', hm, w7⟩ := hN σ7 H7 n7
      refine ⟨m', hm, i + 1, σ7, H7, I7.unpinned, T.keep _ _ _ st5 fun b hb o e => (I7.pin (b, o) (List.mem_append_right _ (List.mem_append_right _ (mem_pinsAt hb e)))).1, fun b hb => ?_, w7⟩
      obtain ⟨o, e, d⟩ := T.obj _ _ st5 b hb
      exact (I7.pin (b, o) (List.mem_append_right _ (List.mem_append_right _ (mem_pinsAt hb e)))).2.1
    cases f with
    | next => obtain ⟨σ7, H7, I7, n7⟩ := q7; exact again I7 n7
    | cont => obtain ⟨σ7, H7, I7, n7⟩ := q7; exact again I7 n7
    | brk => obtain ⟨σ7, H7, I7, q7⟩ := q7; exact ⟨σ7, H7, I7.unpinned, q7⟩
    | ret v => obtain ⟨x7, σ7, H7, I7, r7, q7⟩ := q7; exact ⟨x7, σ7, H7, I7.unpinned, r7, q7⟩
end

/-! ### the forms one uses -/
/-- over a list that the body leaves as it is -/
theorem for_list {K : PySem.W.Frag} {a : Addr} {xs : List V} {g : TG} {tb : TS} {D : Ends} {σ : St} {H : Hp} (Pv : Nat → St → Hp → Prop) (h0 : Pv 0 σ H) (hl : ∀ i σ H, i ≤ xs.length → Pv i σ H → SqL K H a xs)
    (hs : ∀ i x σ H, xs[i]? = some x → Pv i σ H → g x σ H fun σ2 H2 => tb { D with nx := Pv (i + 1), ct := Pv (i + 1), bk := D.nx } σ2 H2) (hd : ∀ σ H, Pv xs.length σ H → D.nx σ H) :
    ∃ W : Nat → Nat → St → Hp → Prop, (∃ m, W 0 m σ H) ∧ ∀ i m σ H, W i m σ H →
      ((Itl K a).stop i H ∧ D.nx σ H) ∨ ((Itl K a).go i H ∧ ∃ N : St → Hp → Prop, (∀ σ' H', N σ' H' → ∃ m', m' < m ∧ W (i + 1) m' σ' H') ∧ ∀ x H', (Itl K a).yld i H x H' → g x σ H' fun σ2 H2 => tb { D with nx := N, ct := N, bk := D.nx } σ2 H2) := by
  refine ⟨fun i m σ H => m = xs.length - i ∧ i ≤ xs.length ∧ Pv i σ H, ⟨xs.length, by simp, Nat.zero_le _, h0⟩, ?_⟩
  rintro i m σ H ⟨rfl, hi, p⟩
  have q := hl i σ H hi p
  by_cases hlt : i < xs.length
  · refine .inr ⟨⟨xs, xs[i], q, by simp [hlt]⟩, Pv (i + 1), fun σ' H' p' => ⟨xs.length - (i + 1), by omega, rfl, hlt, p'⟩, fun x H' y => ?_⟩
    obtain ⟨e, y⟩ := y
    subst e
    exact hs i x σ _ (y xs q) p
  · have e : i = xs.length := by omega
    subst e
    exact .inl ⟨⟨xs, q, Nat.le_refl _⟩, hd σ H p⟩
/-- while, by a word and a measure of the state -/
theorem while_by {c : TT} {tb : TS} {D : Ends} {σ : St} {H : Hp} (Pv : St → Hp → Prop) (μ : St → Hp → Nat) (h0 : Pv σ H)
    (hs : ∀ σ H, Pv σ H → c σ H fun b H1 => if b = true then tb { D with nx := fun σ' H' => Pv σ' H' ∧ μ σ' H' < μ σ H, ct := fun σ' H' => Pv σ' H' ∧ μ σ' H' < μ σ H, bk := D.nx } σ H1 else D.nx σ H1)
    (mono : ∀ σ H Q Q', (∀ b H1, Q b H1 → Q' b H1) → c σ H Q → c σ H Q') : tWhile c tb D σ H := by
  refine ⟨fun m σ H => m = μ σ H ∧ Pv σ H, ⟨_, rfl, h0⟩, ?_⟩
  rintro m σ H ⟨rfl, p⟩
  refine mono σ H _ _ (fun b H1 q => ?_) (hs σ H p)
  cases b with
  | true => exact ⟨_, fun σ' H' ⟨p', l⟩ => ⟨_, l, rfl, p'⟩, q⟩
  | false => exact q
end L2

namespace L2
open PySem PySem.Spec PyProof.Rows

abbrev R2 := V → V → Hp → VK → Prop
/-- a two-place operation on values: f is binaryOp op, inplaceOp op or compareOp op -/
def OpR (X : Cx) (f : Value → Value → Sem Value) (r : R2) : Prop :=
  ∀ (pins : List (Addr × Obj)) (s : Shared) (σ : St) (H : Hp) (x y : V) (v u : Value) (Q : VK), Inv X pins σ H s → RelV x v → RelV y u → r x y H Q →
    wpAny (model X.prog X.w) X.A (f v u) (EP X pins σ Q) X.xe s
/-- a one-place operation -/
def UnR (X : Cx) (f : Value → Sem Value) (r : V → Hp → VK → Prop) : Prop :=
  ∀ (pins : List (Addr × Obj)) (s : Shared) (σ : St) (H : Hp) (x : V) (v : Value) (Q : VK), Inv X pins σ H s → RelV x v → r x H Q →
    wpAny (model X.prog X.w) X.A (f v) (EP X pins σ Q) X.xe s
/-- a call of a value that is known (a builtin, a type) with values -/
def CallR (X : Cx) (f : Value) (r : List V → Hp → VK → Prop) : Prop :=
  ∀ (pins : List (Addr × Obj)) (s : Shared) (σ : St) (H : Hp) (xs : List V) (us : List Value) (Q : VK), Inv X pins σ H s → Vals xs us → r xs H Q →
    wpAny (model X.prog X.w) X.A (call f us) (EP X pins σ Q) X.xe s

def tOp (r : R2) (ta tb : TE) : TE := fun σ H Q => ta σ H fun x H1 => tb σ H1 fun y H2 => r x y H2 Q
def tUn (r : V → Hp → VK → Prop) (ta : TE) : TE := fun σ H Q => ta σ H fun x H1 => r x H1 Q
/-- ints in, under C, and a value out -/
def rI (C : Int → Int → Prop) (g : Int → Int → V) : R2 := fun x y H Q => ∃ i j, x = .int i ∧ y = .int j ∧ C i j ∧ Q (g i j) H
def rI0 (g : Int → Int → V) : R2 := fun x y H Q => ∃ i j, x = .int i ∧ y = .int j ∧ Q (g i j) H
def rU (g : Int → V) : V → Hp → VK → Prop := fun x H Q => ∃ i, x = .int i ∧ Q (g i) H

section
variable {X : Cx} {a b c : Expr} {ta tb tc : TE} {pos : Pos}

theorem binT (ha : PE X a ta) (hb : PE X b tb) {pins : List (Addr × Obj)} {s : Shared} {σ : St} {H : Hp} {R : V → V → Hp → Prop} (I : Inv X pins σ H s)
    (h : ta σ H fun x H1 => tb σ H1 fun y H2 => R x y H2) {Q : Value → Shared → Prop} {f : Value → Value → Sem Value}
    (hf : ∀ v u s2 x y H2, Inv X pins σ H2 s2 → RelV x v → RelV y u → R x y H2 → wpAny (model X.prog X.w) X.A (f v u) Q X.xe s2) :
    wpAny (model X.prog X.w) X.A (eval a X.env) (fun v s₁ => wpAny (model X.prog X.w) X.A (eval b X.env) (fun u s₂ => wpAny (model X.prog X.w) X.A (f v u) Q X.xe s₂) X.xe s₁) X.xe s := by
  refine thn (ha pins s σ H _ I h) fun v s1 ⟨x, H1, I1, r1, q1⟩ => ?_
  refine thn (hb pins s1 σ H1 _ I1 q1) fun u s2 ⟨y, H2, I2, r2, q2⟩ => ?_
  exact hf v u s2 x y H2 I2 r1 r2 q2

theorem pe_op {op : Operator} {r : R2} (ho : OpR X (binaryOp op) r) (ha : PE X a ta) (hb : PE X b tb) : PE X (.BinOp a op b pos) (tOp r ta tb) := by
  intro pins s σ H Q I h
  exact wpAny_BinOp (binT ha hb I h fun v u s2 x y H2 I2 rx ry q => ho pins s2 σ H2 x y v u Q I2 rx ry q)
theorem pe_un {op : UnaryOp} {r : V → Hp → VK → Prop} (ho : UnR X (unaryOp op) r) (ha : PE X a ta) : PE X (.UnaryOp op a pos) (tUn r ta) := by
  intro pins s σ H Q I h
  exact UnaryOp_ (thn (ha pins s σ H _ I h) fun v s1 ⟨x, H1, I1, r1, q1⟩ => ho pins s1 σ H1 x v Q I1 r1 q1)

/-! ### ints -/
theorem opI {f : Value → Value → Sem Value} {C : Int → Int → Prop} {g : Int → Int → Int}
    (rule : ∀ (i j : Int) (t u : Tok) (s : Shared) (Q : Value → Shared → Prop) (E : Value → Shared → Prop), C i j → Q (.int (g i j) s.toks) { s with toks := s.toks + 1 } → wpAny (model X.prog X.w) X.A (f (.int i t) (.int j u)) Q E s) :
    OpR X f (rI C fun i j => .int (g i j)) := by
  intro pins s σ H x y v u Q I rx ry h
  obtain ⟨i, j, rfl, rfl, hc, q⟩ := h
  obtain ⟨t, rfl⟩ := rx
  obtain ⟨t', rfl⟩ := ry
  exact rule i j t t' s _ _ hc ⟨.int (g i j), H, I.tok _, ⟨_, rfl⟩, q⟩
theorem opI0 {f : Value → Value → Sem Value} {g : Int → Int → Int}
    (rule : ∀ (i j : Int) (t u : Tok) (s : Shared) (Q : Value → Shared → Prop) (E : Value → Shared → Prop), Q (.int (g i j) s.toks) { s with toks := s.toks + 1 } → wpAny (model X.prog X.w) X.A (f (.int i t) (.int j u)) Q E s) :
    OpR X f (rI0 fun i j => .int (g i j)) := by
  intro pins s σ H x y v u Q I rx ry h
  obtain ⟨i, j, rfl, rfl, q⟩ := h
  obtain ⟨t, rfl⟩ := rx
  obtain ⟨t', rfl⟩ := ry
  exact rule i j t t' s _ _ ⟨.int (g i j), H, I.tok _, ⟨_, rfl⟩, q⟩
theorem opB0 {f : Value → Value → Sem Value} {g : Int → Int → Bool}
    (rule : ∀ (i j : Int) (t u : Tok) (s : Shared) (Q : Value → Shared → Prop) (E : Value → Shared → Prop), Q (.bool (g i j)) s → wpAny (model X.prog X.w) X.A (f (.int i t) (.int j u)) Q E s) :
    OpR X f (rI0 fun i j => .bl (g i j)) := by
  intro pins s σ H x y v u Q I rx ry h
  obtain ⟨i, j, rfl, rfl, q⟩ := h
  obtain ⟨t, rfl⟩ := rx
  obtain ⟨t', rfl⟩ := ry
  exact rule i j t t' s _ _ ⟨.bl (g i j), H, I, rfl, q⟩

def CDiv (i j : Int) : Prop := 0 < j ∧ j < 1073741824
def CMul (i j : Int) : Prop := (-(2 ^ 64) < i ∧ i < 2 ^ 64) ∨ (-(2 ^ 64) < j ∧ j < 2 ^ 64)
theorem CMul.ok {i j : Int} (h : CMul i j) : IntMulOk i j := by
  rcases h with ⟨h1, h2⟩ | ⟨h1, h2⟩
  · exact .of_left (intBits_le_64 h1 h2)
  · exact .of_right (intBits_le_64 h1 h2)

theorem op_add : OpR X (binaryOp .Add) (rI0 fun i j => .int (i + j)) := opI0 fun _ _ _ _ _ _ _ q => add_int q
theorem op_sub : OpR X (binaryOp .Sub) (rI0 fun i j => .int (i - j)) := opI0 fun _ _ _ _ _ _ _ q => sub_int q
theorem op_mul : OpR X (binaryOp .Mult) (rI CMul fun i j => .int (i * j)) := opI fun _ _ _ _ _ _ _ hc q => mul_int q hc.ok
/-- // by a positive divisor -/
theorem op_fdiv : OpR X (binaryOp .FloorDiv) (rI CDiv fun i j => .int (i / j)) := opI fun i j _ _ _ _ _ hc q => by
  have h1 : (0 : Int) < j := hc.1
  have h2 : j < 1073741824 := hc.2
  exact floordiv_int (by omega) (by rw [Int.fdiv_eq_ediv_of_nonneg i (by omega)]; exact q) (.inl (PyProof.noPylong_small (by omega)))
/-- % by a positive divisor of any size -/
theorem op_mod : OpR X (binaryOp .Mod) (rI (fun _ j => 0 < j) fun i j => .int (i % j)) := opI fun i j _ _ _ _ _ hc q => by
  have h1 : (0 : Int) < j := hc
  exact mod_int' (by omega) (by rw [Int.fmod_eq_emod_of_nonneg i (by omega)]; exact q)

theorem iop_add : OpR X (inplaceOp .Add) (rI0 fun i j => .int (i + j)) := opI0 fun _ _ _ _ _ _ _ q => iadd_int q
theorem iop_sub : OpR X (inplaceOp .Sub) (rI0 fun i j => .int (i - j)) := opI0 fun _ _ _ _ _ _ _ q => isub_int q

theorem unI {f : Value → Sem Value} {g : Int → Int}
    (rule : ∀ (i : Int) (t : Tok) (s : Shared) (Q : Value → Shared → Prop) (E : Value → Shared → Prop), Q (.int (g i) s.toks) { s with toks := s.toks + 1 } → wpAny (model X.prog X.w) X.A (f (.int i t)) Q E s) :
    UnR X f (rU fun i => .int (g i)) := by
  intro pins s σ H x v Q I rx h
  obtain ⟨i, rfl, q⟩ := h
  obtain ⟨t, rfl⟩ := rx
  exact rule i t s _ _ ⟨.int (g i), H, I.tok _, ⟨_, rfl⟩, q⟩
theorem un_neg : UnR X (unaryOp .USub) (rU fun i => .int (-i)) := unI fun _ _ _ _ _ q => neg_int q

/-! ### bools among ints: n += (a < b) -/
end

/-! ### comparisons -/
/-- the scalars that == tells apart as data does -/
def scal : V → V → Bool
  | .non, .non => true | .non, .int _ => true | .int _, .non => true | .non, .bl _ => true | .bl _, .non => true | .non, .str _ => true | .str _, .non => true
  | .int _, .int _ => true | .bl _, .bl _ => true | .str _, .str _ => true | .byt _, .byt _ => true
  | .int _, .str _ => true | .str _, .int _ => true | .bl _, .str _ => true | .str _, .bl _ => true
  | _, _ => false
def rEq : R2 := fun x y H Q => scal x y = true ∧ Q (.bl (decide (x = y))) H
def rNe : R2 := fun x y H Q => scal x y = true ∧ Q (.bl (!decide (x = y))) H

theorem dec_int {i j : Int} : decide (V.int i = V.int j) = (i == j) := by
  rw [Bool.eq_iff_iff]
  simp
theorem dec_bl {i j : Bool} : decide (V.bl i = V.bl j) = (i == j) := by
  rw [Bool.eq_iff_iff]
  simp
theorem dec_str {i j : Str} : decide (V.str i = V.str j) = (i == j) := by
  rw [Bool.eq_iff_iff]
  simp
theorem dec_byt {i j : Array UInt8} : decide (V.byt i = V.byt j) = (i.toList == j.toList) := by
  rw [Bool.eq_iff_iff]
  cases i
  cases j
  simp

section
variable {X : Cx} {a b c : Expr} {ta tb tc : TE} {pos : Pos}
theorem fin_bl {pins : List (Addr × Obj)} {σ : St} {H : Hp} {s : Shared} {Q : VK} {k k' : Bool} (I : Inv X pins σ H s) (q : Q (.bl k) H) (e : k = k') : EP X pins σ Q (.bool k') s := by
  subst e
  exact ⟨.bl k, H, I, rfl, q⟩
theorem op_eq : OpR X (compareOp .Eq) rEq := by
  intro pins s σ H x y v u Q I rx ry h
  obtain ⟨hs, q⟩ := h
  cases x with
  | non =>
    cases rx
    cases y with
    | non => cases ry; exact PySem.EqNone.eq_none_none (fin_bl I q (by simp))
    | bl j => cases ry; exact PySem.EqNone.eq_none_bool (fin_bl I q (by simp))
    | int j => obtain ⟨t', rfl⟩ := ry; exact PySem.EqNone.eq_none_int (fin_bl I q (by simp))
    | str j => obtain ⟨t', rfl⟩ := ry; exact PySem.EqNone.eq_none_str (fin_bl I q (by simp))
    | _ => exact absurd (show false = true from hs) Bool.false_ne_true
  | bl i =>
    cases rx
    cases y with
    | non => cases ry; exact PySem.EqNone.eq_bool_none (fin_bl I q (by simp))
    | bl j => cases ry; exact eq_bool (fin_bl I q dec_bl)
    | str j => obtain ⟨t', rfl⟩ := ry; exact PySem.EqMixed.eq_bool_str (fin_bl I q (by simp))
    | _ => exact absurd (show false = true from hs) Bool.false_ne_true
  | int i =>
    obtain ⟨t, rfl⟩ := rx
    cases y with
    | non => cases ry; exact PySem.EqNone.eq_int_none (fin_bl I q (by simp))
    | int j => obtain ⟨t', rfl⟩ := ry; exact eq_int (fin_bl I q dec_int)
    | str j => obtain ⟨t', rfl⟩ := ry; exact PySem.EqMixed.eq_int_str (fin_bl I q (by simp))
    | _ => exact absurd (show false = true from hs) Bool.false_ne_true
  | str i =>
    obtain ⟨t, rfl⟩ := rx
    cases y with
    | non => cases ry; exact PySem.EqNone.eq_str_none (fin_bl I q (by simp))
    | bl j => cases ry; exact PySem.EqMixed.eq_str_bool (fin_bl I q (by simp))
    | int j => obtain ⟨t', rfl⟩ := ry; exact PySem.EqMixed.eq_str_int (fin_bl I q (by simp))
    | str j => obtain ⟨t', rfl⟩ := ry; exact eq_str (fin_bl I q dec_str)
    | _ => exact absurd (show false = true from hs) Bool.false_ne_true
  | byt i =>
    obtain ⟨t, rfl⟩ := rx
    cases y with
    | byt j => obtain ⟨t', rfl⟩ := ry; exact PySem.W.eq_bytes (fin_bl I q dec_byt)
    | _ => exact absurd (show false = true from hs) Bool.false_ne_true
  | _ => cases y <;> exact absurd (show false = true from hs) Bool.false_ne_true
theorem op_ne : OpR X (compareOp .NotEq) rNe := by
  intro pins s σ H x y v u Q I rx ry h
  obtain ⟨hs, q⟩ := h
  cases x with
  | non =>
    cases rx
    cases y with
    | non => cases ry; exact PySem.EqNone.ne_none_none (fin_bl I q (by simp))
    | bl j => cases ry; exact PySem.EqNone.ne_none_bool (fin_bl I q (by simp))
    | int j => obtain ⟨t', rfl⟩ := ry; exact PySem.EqNone.ne_none_int (fin_bl I q (by simp))
    | str j => obtain ⟨t', rfl⟩ := ry; exact PySem.EqNone.ne_none_str (fin_bl I q (by simp))
    | _ => exact absurd (show false = true from hs) Bool.false_ne_true
  | bl i =>
    cases rx
    cases y with
    | non => cases ry; exact PySem.EqNone.ne_bool_none (fin_bl I q (by simp))
    | bl j => cases ry; exact ne_bool (fin_bl I q (congrArg not dec_bl))
    | str j => obtain ⟨t', rfl⟩ := ry; exact PySem.EqMixed.ne_bool_str (fin_bl I q (by simp))
    | _ => exact absurd (show false = true from hs) Bool.false_ne_true
  | int i =>
    obtain ⟨t, rfl⟩ := rx
    cases y with
    | non => cases ry; exact PySem.EqNone.ne_int_none (fin_bl I q (by simp))
    | int j => obtain ⟨t', rfl⟩ := ry; exact ne_int (fin_bl I q (congrArg not dec_int))
    | str j => obtain ⟨t', rfl⟩ := ry; exact PySem.EqMixed.ne_int_str (fin_bl I q (by simp))
    | _ => exact absurd (show false = true from hs) Bool.false_ne_true
  | str i =>
    obtain ⟨t, rfl⟩ := rx
    cases y with
    | non => cases ry; exact PySem.EqNone.ne_str_none (fin_bl I q (by simp))
    | bl j => cases ry; exact PySem.EqMixed.ne_str_bool (fin_bl I q (by simp))
    | int j => obtain ⟨t', rfl⟩ := ry; exact PySem.EqMixed.ne_str_int (fin_bl I q (by simp))
    | str j => obtain ⟨t', rfl⟩ := ry; exact ne_str (fin_bl I q (congrArg not dec_str))
    | _ => exact absurd (show false = true from hs) Bool.false_ne_true
  | byt i =>
    obtain ⟨t, rfl⟩ := rx
    cases y with
    | byt j => obtain ⟨t', rfl⟩ := ry; exact PySem.W.ne_bytes (fin_bl I q (congrArg not dec_byt))
    | _ => exact absurd (show false = true from hs) Bool.false_ne_true
  | _ => cases y <;> exact absurd (show false = true from hs) Bool.false_ne_true

theorem op_lt : OpR X (compareOp .Lt) (rI0 fun i j => .bl (decide (i < j))) := opB0 fun _ _ _ _ _ _ _ q => lt_int q
theorem op_le : OpR X (compareOp .LtE) (rI0 fun i j => .bl (decide (i ≤ j))) := opB0 fun _ _ _ _ _ _ _ q => le_int q
theorem op_gt : OpR X (compareOp .Gt) (rI0 fun i j => .bl (decide (j < i))) := opB0 fun _ _ _ _ _ _ _ q => gt_int q

/-- is None, is not None: the right side a value none -/
theorem op_isN : OpR X (compareOp .Is) (fun x y H Q => y = .non ∧ Q (.bl (decide (x = .non))) H) := by
  intro pins s σ H x y v u Q I rx ry h
  obtain ⟨rfl, q⟩ := h
  cases ry
  refine is_none_gen (fin_bl I q ?_)
  cases x <;> first
    | (cases rx; rfl)
    | (obtain ⟨t, rfl⟩ := rx; rfl)
theorem op_notN : OpR X (compareOp .IsNot) (fun x y H Q => y = .non ∧ Q (.bl (!decide (x = .non))) H) := by
  intro pins s σ H x y v u Q I rx ry h
  obtain ⟨rfl, q⟩ := h
  cases ry
  refine isnot_none_gen (fin_bl I q ?_)
  cases x <;> first
    | (cases rx; rfl)
    | (obtain ⟨t, rfl⟩ := rx; rfl)



theorem nomark (b : Expr) {op : CmpOp} (h : op ≠ .In := by decide) (h2 : op ≠ .NotIn := by decide) : behindInMarks op b = false := by
  have e1 : (op == CmpOp.In) = false := by cases op <;> first | rfl | exact absurd rfl h
  have e2 : (op == CmpOp.NotIn) = false := by cases op <;> first | rfl | exact absurd rfl h2
  cases b <;> simp [behindInMarks, e1, e2]
/-- a reading of a value as a test -/
def tTest (t : TE) : TT := fun σ H Q => t σ H fun x H' => ∃ k, x = .bl k ∧ Q k H'
theorem pt_cmpR {op : CmpOp} {r : R2} (ho : OpR X (compareOp op) r) (ha : PE X a ta) (hb : PE X b tb) (hm : behindInMarks op b = false) : PT X (.Compare a [op] [b] pos) (tTest (tOp r ta tb)) := by
  intro pins s σ H Q I h
  refine wpAny_isTrue_Compare1 (thn (ha pins s σ H _ I h) fun v s1 ⟨x, H1, I1, r1, q1⟩ => thn (hb pins s1 σ H1 _ I1 q1) fun u s2 ⟨y, H2, I2, r2, q2⟩ =>
    thn (ho pins s2 σ H2 x y v u _ I2 r1 r2 q2) fun c s3 ⟨z, H3, I3, r3, k, e, q3⟩ => ?_) hm
  subst e
  cases r3
  exact wpAny_truthy_bool ⟨H3, I3, q3⟩
/-- a op1 b op2 c -/
def tChain (r r' : R2) (ta tb tc : TE) : TE := fun σ H Q => ta σ H fun x H1 => tb σ H1 fun y H2 => r x y H2 fun z H3 => ∃ k, z = .bl k ∧
  (if k = true then tc σ H3 fun w' H4 => r' y w' H4 Q else Q (.bl false) H3)
theorem pe_chain {op op' : CmpOp} {r r' : R2} (ho : OpR X (compareOp op) r) (ho' : OpR X (compareOp op') r') (ha : PE X a ta) (hb : PE X b tb) (hc : PE X c tc)
    (hm : lastMarks [op, op'] [b, c] = false := by with_unfolding_all rfl) : PE X (.Compare a [op, op'] [b, c] pos) (tChain r r' ta tb tc) := by
  intro pins s σ H Q I h
  refine Compare_chain (thn (ha pins s σ H _ I h) fun v s1 ⟨x, H1, I1, r1, q1⟩ => chain_link (thn (hb pins s1 σ H1 _ I1 q1) fun u s2 ⟨y, H2, I2, r2, q2⟩ =>
    thn (ho pins s2 σ H2 x y v u _ I2 r1 r2 q2) fun d s3 ⟨z, H3, I3, r3, k, e, q3⟩ => ?_)) hm
  subst e
  cases r3
  refine wpAny_truthy_bool ?_
  cases k with
  | false => exact ite_ff ⟨.bl false, H3, I3, rfl, q3⟩
  | true => exact ite_tt (chain_last (thn (hc pins s3 σ H3 _ I3 q3) fun w' s4 ⟨z', H4, I4, r4, q4⟩ => ho' pins s4 σ H4 y z' u w' Q I4 r2 r4 q4))

/-! ### truth -/
theorem line63 : (sizeLine : Nat) < 2 ^ 63 := by rw [sizeLine_eq]; decide

/-! ### strs and bytes -/
theorem op_add_str : OpR X (binaryOp .Add) (fun x y H Q => ∃ i j, x = .str i ∧ y = .str j ∧ i.length + j.length ≤ sizeLine ∧ Q (.str (i ++ j)) H) := by
  intro pins s σ H x y v u Q I rx ry h
  obtain ⟨i, j, rfl, rfl, hz, q⟩ := h
  obtain ⟨t, rfl⟩ := rx
  obtain ⟨t', rfl⟩ := ry
  exact add_str (fun t' tk => ⟨.str (i ++ j), H, I.tok _, ⟨_, rfl⟩, q⟩) hz


/-! ### scalar builtins, by CallR -/
theorem vals1 {x : V} {us : List Value} (r : Vals [x] us) : ∃ u, us = [u] ∧ RelV x u := by
  cases r with
  | cons r1 r2 => cases r2; exact ⟨_, rfl, r1⟩
theorem call_ord : CallR X (.builtin "ord") (fun xs H Q => ∃ x, xs = [.str x] ∧ x.length = 1 ∧ Q (.int (x.cps.getD 0 0 : Nat)) H) := by
  intro pins s σ H xs us Q I r h
  obtain ⟨x, rfl, hz, q⟩ := h
  obtain ⟨u, rfl, t, rfl⟩ := vals1 r
  exact ord_of_one hz ⟨.int _, H, I.tok _, ⟨_, rfl⟩, q⟩
end
end L2

namespace L2
open PySem PySem.Spec PyProof.Rows

/-! ### an instance, its attributes a map -/



section
variable {prog : Program} {w : World} {A : Around} {E : Value → Shared → Prop} {s : Shared} {K : PySem.W.Frag} {x dx C f : Addr} {mA : Str → Option Value} {name : Str} {v : Value}





end

/-! ### the attributes as a list of pairs -/


section
variable {P : Program} {w : World} {H H' : Hp} {h h' : Heap} {a C dx : Addr} {fs fs' : List (Str × V)}
end

/-! ### what of the text a class must have -/

section
variable {X : Cx} {pins : List (Addr × Obj)} {σ : St} {H : Hp} {s : Shared} {a C dx : Addr} {fs : List (Str × V)} {f : Str} {v : V} {A : Around} {E : Value → Shared → Prop}






end

/-! ### readings and rules -/

section
variable {X : Cx} {o e value : Expr} {f : Str} {pos pos' tpos : Pos} {ta tv : TE}

end

/-! ### isinstance -/
section
variable {X : Cx} {pins : List (Addr × Obj)} {σ : St} {H : Hp} {s : Shared} {A : Around} {E : Value → Shared → Prop} {Q : Value → Shared → Prop} {c : Value} {b : Bool}
end
end L2

namespace L2
open PySem PySem.Spec PyProof.Rows

/-! ### room -/
structure Room (k : Nat) (A : Around) : Prop where
  hd : A.handled = none
  dp : A.depth + 3 * k + 5 < recursionLimit
  un : A.units + 16 * k + 200 < cLine
theorem Room.mono {j k : Nat} {A : Around} (r : Room k A) (h : j ≤ k) : Room j A := ⟨r.hd, by have := r.dp; omega, by have := r.un; omega⟩
theorem Room.deeper {k : Nat} {A : Around} (r : Room (k + 1) A) (env : Env) : Room k (A.deeper env) :=
  ⟨r.hd, by have := r.dp; show A.depth + 1 + 3 * k + 5 < _; omega, by have := r.un; show A.units + 3 + 16 * k + 200 < _; omega⟩
theorem Room.depth {k : Nat} {A : Around} (r : Room k A) : A.depth < recursionLimit := by have := r.dp; omega

/-! ### argument lists and displays -/
def tNil : TA := fun _ H Q => Q [] H
def tCons (ta : TE) (tr : TA) : TA := fun σ H Q => ta σ H fun x H1 => tr σ H1 fun xs H2 => Q (x :: xs) H2
section
variable {X : Cx} {e : Expr} {es : List Expr} {te : TE} {t : TA} {pos : Pos}
theorem pa_nil : PA X [] tNil := fun _ _ _ _ H Q I h => Calls.spliced_nil ⟨[], H, I, .nil, h⟩
theorem pa_cons (ha : PE X e te) (hr : PA X es t) (hs : starEach (e :: es) X.env = (false, eval e X.env) :: starEach es X.env := by rfl) : PA X (e :: es) (tCons te t) := by
  intro pos pins s σ H Q I h
  rw [hs]
  show wpAny _ _ (spliced ((false, eval e X.env) :: backTo pos (starEach es X.env))) _ _ s
  refine Calls.spliced_cons (thn (ha pins s σ H _ I h) fun u s1 ⟨x, H1, I1, r1, q1⟩ => ?_)
  exact thn (hr pos pins s1 σ H1 _ I1 q1) fun us s2 ⟨xs, H2, I2, r2, q2⟩ => ⟨x :: xs, H2, I2, .cons r1 r2, q2⟩

def tLst (t : TA) : TE := fun σ H Q => t σ H fun xs H1 => xs.length ≤ sizeLine ∧ ∀ p, H1 p = none → Q (.ref p) (upd H1 p (.lst xs))
theorem pe_lst (h : PA X es t) : PE X (.List es pos) (tLst t) := by
  intro pins s σ H Q I hq
  refine wpAny_List_spliced (thn (h pos pins s σ H _ I hq) fun us s1 ⟨xs, H1, I1, r, z, q⟩ => ⟨by rw [← r.length]; exact z, ?_⟩)
  have hf : H1 s1.heap.objs.size = none := I1.hok.fresh (Nat.le_refl _)
  refine ⟨.ref s1.heap.objs.size, upd H1 s1.heap.objs.size (.lst xs), I1.laid (t' := s1.toks) (fun b u e => Heap.get?_push_of_some _ e) (Nat.le_refl _) ?_, rfl, q _ hf⟩
  exact ⟨z, us, 0, r, Heap.get?_push_size _ rfl⟩
end

/-! ### what a def promises -/
/-- a def's promise: the bound arguments in the parameters' order, the heap, the wanted end, the wanted exception -/
abbrev Sp := List V → Hp → VK → XK → Prop
/-- how an exception lies behind a call (file 08 gives it): the callers' frames, abstract heap and state ahead of the call, the wish, the exception, the state -/
abbrev CXT := List Env → Hp → Shared → XK → Value → Shared → Prop

/-- the state at a call -/
structure Env0 (P : Program) (w : World) (K : PySem.W.Frag) (mg : Str → Option Value) (base : Heap) (A : Around) (outer : List Env) (s : Shared) (H : Hp) : Prop where
  frames : A.frames = some outer
  mod : Mod K mg base
  bs : ∀ b o, base.get? b = some o → s.heap.get? b = some o ∧ H b = none
  bsz : base.objs.size ≤ s.heap.objs.size
  funs : s.heap.FunFrames base outer
  frf : ∀ b ∈ frs outer, H b = none
  hok : HOk P w H s.heap
  bare : AllBare s.gens
/-- a call's end -/
def CE (outer : List Env) (P : Program) (w : World) (H : Hp) (s : Shared) (Q : VK) (u : Value) (s' : Shared) : Prop :=
  ∃ v H', s'.os = s.os ∧ AllBare s'.gens ∧ Un (frs outer) [] H H' s.heap s'.heap ∧ HOk P w H' s'.heap ∧ RelV v u ∧ Q v H'
def CR (CX : CXT) (outer : List Env) (P : Program) (w : World) (H : Hp) (s : Shared) (Q : VK) (E : XK) (r : Result) (s' : Shared) : Prop :=
  match r with
  | .ok (.ret u) => CE outer P w H s Q u s'
  | .ok _ => False
  | .error e => CX outer H s E e s'
structure FnOk (P : Program) (w : World) (K : PySem.W.Frag) (mg : Str → Option Value) (base : Heap) (CX : CXT) (k : Nat) (f : Addr) (fd : FuncData) (ps : List Str) (sp : Sp) : Prop where
  len : ∀ vs H Q E, sp vs H Q E → vs.length = ps.length
  run : ∀ (A : Around) (outer : List Env) (s : Shared) (H : Hp) (args : Args) (us : List Value) (vs : List V) (Q : VK) (E : XK), Room k A → Env0 P w K mg base A outer s H → BindsTo s fd args (ps.zip us) → Vals vs us → sp vs H Q E →
    codeAny (model P w) A (.call (.ref f) args) (CR CX outer P w H s Q E) s


section
variable {X : Cx} {pins : List (Addr × Obj)} {σ : St} {H : Hp} {s s' : Shared}
/-- from a body: what a callee wants -/
theorem Inv.env0 (I : Inv X pins σ H s) : Env0 X.prog X.w X.K X.mg X.base X.A X.stack s H :=
  ⟨I.ok.frames, I.ok.mod, I.bs, Nat.le_trans I.ok.bsz I.sz, I.stack, I.stkFree, I.hok, I.bare⟩
/-- behind a call -/
theorem Inv.after {Q : VK} {u : Value} (I : Inv X pins σ H s) (h : CE X.stack X.prog X.w H s Q u s') : EP X pins σ Q u s' := by
  obtain ⟨v, H', os, bare, un, hok, r, q⟩ := h
  obtain ⟨hh, g, d, t, os'⟩ := s'
  obtain rfl : os' = s.os := os
  exact ⟨v, H', I.call (h' := hh) (g' := g) (d' := d) (t' := t) (ch := []) un hok bare (fun b z => absurd z (by simp)), r, q⟩
end

/-! ### calls -/
/-- f(..): the written arguments, then the defaults dvs; E: what is wanted of an exception -/
def tCall (sp : Sp) (dvs : List V) (E : XK) (t : TA) : TE := fun σ H Q => t σ H fun vs H1 => sp (vs ++ dvs) H1 Q E

/-- how the parameters are bound: us the positional arguments, kw the keywords' values by name, ds the defaults that fill up -/
def Binds (K : PySem.W.Frag) (fd : FuncData) (ps : List Str) (ds : List Value) : Prop :=
  ∀ (s : Shared) (us : List Value), K.In s.heap → (us ++ ds).length = ps.length → BindsTo s fd ⟨us, []⟩ (ps.zip (us ++ ds))
/-- every parameter is given -/
theorem Binds.all {K : PySem.W.Frag} {fd : FuncData} {ps : List Str} (h : ∀ us : List Value, us.length = ps.length → bindArgs fd ⟨us, []⟩ = pure (ps.zip us)) : Binds K fd ps [] := fun s us _ hl => by
  rw [List.append_nil] at hl ⊢
  exact .of_eq (h us hl)

/-- an exception of a callee reaches what this body wants of exceptions -/
def Passes (CX : CXT) (X : Cx) (E : XK) : Prop := ∀ (pins : List (Addr × Obj)) (σ : St) (H : Hp) (s : Shared) (e : Value) (s' : Shared), Inv X pins σ H s → CX X.stack H s E e s' → X.xe e s'

section
variable {X : Cx} {CX : CXT} {k : Nat} {f C : Addr} {fd : FuncData} {ps : List Str} {sp : Sp} {dvs : List V} {ds : List Value} {E : XK} {x m : Str} {p pos apos : Pos} {e o : Expr} {es : List Expr} {ta : TE} {t : TA}

/-- the callee runs -/
theorem run_fn {pins : List (Addr × Obj)} {σ : St} {H : Hp} {s : Shared} {Q : VK} {us : List Value} {vs : List V} (F : FnOk X.prog X.w X.K X.mg X.base CX k f fd ps sp) (hr : Room k X.A) (hb : Binds X.K fd ps ds) (hd : Vals dvs ds) (hx : Passes CX X E)
    (I : Inv X pins σ H s) (r : Vals vs us) (h : sp (vs ++ dvs) H Q E) : wpAny (model X.prog X.w) X.A (call (.ref f) us) (EP X pins σ Q) X.xe s := by
  have r2 : Vals (vs ++ dvs) (us ++ ds) := r.append hd
  have hl : (us ++ ds).length = ps.length := by rw [← r2.length]; exact F.len _ _ _ _ h
  refine wpAny_call (codeAny_mono (F.run X.A X.stack s H ⟨us, []⟩ (us ++ ds) (vs ++ dvs) Q E hr I.env0 (hb s us I.kIn hl) r2 h) fun r s' hq => ?_)
  cases r with
  | error e => exact hx pins σ H s e s' I hq
  | ok fl =>
    cases fl with
    | ret u => exact I.after hq
    | next => exact False.elim hq
    | brk => exact False.elim hq
    | cont => exact False.elim hq

theorem pe_call (F : FnOk X.prog X.w X.K X.mg X.base CX k f fd ps sp) (hr : Room k X.A) (hg : Gl X x) (hm : X.mg x = some (.ref f)) (hk : PySem.W.keepIn X.K (.ref f) = true) (hb : Binds X.K fd ps ds) (hd : Vals dvs ds) (hx : Passes CX X E)
    (ha : PA X (e :: es) t) (hdb : (x == ("__debug__" : Str)) = false := by decide) (he : starEach (e :: es) X.env = (false, eval e X.env) :: starEach es X.env := by rfl) (hpl : (backTo pos (starEach es X.env)).any (·.1) = false := by rfl) :
    PE X (.Call (.Name x p) (e :: es) [] pos) (tCall sp dvs E t) := by
  intro pins s σ H Q I h
  refine wpAny_Call_Name_kw (ld_glob I hg hm ?_ hdb)
  refine PySem.W.callWith_K (h₀ := X.base) I.ok.mod.kin hk (thn (ha pos pins s σ H _ I h) fun us s1 ⟨vs, H1, I1, r, q⟩ => ⟨I1.kIn, ?_⟩) he hpl
  exact run_fn F hr hb hd hx I1 r q



end

/-! ### keywords -/
section
variable {X : Cx} {CX : CXT} {k : Nat} {f C : Addr} {fd : FuncData} {ps ks : List Str} {sp : Sp} {E : XK} {x m : Str} {p pos apos kpos : Pos} {e o : Expr} {es : List Expr} {kws : List Keyword} {te ta : TE} {t tk : TA} {nm : Option Str}

variable {g : List Value → List Value → List Value} {gV : List V → List V → List V}
end

/-! ### a def's body keeps its promise -/
/-- names: the parameters first -/
structure FnScope (N P : List Str) (sc : Scope) : Prop where
  kind : sc.kind = .function
  co : sc.isCoroutine = false
  gen : sc.isGenerator = false
  nd : N.Nodup
  pre : N.take P.length = P
  par : ∀ x ∈ P, sc.names.lookup x = some .local ∨ sc.names.lookup x = some .cell
  nofree : ∀ y ∈ sc.names, y.2 ≠ .free

theorem bindL_out {kindOf : Str → Option NameKind} {x : Str} : ∀ {binds : List (Str × Value)} {m : Str → Option Value}, (∀ v, (x, v) ∉ binds) → bindL kindOf binds m x = m x
  | [], _, _ => rfl
  | (n, v) :: r, m, h => by
    unfold bindL
    rw [bindL_out fun w hw => h w (List.mem_cons_of_mem _ hw)]
    split
    · have : x ≠ n := by rintro rfl; exact h v List.mem_cons_self
      simp [this]
    · rfl
theorem bindC_out {kindOf : Str → Option NameKind} {x : Str} : ∀ {binds : List (Str × Value)} {m : Str → Option Value}, (∀ v, (x, v) ∉ binds) → bindC kindOf binds m x = m x
  | [], _, _ => rfl
  | (n, v) :: r, m, h => by
    unfold bindC
    rw [bindC_out fun w hw => h w (List.mem_cons_of_mem _ hw)]
    split
    · rfl
    · have : x ≠ n := by rintro rfl; exact h v List.mem_cons_self
      simp [this]
theorem bindL_get {kindOf : Str → Option NameKind} {x : Str} {v : Value} : ∀ {P : List Str} {vs : List Value} {i : Nat} {m : Str → Option Value}, P.Nodup → P[i]? = some x → vs[i]? = some v → kindOf x = some .local →
    bindL kindOf (P.zip vs) m x = some v
  | [], _, _, _, _, h, _, _ => by simp at h
  | _ :: _, [], _, _, _, _, h, _ => by simp at h
  | p :: P, w :: vs, 0, m, nd, h1, h2, hk => by
    simp at h1 h2; subst h1; subst h2
    show bindL kindOf ((p, w) :: P.zip vs) m p = _
    unfold bindL
    rw [bindL_out fun v hv => (List.nodup_cons.mp nd).1 (List.of_mem_zip hv).1, if_pos hk]
    simp
  | p :: P, w :: vs, i + 1, m, nd, h1, h2, hk => by
    show bindL kindOf ((p, w) :: P.zip vs) m x = _
    unfold bindL
    exact bindL_get (i := i) (List.nodup_cons.mp nd).2 (by simpa using h1) (by simpa using h2) hk
theorem bindC_get {kindOf : Str → Option NameKind} {x : Str} {v : Value} : ∀ {P : List Str} {vs : List Value} {i : Nat} {m : Str → Option Value}, P.Nodup → P[i]? = some x → vs[i]? = some v → kindOf x ≠ some .local →
    bindC kindOf (P.zip vs) m x = some v
  | [], _, _, _, _, h, _, _ => by simp at h
  | _ :: _, [], _, _, _, _, h, _ => by simp at h
  | p :: P, w :: vs, 0, m, nd, h1, h2, hk => by
    simp at h1 h2; subst h1; subst h2
    show bindC kindOf ((p, w) :: P.zip vs) m p = _
    unfold bindC
    rw [bindC_out fun v hv => (List.nodup_cons.mp nd).1 (List.of_mem_zip hv).1, if_neg hk]
    simp
  | p :: P, w :: vs, i + 1, m, nd, h1, h2, hk => by
    show bindC kindOf ((p, w) :: P.zip vs) m x = _
    unfold bindC
    exact bindC_get (i := i) (List.nodup_cons.mp nd).2 (by simpa using h1) (by simpa using h2) hk

/-- the names' values at the entry -/
def start (N : List Str) (vs : List V) : St := vs.map some ++ List.replicate (N.length - vs.length) none

/-- the context of a def's body, at its entry; an exception leaves the frame, then lies as CX says -/
def cxOf (CX : CXT) (P : Program) (w : World) (K : PySem.W.Frag) (mg : Str → Option Value) (base : Heap) (N : List Str) (qual : Str) (scope : Scope) (f : Addr) (cd : Value) (A : Around) (outer : List Env) (s : Shared) (H : Hp) (E : XK) : Cx where
  prog := P
  w := w
  K := K
  mg := mg
  base := base
  A := A.deeper (envOfC qual scope s.heap.objs.size f cd)
  N := N
  s_0 := s
  H_0 := H
  env := envOfC qual scope s.heap.objs.size f cd
  outer := outer
  stack := envOfC qual scope s.heap.objs.size f cd :: outer
  ex := []
  calm := true
  fn := fun _ => true
  pn := []
  xe := fun e s' => wpAny (model P w) (A.deeper (envOfC qual scope s.heap.objs.size f cd)) (leaving (envOfC qual scope s.heap.objs.size f cd) e) (fun _ s'' => CX outer H s E e s'') (fun e' s'' => CX outer H s E e' s'') s'

theorem cell_has {sc : Scope} {n : Nat} {x : Str} (h : sc.names.lookup x = some .cell) : ∃ c, (cellsFrom n sc.names []).lookup x = some c := by
  have q := PySem.W.cellsFrom_some sc.names n [] (.inl h)
  exact Option.isSome_iff_exists.mp q

theorem inv_start {CX : CXT} {P : Program} {w : World} {K : PySem.W.Frag} {mg : Str → Option Value} {base : Heap} {N ps : List Str} {qual : Str} {scope : Scope} {f : Addr} {cd : Value} {A : Around} {outer : List Env} {s s1 : Shared} {H : Hp} {E : XK} {us : List Value} {vs : List V}
    (S : FnScope N ps scope) (hd : A.handled = none) (e0 : Env0 P w K mg base A outer s H) (hl : vs.length = ps.length) (r : Vals vs us)
    (x : InCallC s s.heap.objs.size (bindL (envOfC qual scope s.heap.objs.size f cd).kindOf (ps.zip us) fun _ => none) (cellsFrom (s.heap.objs.size + 1) scope.names []) (bindC (envOfC qual scope s.heap.objs.size f cd).kindOf (ps.zip us) fun _ => none) s1) :
    Inv (cxOf CX P w K mg base N qual scope f cd A outer s H E) [] (start N vs) H s1 := by
  have hpl : ps.length ≤ N.length := by have := congrArg List.length S.pre; rw [List.length_take] at this; omega
  obtain ⟨h1, tk, rfl, hk⟩ := x.done
  have noA : ∀ b : Addr, b ∉ (cxOf CX P w K mg base N qual scope f cd A outer s H E).ex := fun b z => absurd (show b ∈ ([] : List Addr) from z) (by simp)
  refine ⟨⟨e0.mod, S.kind, rfl, rfl, Nat.le_refl _, fun y z c h1 h2 => ?_, fun y hy => ?_, fun y c _ h => ?_, fun _ => hd, Around.frames_deeper e0.frames, .inr ⟨rfl, rfl⟩, fun b z => absurd z (noA b), e0.bs, e0.bsz, fun b _ _ => noA b, fun b z => absurd z (noA b), e0.funs, e0.frf⟩,
    rfl, e0.bare, Un.kept hk, ⟨_, x.toInCall.ns, fun i y v h1 h2 h3 => ?_⟩, fun y c h => ⟨_, x.cell y c h⟩, e0.hok.fresh (Nat.le_refl _), fun y c h => ?_, fun p hp => absurd (show p ∈ ([] : List (Addr × Obj)) from hp) (by simp), e0.hok.kept hk, ?_⟩
  · exact name_of_addr x.apart (PySem.mem_of_lookup h1) (PySem.mem_of_lookup h2)
  · have hy : scope.names.lookup y = some .cell ∨ scope.names.lookup y = some .free := hy
    rcases hy with hy | hy
    · exact cell_has hy
    · exact absurd rfl (S.nofree _ (PySem.mem_of_lookup hy))
  · exact Nat.le_of_lt (x.above y c (PySem.mem_of_lookup h))
  · have hi : i < vs.length := by
      unfold start at h2
      by_cases hi : i < vs.length
      · exact hi
      · rw [List.getElem?_append_right (by simpa using hi)] at h2
        rw [List.getElem?_replicate] at h2
        split at h2 <;> cases h2
    have ha : vs[i]? = some v := by
      unfold start at h2
      rw [List.getElem?_append_left (by simpa using hi), List.getElem?_map] at h2
      cases e : vs[i]? with
      | none => rw [e] at h2; cases h2
      | some a => rw [e] at h2; cases h2; rfl
    obtain ⟨u, hu, rv⟩ := r.get ha
    have hp : ps[i]? = some y := by
      rw [← S.pre, List.getElem?_take_of_lt (by omega)]; exact h1
    have ndP : ps.Nodup := by rw [← S.pre]; exact S.nd.sublist (List.take_sublist _ _)
    refine ⟨u, rv, ?_⟩
    rcases S.par y (List.mem_of_getElem? hp) with k | k
    · exact .inl ⟨k, bindL_get ndP hp hu k⟩
    · obtain ⟨c, e⟩ := cell_has (n := s.heap.objs.size + 1) k
      refine .inr ⟨.inl k, c, e, ?_⟩
      have q := x.cell y c e
      rw [bindC_get ndP hp hu (by show scope.names.lookup y ≠ _; rw [k]; decide)] at q
      exact q
  · exact e0.hok.fresh (Nat.le_of_lt (x.above y c (PySem.mem_of_lookup h)))
  · unfold start
    show _ = N.length
    rw [List.length_append, List.length_map, List.length_replicate]
    omega

/-- THE RULE: a def (or a method) of the text, by its body. The body's reading t is chosen for each entry; it is run at the parameters' values -/
theorem fn_of {CX : CXT} {P : Program} {w : World} {K : PySem.W.Frag} {mg : Str → Option Value} {base : Heap} {k : Nat} {f : Addr} {name qual : Str} {params : Arguments} {body : List Stmt} {scope : Scope} {dV kV doc pm cdv ct oc : Value} {an od : Option Addr}
    {osl : Array (Option Value)} {N ps : List Str} {sp : Sp} (lk : K.lookup f = some ⟨oc, od, .func (PySem.W.fnOf name qual params body scope dV kV doc pm an cdv ct), osl⟩) (hcd : PySem.W.codeIn K cdv qual = true) (S : FnScope N ps scope)
    (len : ∀ vs H Q E, sp vs H Q E → vs.length = ps.length)
    (hbody : ∀ (A : Around) (outer : List Env) (s : Shared) (H : Hp) (vs : List V) (Q : VK) (E : XK), Room k (A.deeper (envOfC qual scope s.heap.objs.size f cdv)) → sp vs H Q E →
      ∃ t, PSs (cxOf CX P w K mg base N qual scope f cdv A outer s H E) body t ∧ t { nx := fun _ H' => Q .non H', rt := Q } (start N vs) H) :
    FnOk P w K mg base CX (k + 1) f (PySem.W.fnOf name qual params body scope dV kV doc pm an cdv ct) ps sp := by
  refine ⟨len, fun A outer s H args us vs Q E hr e0 hb r hsp => ?_⟩
  have hl := len _ _ _ _ hsp
  have KX : K.In s.heap := e0.mod.kin.keeps fun b o e => (e0.bs b o e).1
  have lim : s.heap.NoLimit := e0.mod.nolimit.keeps fun b o e => (e0.bs b o e).1
  have hkind : ∀ y ∈ ps.zip us, scope.names.lookup y.1 = some .local ∨ (scope.names.lookup y.1 = some .cell ∧ ((cellsFrom (s.heap.objs.size + 1) scope.names []).lookup y.1).isSome = true) := fun ⟨n, v⟩ hy => by
    rcases S.par n (List.of_mem_zip hy).1 with q | q
    · exact .inl q
    · exact .inr ⟨q, PySem.W.cellsFrom_some _ _ _ (.inl q)⟩
  refine codeAny_call_function hr.depth (KX _ _ lk) rfl S.co S.gen rfl (PySem.W.codeRec_of KX hcd) (hb _ _ _ _ ?_)
  refine wpAny_newFunctionEnv_cells S.kind hkind fun env he s1 x => ?_
  subst he
  refine ⟨lim.keeps x.toInCall.keep, codeAny_func ?_⟩
  obtain ⟨t, ht, hq⟩ := hbody A outer s H vs Q E (hr.deeper _) hsp
  have I : Inv (cxOf CX P w K mg base N qual scope f cdv A outer s H E) [] (start N vs) H s1 := inv_start S hr.hd e0 hl r x
  refine wpAny_mono (ht [] s1 (start N vs) H _ I hq) (fun fl s' hs => ?_) fun e s' hs => hs
  have fin : ∀ {σ' : St} {H' : Hp} {v : V} {u : Value}, Inv (cxOf CX P w K mg base N qual scope f cdv A outer s H E) [] σ' H' s' → RelV v u → Q v H' → CE outer P w H s Q u s' :=
    fun {σ' H' v u} J rv q => ⟨v, H', J.os, J.bare, J.base, J.hok, rv, q⟩
  cases fl with
  | ret u =>
    obtain ⟨v, σ', H', J, rv, q⟩ := hs
    exact fin J rv q
  | next =>
    obtain ⟨σ', H', J, q⟩ := hs
    exact fin (v := V.non) (u := Value.none) J rfl q
  | brk =>
    obtain ⟨_, _, _, q⟩ := hs
    exact False.elim q
  | cont =>
    obtain ⟨_, _, _, q⟩ := hs
    exact False.elim q
end L2

namespace L2
open PySem PySem.Spec PyProof.Rows
section
variable {X : Cx} {x : Str} {p pos : Pos} {e : Expr} {es : List Expr} {t : TA} {id T : String} {r : List V → Hp → VK → Prop}

def tCB (r : List V → Hp → VK → Prop) (t : TA) : TE := fun σ H Q => t σ H fun vs H1 => r vs H1 Q
/-- f(e, ..), f a built-in function -/
theorem pe_callB (hc : CallR X (.builtin id) r) (hg : Gl X x) (hm : X.mg x = none) (hv : bootBuiltins x = some (.builtin id)) (ha : PA X (e :: es) t) (hn : x ≠ "__name__" := by decide) (hdb : (x == ("__debug__" : Str)) = false := by decide)
    (he : starEach (e :: es) X.env = (false, eval e X.env) :: starEach es X.env := by rfl) (hpl : (backTo pos (starEach es X.env)).any (·.1) = false := by rfl) : PE X (.Call (.Name x p) (e :: es) [] pos) (tCB r t) := by
  intro pins s σ H Q I h
  refine wpAny_Call_Name_kw (ld_blt I hg hm hv ?_ hn hdb)
  exact PyProof.Rows.callWith_builtin1 (thn (ha pos pins s σ H _ I h) fun us s1 ⟨vs, H1, I1, r1, q1⟩ => hc pins s1 σ H1 vs us Q I1 r1 q1) he hpl
end
end L2

namespace HT
open PySem PyProof.Rows



section
open PySem.SeqAt
open PySem.AutoSeq1 (wpAny_loadPart')
open PySem.MeetsSeq PySem.MeetsSeq2 PySem.MeetsSeq3

end

section
variable {prog : Program} {w : World} {A : Around} {E : Value → Shared → Prop} {s : Shared}



/-! ### t[a:b], not the whole -/
/-- a slice's bound as a place among n (d where it is left out) -/
def sIx (n d : Nat) : Option Int → Nat
  | none => d
  | some v => if v < 0 then (v + (n : Int)).toNat else min v.toNat n
theorem sIx_none (n d : Nat) : sIx n d none = d := rfl
theorem sIx_nat (n d k : Nat) : sIx n d (some (k : Int)) = min k n := by
  show (if (k : Int) < 0 then ((k : Int) + (n : Int)).toNat else min (k : Int).toNat n) = min k n
  rw [if_neg (by omega), Int.toNat_natCast]

end
end HT

namespace L2
open PySem PySem.Spec PyProof.Rows

/-! ### the parts of a slice -/
abbrev TO := St → Hp → (Option Int → Hp → Prop) → Prop
/-- a slice's part (left out, or an int) -/
def PO (X : Cx) (e : Option Expr) (t : TO) : Prop :=
  ∀ (pins : List (Addr × Obj)) (s : Shared) (σ : St) (H : Hp) (Q : Option Int → Hp → Prop), Inv X pins σ H s → t σ H Q →
    wpAny (model X.prog X.w) X.A (evalPart e X.env) (fun u s' => ∃ o H', Inv X pins σ H' s' ∧ IsPart u o ∧ Q o H') X.xe s
def tNoPart : TO := fun _ H Q => Q none H
def tPart (t : TE) : TO := fun σ H Q => t σ H fun x H1 => ∃ i, x = .int i ∧ Q (some i) H1


section
variable {X : Cx} {e : Expr} {te : TE} {lo hi : Option Expr} {tl th : TO} {pos p2 : Pos}

theorem po_none : PO X none tNoPart := by
  intro pins s σ H Q I h
  rw [evalPart_none]
  exact wpAny_pure ⟨none, H, I, .none, h⟩
theorem po_some (h : PE X e te) : PO X (some e) (tPart te) := by
  intro pins s σ H Q I hw
  rw [evalPart_some]
  refine thn (h pins s σ H _ I hw) fun u s1 ⟨x, H1, I1, r1, q1⟩ => ?_
  obtain ⟨i, rfl, q⟩ := q1
  obtain ⟨t, rfl⟩ := r1
  exact ⟨some i, H1, I1, .int i t, q⟩

/-- what a slice of a value is, by values: the slice object stands at sl -/
def SlR (X : Cx) (r : V → Option Int → Option Int → Hp → VK → Prop) : Prop :=
  ∀ (pins : List (Addr × Obj)) (s : Shared) (σ : St) (H : Hp) (x : V) (v vl vu : Value) (lo hi : Option Int) (sl : Addr) (Q : VK), Inv X pins σ H s → RelV x v → s.heap.IsSliceOf sl vl vu .none → IsPart vl lo → IsPart vu hi → r x lo hi H Q →
    ∃ T id, typeLookup (.type T) "__getitem__" = pure (some (.builtin id)) ∧ s.TypeIs v T ∧ wpAny (model X.prog X.w) X.A (getItem v (.ref sl)) (EP X pins σ Q) X.xe s
def tSl (r : V → Option Int → Option Int → Hp → VK → Prop) (te : TE) (tl th : TO) : TE := fun σ H Q => te σ H fun x H1 => tl σ H1 fun l H2 => th σ H2 fun u H3 => r x l u H3 Q
/-- a[lo:hi], any a -/
theorem pe_slice {r : V → Option Int → Option Int → Hp → VK → Prop} (hr : SlR X r) (he : PE X e te) (hl : PO X lo tl) (hu : PO X hi th) : PE X (.Subscript e (.Slice lo hi none p2) pos) (tSl r te tl th) := by
  intro pins s σ H Q I h
  refine Subscript_ (thn (he pins s σ H _ I h) fun v s1 ⟨x, H1, I1, r1, q1⟩ => ?_)
  refine wpAny_Slice (thn (hl pins s1 σ H1 _ I1 q1) fun vl s2 ⟨l, H2, I2, pl, q2⟩ => thn (hu pins s2 σ H2 _ I2 q2) fun vu s3 ⟨u, H3, I3, pu, q3⟩ => ?_)
  rw [evalPart_none]
  refine wpAny_pure ?_
  have I4 : Inv X pins σ H3 { s3 with heap := s3.heap.push { cls := .type "slice", data := .fields #[vl, vu, .none] } } := I3.kept (t' := s3.toks) fun b ob q => Heap.get?_push_of_some _ q
  obtain ⟨T, id, hT, ht, hg⟩ := hr pins { s3 with heap := s3.heap.push { cls := .type "slice", data := .fields #[vl, vu, .none] } } σ H3 x v vl vu l u s3.heap.objs.size Q I4 r1 (Heap.IsSliceOf.new ..) pl pu q3
  show wpAny (model X.prog X.w) X.A (subscriptTail e (.Slice lo hi none p2) v (.ref s3.heap.objs.size)) (EP X pins σ Q) X.xe { s3 with heap := s3.heap.push { cls := .type "slice", data := .fields #[vl, vu, .none] } }
  exact tail_any (ops := [.ref s3.heap.objs.size, v]) ht hT hg (by with_unfolding_all rfl)

/-- the items of xs[lo:hi] -/
def cutV (xs : List V) (lo hi : Option Int) : List V := (xs.drop (HT.sIx xs.length 0 lo)).take (HT.sIx xs.length xs.length hi - HT.sIx xs.length 0 lo)
theorem cutV_length (xs : List V) (lo hi : Option Int) : (cutV xs lo hi).length ≤ xs.length := by
  unfold cutV
  rw [List.length_take, List.length_drop]
  omega

/-! ### t < u, t + u -/
end
end L2

namespace L2
open PySem PySem.Spec PyProof.Rows

/-! ### places -/
/-- the place that an index of any sign means -/
def ixN (n : Nat) (i : Int) : Option Nat := if 0 ≤ i then (if i < n then some i.toNat else none) else if -(n : Int) ≤ i then some (i + n).toNat else none
def atI {α : Type} (xs : List α) (i : Int) : Option α := (ixN xs.length i).bind fun j => xs[j]?
theorem ixN_seq {n : Nat} {i : Int} {j : Nat} (h : ixN n i = some j) : seqIndex? i n = some j ∧ j < n ∧ -(n : Int) ≤ i ∧ i < n := by
  unfold ixN at h
  by_cases h0 : 0 ≤ i
  · rw [if_pos h0] at h
    by_cases h1 : i < n
    · rw [if_pos h1] at h
      have e : i.toNat = j := Option.some.inj h
      exact ⟨by rw [seqIndex_of h0 h1, e], by omega, by omega, h1⟩
    · rw [if_neg h1] at h; cases h
  · rw [if_neg h0] at h
    by_cases h1 : -(n : Int) ≤ i
    · rw [if_pos h1] at h
      have e : (i + n).toNat = j := Option.some.inj h
      exact ⟨by rw [seqIndex_neg (by omega) h1, e], by omega, h1, by omega⟩
    · rw [if_neg h1] at h; cases h
theorem atI_get {α : Type} {xs : List α} {i : Int} {v : α} (h : atI xs i = some v) : ∃ j, seqIndex? i xs.length = some j ∧ xs[j]? = some v ∧ j < xs.length ∧ -(xs.length : Int) ≤ i ∧ i < xs.length := by
  unfold atI at h
  cases e : ixN xs.length i with
  | none => rw [e] at h; cases h
  | some j =>
    rw [e] at h
    obtain ⟨h1, h2, h3, h4⟩ := ixN_seq e
    exact ⟨j, h1, h, h2, h3, h4⟩
theorem atI_nat {α : Type} {xs : List α} {j : Nat} {v : α} (h : xs[j]? = some v) : atI xs (j : Int) = some v := by
  have hj : j < xs.length := (List.getElem?_eq_some_iff.mp h).1
  have e : ixN xs.length (j : Int) = some j := by
    unfold ixN
    rw [if_pos (by omega), if_pos (by omega)]; simp
  unfold atI; rw [e]; exact h

/-! ### what may be subscripted -/
/-- what stands as an index of a plain subscript -/
def PlainIx (b : Expr) : Prop := ∀ o i, subscripted b false o i = operate [o, i] (getItem o i)
/-- a subscript by values -/
def IxR (X : Cx) (r : R2) : Prop :=
  ∀ (value slice : Expr) (pins : List (Addr × Obj)) (s : Shared) (σ : St) (H : Hp) (x y : V) (v u : Value) (Q : VK), Inv X pins σ H s → RelV x v → RelV y u → r x y H Q →
    subscripted slice false v u = operate [v, u] (getItem v u) → wpAny (model X.prog X.w) X.A (subscriptTail value slice v u) (EP X pins σ Q) X.xe s
/-- a call of a builtin's method by values: the receiver, the arguments -/
def MtR (X : Cx) (id : String) (r : V → List V → Hp → VK → Prop) : Prop :=
  ∀ (pins : List (Addr × Obj)) (s : Shared) (σ : St) (H : Hp) (x : V) (xs : List V) (v : Value) (us : List Value) (Q : VK), Inv X pins σ H s → RelV x v → Vals xs us → r x xs H Q →
    wpAny (model X.prog X.w) X.A (call (.builtin id) (v :: us)) (EP X pins σ Q) X.xe s
section
variable {X : Cx} {a b : Expr} {ta tb : TE} {pos : Pos}
/-- a[b] -/
theorem pe_ix {r : R2} (hr : IxR X r) (ha : PE X a ta) (hb : PE X b tb) (hs : PlainIx b) : PE X (.Subscript a b pos) (tOp r ta tb) := by
  intro pins s σ H Q I h
  exact Subscript_ (binT ha hb I h fun v u s2 x y H2 I2 rx ry q => hr a b pins s2 σ H2 x y v u Q I2 rx ry q (hs _ _))

def rIxL (K : PySem.W.Frag) : R2 := fun x y H Q => ∃ p xs i v, x = .ref p ∧ y = .int i ∧ SqL K H p xs ∧ atI xs i = some v ∧ Q v H
def rIxT (K : PySem.W.Frag) : R2 := fun x y H Q => ∃ p xs i v, x = .ref p ∧ y = .int i ∧ SqT K H p xs ∧ atI xs i = some v ∧ Q v H
theorem ix_list : IxR X (rIxL X.K) := by
  intro value slice pins s σ H x y v u Q I rx ry h hs
  obtain ⟨p, xs, i, z, rfl, rfl, hq, he, q⟩ := h
  cases rx
  obtain ⟨t, rfl⟩ := ry
  obtain ⟨its, r, pl, hz⟩ := I.list hq
  obtain ⟨j, h1, h2, h3, h4, h5⟩ := atI_get he
  obtain ⟨w, ew, rw'⟩ := r.get h2
  have hl := r.length
  have hn := line63
  have fin : EP X pins σ Q w s := ⟨z, H, I, rw', q⟩
  by_cases h0 : 0 ≤ i
  · have hj : i.toNat = j := by
      rw [seqIndex_of h0 h5] at h1
      exact Option.some.inj h1
    exact item_listR pl.isList h0 (by omega) (by rw [hj]; simpa using ew) fin hs
  · have hj : (i + (its.toArray.size : Int)).toNat = j := by
      rw [seqIndex_neg (by omega) h4] at h1
      rw [List.size_toArray, ← hl]
      exact Option.some.inj h1
    exact subscriptTail_builtinR (x := w) pl.isList.typeIs slot_list_getitem.lookup
      (wpAny_getItem_list_neg (Q := fun r s' => r = w ∧ EP X pins σ Q r s') pl.isList (by omega) (by rw [List.size_toArray] <;> omega) (by omega) (by rw [hj]; simpa using ew) ⟨rfl, fin⟩) hs
theorem ix_tup : IxR X (rIxT X.K) := by
  intro value slice pins s σ H x y v u Q I rx ry h hs
  obtain ⟨p, xs, i, z, rfl, rfl, hq, he, q⟩ := h
  cases rx
  obtain ⟨t, rfl⟩ := ry
  obtain ⟨its, r, pl, hz⟩ := I.tuple hq
  obtain ⟨j, h1, h2, h3, h4, h5⟩ := atI_get he
  obtain ⟨w, ew, rw'⟩ := r.get h2
  have hl := r.length
  have hn := line63
  have fin : EP X pins σ Q w s := ⟨z, H, I, rw', q⟩
  exact subscriptTail_builtinR (x := w) pl.typeIs slot_tuple_getitem.lookup
    (getItem_tuple (j := j) (Q := fun r s' => r = w ∧ EP X pins σ Q r s') pl (by omega) (by omega) (by rw [List.size_toArray, ← hl]; exact h1) (by simpa using ew) ⟨rfl, fin⟩) hs

/-! ### xs[i] = v, any sign -/

/-! ### slices -/
theorem slice_bounds (lo hi : Option Int) (n : Nat) : (sliceBounds lo hi none n).1 = ((HT.sIx n 0 lo : Nat) : Int) ∧ (sliceBounds lo hi none n).2.1 = ((HT.sIx n n hi : Nat) : Int) ∧ (sliceBounds lo hi none n).2.2 = 1 := by
  refine ⟨?_, ?_, rfl⟩
  · cases lo with
    | none => simp [sliceBounds, HT.sIx]
    | some i =>
      simp only [sliceBounds, HT.sIx, Option.getD_none, show (1 : Int) > 0 by decide, if_true]
      by_cases h : i < 0
      · simp only [h, if_true] <;> omega
      · simp only [h, if_false] <;> omega
  · cases hi with
    | none => simp [sliceBounds, HT.sIx]
    | some i =>
      simp only [sliceBounds, HT.sIx, Option.getD_none, show (1 : Int) > 0 by decide, if_true]
      by_cases h : i < 0
      · simp only [h, if_true] <;> omega
      · simp only [h, if_false] <;> omega
theorem slicePick_cut (its : List Value) (lo hi : Option Int) : slicePick its.toArray lo hi none = ((its.drop (HT.sIx its.length 0 lo)).take (HT.sIx its.length its.length hi - HT.sIx its.length 0 lo)).toArray := by
  obtain ⟨h1, h2, h3⟩ := slice_bounds lo hi its.toArray.size
  unfold slicePick
  rw [h1, h2, h3]
  simp only [sliceRange_one, pick_run, List.size_toArray] <;> rfl
/-- xs[lo:hi] of a list: a new list -/
def rSlL (K : PySem.W.Frag) : V → Option Int → Option Int → Hp → VK → Prop := fun x lo hi H Q => ∃ a xs, x = .ref a ∧ SqL K H a xs ∧ ∀ p, H p = none → Q (.ref p) (upd H p (.lst (cutV xs lo hi)))
theorem sl_list : SlR X (rSlL X.K) := by
  intro pins s σ H x v vl vu lo hi sl Q I rx hs pl pu h
  obtain ⟨a, xs, rfl, hx, q⟩ := h
  cases rx
  obtain ⟨its, r, ht, hz⟩ := I.list hx
  have hlen := r.length
  refine ⟨"list", _, slot_list_getitem.lookup, ht.isList.typeIs, ?_⟩
  refine wpAny_getItem_list_slice ht.isList hs pl pu .none (by simp) ?_ (by rw [List.size_toArray] <;> omega)
  rw [slicePick_cut, ← hlen]
  refine ⟨.ref s.heap.objs.size, _, I.laid (t' := s.toks) (o := .lst (cutV xs lo hi)) (fun b ob q => Heap.get?_push_of_some _ q) (Nat.le_refl _) ?_, rfl, q _ (I.hok.fresh (Nat.le_refl _))⟩
  exact ⟨Nat.le_trans (cutV_length xs lo hi) hz, _, 0, (r.drop (HT.sIx xs.length 0 lo)).take (HT.sIx xs.length xs.length hi - HT.sIx xs.length 0 lo), Heap.get?_push_size _ rfl⟩

/-! ### in, not in: flat items -/

/-! ### len, list(x), tuple(x) of any list or tuple that is read -/
theorem call_len_seq : CallR X (.builtin "len") (fun xs H Q => ∃ p ys, xs = [.ref p] ∧ (SqL X.K H p ys ∨ SqT X.K H p ys) ∧ Q (.int ys.length) H) := by
  intro pins s σ H xs us Q I r h
  obtain ⟨p, ys, rfl, hq, q⟩ := h
  obtain ⟨u, rfl, rx⟩ := vals1 r
  cases rx
  have hn := line63
  rcases hq with hq | hq
  · obtain ⟨its, r', pl, hz⟩ := I.list hq
    have hlen := r'.length
    exact Calls.call_len_list pl.isList (by simp only [List.size_toArray] <;> omega) ⟨.int ys.length, H, I.tok _, ⟨s.toks + 1, by rw [List.size_toArray, hlen]⟩, q⟩
  · obtain ⟨its, r', pl, hz⟩ := I.tuple hq
    have hlen := r'.length
    exact len_tuple pl (by simp only [List.size_toArray] <;> omega) ⟨.int ys.length, H, I.tok _, ⟨s.toks + 1, by rw [List.size_toArray, hlen]⟩, q⟩
theorem call_len_str : CallR X (.builtin "len") (fun xs H Q => ∃ z, xs = [.str z] ∧ z.length ≤ sizeLine ∧ Q (.int z.length) H) := by
  intro pins s σ H xs us Q I r h
  obtain ⟨z, rfl, hz, q⟩ := h
  obtain ⟨u, rfl, t, rfl⟩ := vals1 r
  have hn := line63
  exact len_str (by omega) ⟨.int z.length, H, I.tok _, ⟨_, rfl⟩, q⟩

/-! ### the call of a builtin's method: o.m(..) -/
variable {o e : Expr} {es : List Expr} {to : TE} {t : TA} {name : Str} {apos cpos : Pos} {T id : String} {r : V → List V → Hp → VK → Prop}
/- xs.append(e), list.index on a module's tuple .. are MtR facts of 06m -/
end
end L2

namespace L2
open PySem PySem.Spec PyProof.Rows


/-! ### lists of values -/
theorem Vals.rep {xs : List V} {us : List Value} (h : Vals xs us) : ∀ k : Nat, Vals (List.replicate k xs).flatten (List.replicate k us).flatten
  | 0 => .nil
  | k + 1 => by
    rw [List.replicate_succ, List.replicate_succ, List.flatten_cons, List.flatten_cons]
    exact Vals.append h (Vals.rep h k)
theorem foldl_rep (its : List Value) : ∀ (k : Nat) (acc : List Value),
    List.foldl (fun x1 x2 => x1 ++ x2) acc.toArray (List.replicate k its.toArray) = (acc ++ (List.replicate k its).flatten).toArray
  | 0, acc => by simp
  | k + 1, acc => by
    have e : acc.toArray ++ its.toArray = (acc ++ its).toArray := by simp
    have e2 : (acc ++ its) ++ (List.replicate k its).flatten = acc ++ (List.replicate (k + 1) its).flatten := by
      rw [List.replicate_succ, List.flatten_cons, List.append_assoc]
    rw [← e2, ← foldl_rep its k (acc ++ its), ← e, List.replicate_succ, List.foldl_cons]

section
variable {X : Cx} {pins : List (Addr × Obj)} {σ : St} {H : Hp} {s : Shared} {l b : Addr} {xs ys zs : List V}

/-! ### the two steps: a tracked list is rewritten, a new list is laid -/
theorem Inv.lnew {its : List Value} {t' : Nat} (I : Inv X pins σ H s) (hv : Vals ys its) (hz : ys.length ≤ sizeLine) :
    Inv X pins σ (upd H s.heap.objs.size (.lst ys)) { s with heap := s.heap.push { cls := .type "list", data := .seq its.toArray }, toks := t' } :=
  I.laid (fun _ _ q => Heap.get?_push_of_some _ q) (Nat.le_refl _) ⟨hz, its, 0, hv, Heap.get?_push_size _ rfl⟩
theorem Inv.fresh (I : Inv X pins σ H s) : H s.heap.objs.size = none := I.hok.fresh (Nat.le_refl _)
theorem Inv.lstM (I : Inv X pins σ H s) (hH : H l = some (.lst xs)) : xs.length ≤ sizeLine ∧ ∃ (its : List Value) (n : Nat), Vals xs its ∧ xs.length = its.length ∧ s.heap.get? l = some { cls := .type "list", data := .seq its.toArray n } := by
  obtain ⟨z, its, n, r, e⟩ := I.hok l _ hH
  exact ⟨z, its, n, r, r.length, e⟩

theorem notLongL {n : Nat} (h : n ≤ sizeLine) : Builtin.List.listTooLong n = false := by
  unfold Builtin.List.listTooLong
  exact decide_eq_false (by omega)
end

section
variable {X : Cx}

/-! ### methods -/






/-! ### list + list, list += list, list * int -/
def rCat : R2 := fun x y H Q => ∃ l b xs zs, x = .ref l ∧ y = .ref b ∧ H l = some (.lst xs) ∧ H b = some (.lst zs) ∧ xs.length + zs.length ≤ sizeLine ∧ ∀ p, H p = none → Q (.ref p) (upd H p (.lst (xs ++ zs)))
theorem op_cat : OpR X (binaryOp .Add) rCat := by
  intro pins s σ H x y v u Q I rx ry h
  obtain ⟨l, b, xs, zs, rfl, rfl, hH, hB, hz, q⟩ := h
  cases rx
  cases ry
  obtain ⟨z, its, n, r, hl, e⟩ := I.lstM hH
  obtain ⟨z2, its2, n2, r2, hl2, e2⟩ := I.lstM hB
  refine PySem.P.add_list e e2 ?_ (by rw [List.size_toArray, List.size_toArray]; omega)
  have ea : its.toArray ++ its2.toArray = (its ++ its2).toArray := by simp
  rw [ea]
  exact ⟨.ref _, _, I.lnew (t' := s.toks) (r.append r2) (by rw [List.length_append]; omega), rfl, q _ I.fresh⟩
/-- a list times an int (a negative one is nothing) -/
def rRep : R2 := fun x y H Q => ∃ l k xs, x = .ref l ∧ y = .int k ∧ H l = some (.lst xs) ∧ -(2 ^ 63) ≤ k ∧ k < 2 ^ 63 ∧ xs.length * k.toNat ≤ sizeLine ∧
  ∀ p, H p = none → Q (.ref p) (upd H p (.lst (List.replicate k.toNat xs).flatten))
theorem len_rep {α : Type} (xs : List α) (k : Nat) : (List.replicate k xs).flatten.length = k * xs.length := by
  induction k with
  | zero => simp
  | succ k ih => rw [List.replicate_succ, List.flatten_cons, List.length_append, ih, Nat.succ_mul, Nat.add_comm]
theorem op_rep : OpR X (binaryOp .Mult) rRep := by
  intro pins s σ H x y v u Q I rx ry h
  obtain ⟨l, k, xs, rfl, rfl, hH, h1, h2, hz, q⟩ := h
  cases rx
  obtain ⟨t, rfl⟩ := ry
  obtain ⟨z, its, n, r, hl, e⟩ := I.lstM hH
  have hlen : its.toArray.size * k.toNat ≤ sizeLine := by rw [List.size_toArray, ← hl]; exact hz
  have hcap : ¬ its.toArray.size * k.toNat > (2 ^ 63 - 1) / 8 := by
    have : (sizeLine : Nat) ≤ (2 ^ 63 - 1) / 8 := by decide
    omega
  have hfit : ¬ (!Builtin.List.listFitsIndex k) = true := by
    rw [fitsIndex_both h1 h2]
    exact Bool.false_ne_true
  have hlong : ¬ Builtin.List.listTooLong (its.toArray.size * k.toNat) = true := by
    rw [notLongL hlen]
    exact Bool.false_ne_true
  have hnew : List.foldl (fun x1 x2 => x1 ++ x2) #[] (List.replicate (if its.toArray.isEmpty = true then 0 else k.toNat) its.toArray) = (List.replicate k.toNat its).flatten.toArray := by
    have f0 : ∀ m : Nat, List.foldl (fun x1 x2 => x1 ++ x2) #[] (List.replicate m its.toArray) = (List.replicate m its).flatten.toArray := fun m => by
      have := foldl_rep its m []
      rw [List.nil_append] at this
      exact this
    rw [f0]
    cases its with
    | nil => simp
    | cons a r' => rw [if_neg (by simp)]
  refine wpAny_binaryOp_repeat_ref (T := "list") (U := "int") (by decide) ⟨_, e, rfl⟩ (fun s' => typeIs_int s' k t) noFill_list_mul F.fills_int_mul F.slot_int_rmul repeat_list F.slot_int_index.lookup
    (call_meets F.slot_int_rmul (typeIs_int s k t) F.entry_int_rmul (F.args_int_rmul_2 _ _) (int___rmul___int_list k t l its.toArray n)
      ⟨e, rfl, ⟨_, e, rfl⟩, call_meets F.slot_list_mul ⟨_, e, rfl⟩ F.entry_list_mul (F.args_list_mul_2 _ _) (AutoListH.list___mul___list_int_3 l its.toArray n k t hfit hcap hlong) ⟨e, ?_⟩⟩)
  rw [hnew]
  exact ⟨.ref _, _, I.lnew (t' := s.toks) (r.rep k.toNat) (by rw [len_rep, Nat.mul_comm]; exact hz), rfl, q _ I.fresh⟩

/-! ### del xs[i] -/
end

/-! ### xs[a:b] = ys -/
section
variable {prog : Program} {w : World} {A : Around} {E : Value → Shared → Prop} {s : Shared}
end

section
variable {X : Cx}
end
end L2

namespace L2
open PySem PySem.Spec PyProof.Rows

theorem Vals.ints : ∀ {ns : List Int} {us : List Value}, Vals (ns.map V.int) us → IntsAre us ns
  | [], us, h => by
    rw [List.map_nil] at h
    cases h
    exact IntsAre.nil
  | n :: ns, us, h => by
    rw [List.map_cons] at h
    cases h with
    | cons r t =>
      obtain ⟨k, rfl⟩ := r
      exact IntsAre.cons n k (Vals.ints t)
theorem Vals.ref1 {a : Addr} {us : List Value} (r : Vals [V.ref a] us) : us = [Value.ref a] := by
  cases r with
  | cons r t =>
    cases t
    cases r
    rfl

/-! ### the library's walks over a list of ints, kept objects alone -/
section
variable {prog : Program} {w : World} {A : Around} {E : Value → Shared → Prop} {s : Shared} {l : Addr} {its : List Value} {ns : List Int} {Q : Value → Shared → Prop}
theorem sum_raw (hh : A.handled = none) (hl : s.heap.IsList l its.toArray) (hi : IntsAre its ns)
    (h : ∀ h' tk t', (∀ b o, s.heap.get? b = some o → h'.get? b = some o) → Q (.int ns.sum t') { s with heap := h', toks := tk }) : wpAny (model prog w) A (call (.builtin "sum") [.ref l]) Q E s := by
  obtain ⟨xs, e⟩ := hi.allInts.items
  have hn : numsOf (intItems xs).toList = ns := by rw [← e]; exact hi.numsOf
  rw [nums_intItems] at hn
  rw [e] at hl
  refine PySem.sum_intListG hh hl fun h' tk t' hk => ?_
  have := h h' tk t' hk
  rw [preSum_eq, List.take_of_length_le (by simp), hn]; exact this
end

/-! ### the calls, by values (CallR of 03t; MtR of 06l) -/
section
variable {X : Cx}
/-- sum(xs) of a list of ints -/
def rSum (K : PySem.W.Frag) : List V → Hp → VK → Prop := fun vs H Q => ∃ (a : Addr) (ns : List Int), vs = [V.ref a] ∧ SqL K H a (ns.map V.int) ∧ Q (.int ns.sum) H
theorem cr_sum (hc : X.calm = true) : CallR X (.builtin "sum") (rSum X.K) := by
  intro pins s σ H vs us Q I r h
  obtain ⟨a, ns, rfl, hs, q⟩ := h
  obtain ⟨its, rv, hl, _⟩ := I.list hs
  rw [Vals.ref1 r]
  exact sum_raw (I.ok.hd hc) hl.isList rv.ints fun h' tk t' hk => ⟨.int _, H, I.kept hk, ⟨_, rfl⟩, q⟩

/-! sorted, sort (fewer than 64 items: the library's own bound) -/
end

/-! ### list.index, flat items -/
section
variable {X : Cx}
end

/-! ### type(x) of an own instance; is, is not of a module's class -/
section
variable {X : Cx}
end

/-! ### any(xs), all(xs) of a list of bools -/
section
variable {X : Cx}
end

/-! ### == and != of data at any depth: none, bools, ints, texts, lists, tuples -/
mutual
inductive Dp (K : PySem.W.Frag) (H : Hp) : V → PyData → Prop
  | non : Dp K H .non .none
  | bl (b : Bool) : Dp K H (.bl b) (.bool b)
  | int (i : Int) : Dp K H (.int i) (.int i)
  | str (x : Str) : Dp K H (.str x) (.str x)
  | lst {a : Addr} {xs : List V} {ds : List PyData} : SqL K H a xs → DpAll K H xs ds → Dp K H (.ref a) (.list ds)
  | tup {a : Addr} {xs : List V} {ds : List PyData} : SqT K H a xs → DpAll K H xs ds → Dp K H (.ref a) (.tuple ds)
inductive DpAll (K : PySem.W.Frag) (H : Hp) : List V → List PyData → Prop
  | nil : DpAll K H [] []
  | cons {v : V} {vs : List V} {d : PyData} {ds : List PyData} : Dp K H v d → DpAll K H vs ds → DpAll K H (v :: vs) (d :: ds)
end
section
variable {X : Cx} {pins : List (Addr × Obj)} {σ : St} {H : Hp} {s : Shared}
mutual
theorem Dp.reads (I : Inv X pins σ H s) : ∀ (d : PyData) (v : V) (u : Value), Dp X.K H v d → RelV v u → ∃ as, Reads s.heap u d as
  | .none, _, _, h, r => by
    cases h
    cases r
    exact ⟨_, Reads.none⟩
  | .bool b, _, _, h, r => by
    cases h
    cases r
    exact ⟨_, Reads.bool b⟩
  | .int i, _, _, h, r => by
    cases h
    obtain ⟨t, rfl⟩ := r
    exact ⟨_, Reads.int i t⟩
  | .str x, _, _, h, r => by
    cases h
    obtain ⟨t, rfl⟩ := r
    exact ⟨_, Reads.str x t⟩
  | .list ds, _, _, h, r => by
    cases h with
    | lst hs ha =>
      cases r
      obtain ⟨its, rv, ⟨o, n, ho, hc, _, hd⟩, _⟩ := I.list hs
      obtain ⟨as, hr⟩ := Dp.readsAll I ds _ its ha rv
      exact ⟨_, Reads.list ho hc hd hr⟩
  | .tuple ds, _, _, h, r => by
    cases h with
    | tup hs ha =>
      cases r
      obtain ⟨its, rv, ⟨o, ho, hc, n, hd⟩, _⟩ := I.tuple hs
      obtain ⟨as, hr⟩ := Dp.readsAll I ds _ its ha rv
      exact ⟨_, Reads.tuple ho hc hd hr⟩
  | .dict _, _, _, h, _ => by cases h
theorem Dp.readsAll (I : Inv X pins σ H s) : ∀ (ds : List PyData) (vs : List V) (us : List Value), DpAll X.K H vs ds → Vals vs us → ∃ as, ReadsAll s.heap us ds as
  | [], _, _, h, r => by
    cases h
    cases r
    exact ⟨_, ReadsAll.nil⟩
  | d :: ds, _, _, h, r => by
    cases h with
    | cons h1 h2 =>
      cases r with
      | cons r1 r2 =>
        obtain ⟨as, q1⟩ := Dp.reads I d _ _ h1 r1
        obtain ⟨bs, q2⟩ := Dp.readsAll I ds _ _ h2 r2
        exact ⟨_, ReadsAll.cons q1 q2⟩
end
end
section
variable {X : Cx}
def rEqD (K : PySem.W.Frag) : R2 := fun x y H Q => ∃ d e, Dp K H x d ∧ Dp K H y e ∧ SeqAt.shaped d = true ∧ SeqAt.shaped e = true ∧ Q (.bl (PyData.eqv d e)) H
theorem op_eqD (hu : X.A.units + 64 < cLine) : OpR X (compareOp .Eq) (rEqD X.K) := by
  intro pins s σ H x y v u Q I rx ry h
  obtain ⟨d, e, hd, he, sd, se, q⟩ := h
  obtain ⟨as, r1⟩ := Dp.reads I d x v hd rx
  obtain ⟨bs, r2⟩ := Dp.reads I e y u he ry
  exact SeqAt.compareEq_shaped r1 r2 sd se hu ⟨.bl _, H, I, rfl, q⟩
end
end L2

namespace L2
open PySem PySem.Spec PyProof.Rows
abbrev CellAt (h : Heap) (c : Addr) (v : Option Value) : Prop := h.IsCell c v
def relS (scope sc : Scope) : Scope :=
  { scope with names := scope.names.map fun (n, k) => if (k == .free && sc.kind == .function && sc.names.lookup n == some .cell) then (n, .cell) else (n, k) }

def cloFrom (cells : List (Str × Addr)) : List (Str × NameKind) → List (Str × Addr) → List (Str × Addr)
  | [], acc => acc
  | (n, k) :: r, acc => if k == .free then cloFrom cells r ((n, (cells.lookup n).getD 0) :: acc) else cloFrom cells r acc

theorem closure_loop (env : Env) (f : Str × NameKind → List (Str × Addr) → Sem (ForInStep (List (Str × Addr))))
    (hf : ∀ n k c, f (n, k) c = if k == .free then (do let a ← cellOf env n; pure (.yield ((n, a) :: c))) else pure (.yield c)) :
    ∀ (names : List (Str × NameKind)) (acc : List (Str × Addr)), (∀ y ∈ names, y.2 = .free → ∃ c, env.cells.lookup y.1 = some c) → forIn names acc f = pure (cloFrom env.cells names acc)
  | [], acc, _ => by rw [List.forIn_nil]; rfl
  | (n, k) :: r, acc, h => by
    rw [List.forIn_cons, hf]
    have ih := fun acc => closure_loop env f hf r acc fun y hy => h y (List.mem_cons_of_mem _ hy)
    unfold cloFrom
    by_cases hk : (k == NameKind.free) = true
    · rw [if_pos hk, if_pos hk]
      obtain ⟨c, hc⟩ := h (n, k) List.mem_cons_self (by simpa using hk)
      have e : cellOf env n = pure c := by unfold cellOf; rw [hc]
      rw [e]
      have e2 : (env.cells.lookup n).getD 0 = c := by rw [hc]; rfl
      rw [e2]
      exact ih _
    · rw [if_neg hk, if_neg hk]
      exact ih _
theorem closure_ok {scope : Scope} {env : Env} (h : ∀ y ∈ scope.names, y.2 = .free → ∃ c, env.cells.lookup y.1 = some c) : closureFor scope env = pure (cloFrom env.cells scope.names []) := by
  simp only [closureFor]
  rw [closure_loop env _ (fun n k c => rfl) scope.names [] h]
  rfl

theorem mem_lookup {α : Type} : ∀ {l : List (Str × α)} {n : Str} {c : α}, (n, c) ∈ l → ∃ c', l.lookup n = some c'
  | (k, v) :: r, n, c, h => by
    rw [List.lookup_cons]
    cases hb : n == k with
    | true => exact ⟨_, rfl⟩
    | false =>
      rcases List.mem_cons.mp h with e | h
      · cases e; simp at hb
      · exact mem_lookup h

theorem cloFrom_mem {cells : List (Str × Addr)} : ∀ {names : List (Str × NameKind)} {acc : List (Str × Addr)} {n : Str} {c : Addr}, (n, c) ∈ cloFrom cells names acc → (n, c) ∈ acc ∨ ((n, .free) ∈ names ∧ c = (cells.lookup n).getD 0)
  | [], _, _, _, h => .inl h
  | (m, k) :: r, acc, n, c, h => by
    unfold cloFrom at h
    split at h
    · rename_i hk
      have hk : k = .free := by simpa using hk
      rcases cloFrom_mem h with h | ⟨h1, h2⟩
      · rcases List.mem_cons.mp h with e | h
        · cases e; exact .inr ⟨hk ▸ List.mem_cons_self, rfl⟩
        · exact .inl h
      · exact .inr ⟨List.mem_cons_of_mem _ h1, h2⟩
    · rcases cloFrom_mem h with h | ⟨h1, h2⟩
      · exact .inl h
      · exact .inr ⟨List.mem_cons_of_mem _ h1, h2⟩
theorem cloFrom_acc {cells : List (Str × Addr)} : ∀ {names : List (Str × NameKind)} {acc : List (Str × Addr)} {p : Str × Addr}, p ∈ acc → p ∈ cloFrom cells names acc
  | [], _, _, h => h
  | (m, k) :: r, acc, p, h => by
    unfold cloFrom
    split
    · exact cloFrom_acc (List.mem_cons_of_mem _ h)
    · exact cloFrom_acc h
theorem cloFrom_has {cells : List (Str × Addr)} : ∀ {names : List (Str × NameKind)} {acc : List (Str × Addr)} {n : Str}, (n, .free) ∈ names → (n, (cells.lookup n).getD 0) ∈ cloFrom cells names acc
  | (m, k) :: r, acc, n, h => by
    unfold cloFrom
    rcases List.mem_cons.mp h with e | h
    · cases e
      exact cloFrom_acc List.mem_cons_self
    · split
      · exact cloFrom_has h
      · exact cloFrom_has h

theorem cells_mem : ∀ {names : List (Str × NameKind)} {h : Heap} {acc : List (Str × Addr)} {x : Str} {c : Addr}, (x, c) ∈ cellsFrom h.objs.size names acc →
    (x, c) ∈ acc ∨ ((x, .cell) ∈ names ∧ h.objs.size ≤ c ∧ CellAt (pushCells h names) c none)
  | [], _, _, _, _, h => .inl h
  | (n, k) :: r, h, acc, x, c, hm => by
    unfold cellsFrom at hm
    unfold pushCells
    split at hm
    · rename_i hk
      rw [if_pos hk]
      have hk : k = .cell := by simpa using hk
      rw [← Heap.size_push h { cls := .type "cell", data := .cell none }] at hm
      rcases cells_mem hm with hm | ⟨h1, h2, h3⟩
      · rcases List.mem_cons.mp hm with e | hm
        · cases e
          exact .inr ⟨hk ▸ List.mem_cons_self, Nat.le_refl _, _, pushCells_keeps r _ _ _ (Heap.get?_push_size _ rfl), rfl⟩
        · exact .inl hm
      · rw [Heap.size_push] at h2
        exact .inr ⟨List.mem_cons_of_mem _ h1, Nat.le_of_succ_le h2, h3⟩
    · rename_i hk
      rw [if_neg hk]
      rcases cells_mem hm with hm | ⟨h1, h2, h3⟩
      · exact .inl hm
      · exact .inr ⟨List.mem_cons_of_mem _ h1, h2, h3⟩
theorem cells_acc : ∀ {names : List (Str × NameKind)} {n : Nat} {acc : List (Str × Addr)} {p : Str × Addr}, p ∈ acc → p ∈ cellsFrom n names acc
  | [], _, _, _, h => h
  | (m, k) :: r, n, acc, p, h => by
    unfold cellsFrom
    split
    · exact cells_acc (List.mem_cons_of_mem _ h)
    · exact cells_acc h
theorem cells_has : ∀ {names : List (Str × NameKind)} {n : Nat} {acc : List (Str × Addr)} {x : Str}, (x, .cell) ∈ names → ∃ c, (x, c) ∈ cellsFrom n names acc
  | (m, k) :: r, n, acc, x, h => by
    unfold cellsFrom
    rcases List.mem_cons.mp h with e | h
    · cases e
      exact ⟨n, cells_acc List.mem_cons_self⟩
    · split
      · exact cells_has h
      · exact cells_has h
theorem cells_inj : ∀ {names : List (Str × NameKind)} {h : Heap} {acc : List (Str × Addr)} {x y : Str} {c : Addr}, (∀ p ∈ acc, p.2 < h.objs.size) → (∀ x y c, (x, c) ∈ acc → (y, c) ∈ acc → x = y) →
    (x, c) ∈ cellsFrom h.objs.size names acc → (y, c) ∈ cellsFrom h.objs.size names acc → x = y
  | [], _, _, _, _, _, _, hi, h1, h2 => hi _ _ _ h1 h2
  | (n, k) :: r, h, acc, x, y, c, hl, hi, h1, h2 => by
    unfold cellsFrom at h1 h2
    split at h1
    · rename_i hk
      rw [if_pos hk] at h2
      rw [← Heap.size_push h { cls := .type "cell", data := .cell none }] at h1 h2
      refine cells_inj (h := h.push _) (fun p hp => ?_) (fun x y c a b => ?_) h1 h2
      · rw [Heap.size_push]
        rcases List.mem_cons.mp hp with rfl | hp
        · exact Nat.lt_succ_self _
        · exact Nat.lt_succ_of_lt (hl p hp)
      · rcases List.mem_cons.mp a with e | a <;> rcases List.mem_cons.mp b with e' | b
        · cases e; cases e'; rfl
        · cases e; exact absurd (hl _ b) (Nat.lt_irrefl _)
        · cases e'; exact absurd (hl _ a) (Nat.lt_irrefl _)
        · exact hi _ _ _ a b
    · rename_i hk
      rw [if_neg hk] at h2
      exact cells_inj hl hi h1 h2

theorem newEnv_comp {M : Model} {A : Around} {E : Value → Shared → Prop} {s : Shared} {scope : Scope} {globals : Addr} {closure : List (Str × Addr)} {qual : Str} {func : Option Addr} {code : Value} {around : Env} {builtins : Addr} {Q : Env → Shared → Prop}
    (h : Q (newEnv scope s.heap.objs.size globals (cellsFrom (s.heap.objs.size + 1) scope.names closure) qual func code (some around) builtins)
      { s with heap := pushCells (s.heap.push { cls := .type "dict", data := .dict #[] }) scope.names }) :
    wpAny M A (newFunctionEnv scope globals closure [] qual func code (some around) builtins) Q E s := by
  simp only [newFunctionEnv, Option.isSome_some, if_true]
  refine wpAny_bind (wpAny_alloc ?_)
  refine wpAny_bind (wpAny_layCells _ (fun n k c => rfl) scope.names closure _ _ ?_)
  rw [show ({ s with heap := s.heap.push { cls := .type "dict", data := .dict #[] } } : Shared).heap.objs.size = s.heap.objs.size + 1 from Heap.size_push ..]
  rw [List.forIn_nil]
  exact wpAny_bind (wpAny_pure (wpAny_pure h))

/-- every name of the written scope, in the scope that runs -/
theorem lookup_relS {sc : Scope} : ∀ {names : List (Str × NameKind)} {x : Str} {k : NameKind},
    (names.map fun (n, k) => if (k == NameKind.free && sc.kind == .function && sc.names.lookup n == some .cell) then (n, NameKind.cell) else (n, k)).lookup x = some k →
    ∃ k', names.lookup x = some k' ∧ (k = k' ∨ (k' = .free ∧ k = .cell))
  | [], _, _, h => by simp at h
  | (n, k₀) :: r, x, k, h => by
    have ih := @lookup_relS sc r x k
    have h' : List.lookup x ((if (k₀ == NameKind.free && sc.kind == .function && sc.names.lookup n == some .cell) = true then (n, NameKind.cell) else (n, k₀)) :: (r.map _)) = some k := h
    cases hx : x == n with
    | true =>
      simp only [List.lookup_cons, hx]
      by_cases hc : (k₀ == NameKind.free && sc.kind == .function && sc.names.lookup n == some .cell) = true
      · rw [if_pos hc] at h'
        simp only [List.lookup_cons, hx] at h'
        cases h'
        simp only [Bool.and_eq_true, beq_iff_eq] at hc
        exact ⟨k₀, rfl, .inr ⟨hc.1.1, rfl⟩⟩
      · rw [if_neg hc] at h'
        simp only [List.lookup_cons, hx] at h'
        cases h'
        exact ⟨_, rfl, .inl rfl⟩
    | false =>
      simp only [List.lookup_cons, hx]
      by_cases hc : (k₀ == NameKind.free && sc.kind == .function && sc.names.lookup n == some .cell) = true
      · rw [if_pos hc] at h'
        simp only [List.lookup_cons, hx] at h'
        exact ih h'
      · rw [if_neg hc] at h'
        simp only [List.lookup_cons, hx] at h'
        exact ih h'



/-- the names of a comprehension's block: its own (with their places in N), or captured -/
structure BlkOk (N : List Str) (sc scope : Scope) (own : List (Str × Nat)) : Prop where
  kind : scope.kind = .function
  uniq : ∀ y ∈ scope.names, scope.names.lookup y.1 = some y.2
  ix : ∀ p ∈ own, N[p.2]? = some p.1
  free : ∀ y ∈ scope.names, y.2 = .free → sc.names.lookup y.1 = some .cell ∨ sc.names.lookup y.1 = some .free
  own : ∀ y ∈ scope.names, y.2 = .local ∨ y.2 = .cell → y.1 ∈ own.map (·.1) ∨ y.1 ∉ N
/-- the slots of the block's own names forgotten -/
def wipe (σ : St) : List Nat → St
  | [] => σ
  | v :: vs => (wipe σ vs).set v none
theorem wipe_length (σ : St) : ∀ vs : List Nat, (wipe σ vs).length = σ.length
  | [] => rfl
  | v :: vs => by unfold wipe; rw [List.length_set, wipe_length σ vs]
theorem wipe_some {σ : St} {i : Nat} {x : V} : ∀ {vs : List Nat}, (wipe σ vs)[i]? = some (some x) → σ[i]? = some (some x) ∧ i ∉ vs
  | [], h => ⟨h, by simp⟩
  | v :: vs, h => by
    unfold wipe at h
    by_cases hi : v = i
    · subst hi
      by_cases hv : v < (wipe σ vs).length
      · rw [List.getElem?_set_self hv] at h; cases h
      · rw [List.getElem?_eq_none (by simpa using hv)] at h; cases h
    · rw [List.getElem?_set_ne hi] at h
      obtain ⟨h1, h2⟩ := wipe_some h
      exact ⟨h1, by simp only [List.mem_cons, not_or]; exact ⟨fun e => hi e.symm, h2⟩⟩

/-- the context of a block that starts at s, its iterator's objects at fp -/
abbrev Cx.blk (X : Cx) (s : Shared) (H : Hp) (scope : Scope) (cenv : Env) (fp : List Addr) : Cx := { X with s_0 := s, H_0 := H, env := cenv, outer := X.stack, ex := fp, fn := fun x => scope.names.lookup x == some .cell, pn := [], xe := fun _ _ => False }
section
variable {X : Cx} {pins : List (Addr × Obj)} {σ : St} {H : Hp} {s : Shared}
theorem block_start {scope : Scope} {own : List (Str × Nat)} {fp : List Addr} (I : Inv X pins σ H s) (ok : BlkOk X.N X.env.scope scope own) (hN : X.N.Nodup) (hfp : ∀ b ∈ fp, FpOk X pins H b ∧ b < s.heap.objs.size) :
    Inv (X.blk s H scope (compEnvC scope (cellsFrom (s.heap.objs.size + 1) scope.names (cloFrom X.env.cells scope.names [])) s.heap.objs.size X.env) fp) [] (wipe σ (own.map (·.2))) H { s with heap := pushCells (s.heap.push { cls := .type "dict", data := .dict #[] }) scope.names } := by
  have hfree : ∀ y ∈ scope.names, y.2 = .free → ∃ c, X.env.cells.lookup y.1 = some c := fun y hy e => by
    rcases ok.free y hy e with k | k
    · exact I.ok.has _ (.inl k)
    · exact I.ok.has _ (.inr k)
  generalize hcenv : compEnvC scope (cellsFrom (s.heap.objs.size + 1) scope.names (cloFrom X.env.cells scope.names [])) s.heap.objs.size X.env = cenv
  have kp : ∀ b o, s.heap.get? b = some o → (pushCells (s.heap.push { cls := .type "dict", data := .dict #[] }) scope.names).get? b = some o := fun b o e => pushCells_keeps _ _ _ _ (Heap.get?_push_of_some _ e)
  have hL : cenv.locals = s.heap.objs.size := by rw [← hcenv]; rfl
  have hcl : cenv.cells = cellsFrom (s.heap.objs.size + 1) scope.names (cloFrom X.env.cells scope.names []) := by rw [← hcenv]; rfl
  have hsc : cenv.scope = relS scope X.env.scope := by rw [← hcenv]; rfl
  rw [← Heap.size_push s.heap { cls := .type "dict", data := .dict #[] }] at hcl
  have cm : ∀ {y c}, (y, c) ∈ cloFrom X.env.cells scope.names [] → X.env.cells.lookup y = some c ∧ c < s.heap.objs.size := fun {y c} hm => by
    rcases cloFrom_mem hm with hm | ⟨h1, rfl⟩
    · cases hm
    · obtain ⟨c, hc⟩ := hfree _ h1 rfl
      rw [hc]
      obtain ⟨w, z⟩ := I.cell _ _ hc
      exact ⟨rfl, z.lt⟩
  have mem : ∀ {y c}, cenv.cells.lookup y = some c → (X.env.cells.lookup y = some c ∧ c < s.heap.objs.size) ∨ (s.heap.objs.size + 1 ≤ c ∧ CellAt (pushCells (s.heap.push { cls := .type "dict", data := .dict #[] }) scope.names) c none) := fun {y c} e => by
    rw [hcl] at e
    rcases cells_mem (PySem.mem_of_lookup e) with hm | ⟨_, h2, h3⟩
    · exact .inl (cm hm)
    · rw [Heap.size_push] at h2; exact .inr ⟨h2, h3⟩
  have look : ∀ {y}, scope.names.lookup y = some .free → ∃ c, cenv.cells.lookup y = some c ∧ X.env.cells.lookup y = some c := fun {y} hl => by
    have hy : (y, NameKind.free) ∈ scope.names := PySem.mem_of_lookup hl
    obtain ⟨c', e'⟩ := mem_lookup (cells_acc (names := scope.names) (n := (s.heap.push { cls := .type "dict", data := .dict #[] }).objs.size) (cloFrom_has (cells := X.env.cells) (acc := []) hy))
    rw [← hcl] at e'
    refine ⟨c', e', ?_⟩
    rw [hcl] at e'
    rcases cells_mem (PySem.mem_of_lookup e') with hm | ⟨h1, _, _⟩
    · exact (cm hm).1
    · have := ok.uniq _ h1
      rw [hl] at this; cases this
  have okB : (X.blk s H scope cenv fp).Ok := by
    refine ⟨I.ok.mod, by show cenv.scope.kind = _; rw [hsc]; exact ok.kind, by show cenv.globals = _; rw [← hcenv]; exact I.ok.glob, by show cenv.builtins = _; rw [← hcenv]; exact I.ok.blt, by show s.heap.objs.size ≤ cenv.locals; rw [hL]; exact Nat.le_refl _,
      fun y z c e1 e2 => ?_, fun y hy => ?_, fun y c z e => ?_, I.ok.hd, I.ok.frames, .inl rfl, fun b hb => ⟨?_, fun y c e z => ?_⟩, I.bs, Nat.le_trans I.ok.bsz I.sz, fun b o e hb => ?_, fun b hb z => ?_, I.stack, I.stkFree⟩
    · have e1 : cenv.cells.lookup y = some c := e1
      have e2 : cenv.cells.lookup z = some c := e2
      rw [hcl] at e1 e2
      refine cells_inj (fun p hp => ?_) (fun y z c a b => I.ok.inj y z c (cm a).1 (cm b).1) (PySem.mem_of_lookup e1) (PySem.mem_of_lookup e2)
      rw [Heap.size_push]
      exact Nat.lt_succ_of_lt (cm (y := p.1) (c := p.2) hp).2
    · show ∃ c, cenv.cells.lookup y = some c
      have key : ∀ k, cenv.kindOf y = some k → (k = .cell ∨ k = .free) → ∃ c, cenv.cells.lookup y = some c := fun k hk hk' => by
        unfold Env.kindOf at hk
        rw [hsc] at hk
        obtain ⟨k', e, r⟩ := lookup_relS hk
        have : k' = .cell ∨ k' = .free := by
          rcases r with rfl | ⟨rfl, _⟩
          · exact hk'
          · exact .inr rfl
        rcases this with rfl | rfl
        · obtain ⟨c, hm⟩ := cells_has (n := (s.heap.push { cls := .type "dict", data := .dict #[] }).objs.size) (acc := cloFrom X.env.cells scope.names []) (PySem.mem_of_lookup e)
          obtain ⟨c', e'⟩ := mem_lookup hm
          exact ⟨c', by rw [hcl]; exact e'⟩
        · obtain ⟨c, h1, _⟩ := look e
          exact ⟨c, h1⟩
      rcases hy with hy | hy
      · exact key _ hy (.inl rfl)
      · exact key _ hy (.inr rfl)
    · have z : (scope.names.lookup y == some NameKind.cell) = true := z
      have z : scope.names.lookup y = some .cell := by simpa using z
      have e : cenv.cells.lookup y = some c := e
      rw [hcl] at e
      rcases cells_mem (PySem.mem_of_lookup e) with hm | ⟨_, h2, _⟩
      · rcases cloFrom_mem hm with hm | ⟨h1, _⟩
        · cases hm
        · have q := ok.uniq _ h1
          rw [z] at q; cases q
      · rw [Heap.size_push] at h2
        exact Nat.le_of_succ_le h2
    · show b ≠ cenv.locals
      rw [hL]; exact Nat.ne_of_lt (hfp b hb).2
    · have e : cenv.cells.lookup y = some c := e
      rcases mem e with ⟨h1, _⟩ | ⟨h1, _⟩
      · exact (hfp b hb).1.2.2.2.2.1 y c h1 z
      · have h2 : s.heap.objs.size + 1 ≤ b := by rw [← z]; exact h1
        exact absurd (Nat.lt_of_lt_of_le (hfp b hb).2 (Nat.le_of_succ_le h2)) (Nat.lt_irrefl _)
    · rcases (hfp b hb).1.2.2.2.1 with z | z
      · exact I.ok.noex b o e z
      · exact absurd (Nat.lt_of_lt_of_le (Heap.lt_size e) (Nat.le_trans I.ok.bsz z)) (Nat.lt_irrefl _)
    · rcases List.mem_cons.mp (I.stkSub b z) with z | z
      · exact (hfp b hb).1.2.1 z
      · exact (hfp b hb).1.2.2.1 z
  refine ⟨okB, rfl, I.bare, Un.kept kp, ⟨fun _ => none, ?_, fun i y av e1 e2 e3 => ?_⟩, fun y c e => ?_, ?_, fun y c e => ?_, fun p hp => ?_, I.hok.kept kp, by rw [wipe_length]; exact I.len⟩
  · show Heap.Ns _ cenv.locals _
    rw [hL]
    exact Heap.Ns.keeps (Heap.Ns.new ..) fun b o e => pushCells_keeps _ _ _ _ e
  · obtain ⟨e2, hne⟩ := wipe_some e2
    have hfr : scope.names.lookup y = some .free ∧ (cenv.kindOf y = some .cell ∨ cenv.kindOf y = some .free) := by
      have key : ∀ k, cenv.scope.names.lookup y = some k → k = .local ∨ k = .cell ∨ k = .free → scope.names.lookup y = some .free ∧ (cenv.kindOf y = some .cell ∨ cenv.kindOf y = some .free) := fun k hk hk' => by
        have hk0 := hk
        rw [hsc] at hk
        obtain ⟨k', e, r⟩ := lookup_relS hk
        have no : ¬ (k' = .local ∨ k' = .cell) := fun hh => by
          rcases ok.own _ (PySem.mem_of_lookup e) hh with e' | e'
          · obtain ⟨p, hp, hpy⟩ := List.mem_map.mp e'
            have e3 := ok.ix p hp
            have : p.1 = y := hpy
            rw [this] at e3
            exact hne (List.mem_map.mpr ⟨p, hp, nodup_ix hN e3 e1⟩)
          · exact e' (List.mem_of_getElem? e1)
        rcases r with rfl | ⟨rfl, rfl⟩
        · rcases hk' with rfl | rfl | rfl
          · exact absurd (.inl rfl) no
          · exact absurd (.inr rfl) no
          · exact ⟨e, .inr hk0⟩
        · exact ⟨e, .inl hk0⟩
      have e3 : Vis cenv.scope y := e3
      rcases e3 with e3 | e3 | e3
      · exact key _ e3 (.inl rfl)
      · exact key _ e3 (.inr (.inl rfl))
      · exact key _ e3 (.inr (.inr rfl))
    obtain ⟨m, hn, hl⟩ := I.loc
    have hvis : Vis X.env.scope y := (ok.free _ (PySem.mem_of_lookup hfr.1) rfl).elim (fun k => .inr (.inl k)) (fun k => .inr (.inr k))
    obtain ⟨w, r, q⟩ := hl i y av e1 e2 hvis
    refine ⟨w, r, .inr ⟨hfr.2, ?_⟩⟩
    obtain ⟨c, h1, h2⟩ := look hfr.1
    rcases q with ⟨k, _⟩ | ⟨_, c', e', z⟩
    · have k : X.env.scope.names.lookup y = some .local := k
      rcases ok.free _ (PySem.mem_of_lookup hfr.1) rfl with k' | k' <;> rw [show X.env.scope.names.lookup y = _ from k'] at k <;> cases k
    · rw [h2] at e'; cases e'
      exact ⟨c, h1, z.keeps kp⟩
  · have e : cenv.cells.lookup y = some c := e
    rcases mem e with ⟨h1, _⟩ | ⟨_, z⟩
    · obtain ⟨w, z⟩ := I.cell y c h1
      exact ⟨w, z.keeps kp⟩
    · exact ⟨_, z⟩
  · show H cenv.locals = none
    rw [hL]; exact I.hok.fresh (Nat.le_refl _)
  · have e : cenv.cells.lookup y = some c := e
    rcases mem e with ⟨h1, _⟩ | ⟨h1, _⟩
    · exact I.freeC y c h1
    · exact I.hok.fresh (Nat.le_of_succ_le h1)
  · exact absurd (show p ∈ ([] : List (Addr × Obj)) ++ [] from hp) (by simp)

/-- an item appended to a tracked list -/
theorem app_ok {E : Value → Shared → Prop} {D : Addr} {xs : List V} {y : V} {v : Value} {Q : Value → Shared → Prop} (I : Inv X pins σ H s) (hD : H D = some (.lst xs)) (hz : xs.length < sizeLine) (r : RelV y v)
    (h : ∀ s', Inv X pins σ (upd H D (.lst (xs ++ [y]))) s' → Q .none s') : wpAny (model X.prog X.w) X.A (call (.builtin "list.append") [.ref D, v]) Q E s := by
  obtain ⟨hz', its, n, ri, e⟩ := I.hok D _ hD
  have hl := ri.length
  refine append_at (hsz := by rw [List.size_toArray]; omega) e fun h' sb ho' => ?_
  refine h { s with heap := h' } (I.write (t' := s.toks) (by rw [hD]; trivial) (.inl rfl) (fun b u hb q => (sb.2 b hb).trans q) ⟨_, ho'⟩ ⟨by rw [List.length_append]; exact hz, its ++ [v], n + 1, ri.append (.cons r .nil), ?_⟩)
  rw [ho']
  simp

/-- a clause's tests -/
def PTs (X : Cx) (ifs : List Expr) (t : TT) : Prop :=
  ∀ (pins : List (Addr × Obj)) (s : Shared) (σ : St) (H : Hp) (Q : Bool → Hp → Prop), Inv X pins σ H s → t σ H Q →
    wpAny (model X.prog X.w) X.A (forIn ifs true fun c r => if r = true then do let ok ← isTrue c X.env (eval c X.env); pure (ForInStep.yield ok) else pure (ForInStep.yield r)) (TP X pins σ Q) X.xe s
def tYes : TT := fun _ H Q => Q true H
theorem pts_nil : PTs X [] tYes := fun _ _ _ H _ I h => wpAny_tests_nil ⟨H, I, h⟩
end

theorem thnF {α : Type} {t : Sem α} {Q Q' : α → Shared → Prop} {M : Model} {A : Around} {E : Value → Shared → Prop} {s : Shared} (h : wpAny M A t Q (fun _ _ => False) s) (hQ : ∀ a s, Q a s → Q' a s) : wpAny M A t Q' E s := wpAny_mono h hQ fun _ _ z => False.elim z

/-- the loop of a list comprehension's block, the target of any form (codeAny_compLoop_tests asks a target that no tuple goes to; statement and proof follow it, PyProof/CompMap.lean:41-61, with the step letOwnedTupleGo kept) -/
theorem compLoop_any {prog : Program} {w : World} {A : Around} {R : Result → Shared → Prop} {s : Shared} {elt target iter : Expr} {ifs : List Expr} {scope : Scope} {pos : Pos} {it acc : Value} {env : Env} (I : Nat → Shared → Prop)
    (turn : ∀ n s, I n s → wpAny (model prog w) A (pyNext it) (fun r s₁ => match r with
      | none => R (.ok .next) s₁
      | some v => wpAny (model prog w) A (letOwnedTupleGo target it v) (fun _ s₁' => wpAny (model prog w) A (assign target env v) (fun _ s₂ =>
          wpAny (model prog w) A (forIn ifs true fun c r => if r = true then do let ok ← isTrue c env (eval c env); pure (ForInStep.yield ok) else pure (ForInStep.yield r)) (fun ok s₃ =>
            if ok = true then wpAny (model prog w) A (eval elt env) (fun x s₄ =>
              wpAny (model prog w) A (call (.builtin "list.append") [acc, x]) (fun _ s₅ => ∃ m, m < n ∧ I m s₅) (notedBy (model prog w) A env fun e s' => R (.error e) s') s₄) (notedBy (model prog w) A env fun e s' => R (.error e) s') s₃
            else ∃ m, m < n ∧ I m s₃) (notedBy (model prog w) A env fun e s' => R (.error e) s') s₂) (notedBy (model prog w) A env fun e s' => R (.error e) s') s₁') (notedBy (model prog w) A env fun e s' => R (.error e) s') s₁) (notedBy (model prog w) A env fun e s' => R (.error e) s') s)
    (n : Nat) (h : I n s) :
    codeAny (model prog w) A (.compLoop (.ListComp elt [⟨target, iter, ifs, 0⟩] scope pos) 0 it acc env) R s := by
  refine codeAny_loop rfl I (fun n s hI => ?_) n h
  show wpAny _ A ((compTurn (.ListComp elt [⟨target, iter, ifs, 0⟩] scope pos) 0 it acc env).onRaise (fun x => do noteFrame x env; theTreesLotGoes x)) _ _ s
  refine wpAny_noted ?_
  rw [compTurn_list]
  refine wpAny_bind (wpAny_standAt (wpAny_bind (wpAny_mono (turn n s hI) (fun r s₁ h₁ => ?_) fun _ _ h' => h')))
  cases r with
  | none => exact wpAny_pure h₁
  | some v =>
    refine wpAny_bind (wpAny_mono h₁ (fun _ s₁' h₁' => ?_) fun _ _ h' => h')
    refine wpAny_bind (wpAny_mono h₁' (fun _ s₂ h₂ => wpAny_bind (wpAny_mono h₂ (fun ok s₃ h₃ => ?_) fun _ _ h' => h')) fun _ _ h' => h')
    cases ok with
    | false => exact wpAny_pure ⟨rfl, h₃⟩
    | true =>
      exact wpAny_bind (wpAny_bind (wpAny_mono h₃ (fun x s₄ h₄ => wpAny_bind (wpAny_mono h₄ (fun _ s₅ h₅ => wpAny_pure (wpAny_pure ⟨rfl, h₅⟩)) fun _ _ h' => h')) fun _ _ h' => h'))

section
variable {X : Cx}
/-- [elt for target in iter if ..]: D the new list; W by the turn and a measure, Nx what a turn is to reach -/
def tLc (wi : TI) (g : TG) (tt : TT) (te : TE) (vs : List Nat) : TE := fun σ H Q => wi σ H fun J H1 => ∀ D, H1 D = none → ∃ W : Nat → Nat → Hp → Prop, (∃ m, W 0 m (upd H1 D (.lst []))) ∧ ∀ i m H, W i m H →
  (J.stop i H ∧ Q (.ref D) H) ∨ (J.go i H ∧ ∃ Nx : Hp → Prop, (∀ H', Nx H' → ∃ m', m' < m ∧ W (i + 1) m' H') ∧ ∀ x H', J.yld i H x H' → g x (wipe σ vs) H' fun σ2 H2 => wipe σ2 vs = wipe σ vs ∧ tt σ2 H2 fun b H3 =>
    if b = true then te σ2 H3 fun y H4 => ∃ acc, H4 D = some (.lst acc) ∧ acc.length < sizeLine ∧ Nx (upd H4 D (.lst (acc ++ [y]))) else Nx H3)
theorem lc_core {pins : List (Addr × Obj)} {s : Shared} {σ : St} {H : Hp} {Q : VK} {elt tg iter : Expr} {ifs : List Expr} {scope : Scope} {own : List (Str × Nat)} {pos pos' : Pos} {wi : TI} {g : TG} {tt : TT} {te : TE} {use : Option (Value → Sem Unit)} {Qf : Value → Shared → Prop}
    (hc : X.calm = true) (hN : X.N.Nodup) (I : Inv X pins σ H s) (hi : PI X tg iter wi) (ok : BlkOk X.N X.env.scope scope own)
    (hg : ∀ (s : Shared) (H : Hp) (C : Addr) (cl : List (Str × Addr)) (fp : List Addr), PG (X.blk s H scope (compEnvC scope cl C X.env) fp) tg g) (ht : ∀ (s : Shared) (H : Hp) (C : Addr) (cl : List (Str × Addr)) (fp : List Addr), PTs (X.blk s H scope (compEnvC scope cl C X.env) fp) ifs tt)
    (he : ∀ (s : Shared) (H : Hp) (C : Addr) (cl : List (Str × Addr)) (fp : List Addr), PE (X.blk s H scope (compEnvC scope cl C X.env) fp) elt te) (hs : ∀ x, foldedSetIterable iter X.env x = pure x)
    (h : tLc wi g tt te (own.map (·.2)) σ H Q)
    (hRR : ∀ D C s' m H', Inv X pins σ H' s' → Q (.ref D) H' → s'.heap.Ns C m → FpOk X pins H' C → compPost (model X.prog X.w) X.A X.xe use Qf (.ref D) C (.ok .next) s') :
    wpAny (model X.prog X.w) X.A (comprehension (.ListComp elt [⟨tg, iter, ifs, 0⟩] scope pos) scope X.env pos' (newList []) false (eval iter X.env) use) Qf X.xe s := by
  have hfree : ∀ y ∈ scope.names, y.2 = .free → ∃ c, X.env.cells.lookup y.1 = some c := fun y hy e => by
    rcases ok.free y hy e with k | k
    · exact I.ok.has _ (.inl k)
    · exact I.ok.has _ (.inr k)
  refine wpAny_comprehension_free (use := use) rfl hs (closure_ok hfree) ok.kind (fun y hy e => by rw [ok.uniq y hy, e])
    (thn (hi pins s σ H _ I h) fun xv s1 hx => thn hx fun itv s2 h2 => ?_)
  obtain ⟨it, fp, tn, J, H2, e, I2, T, st2, f2, q⟩ := h2
  subst e
  refine wpAny_newObj_type (newEnv_comp ?_) (by show 0 ≤ sizeLine; decide)
  generalize hD : s2.heap.objs.size = D
  have hDn : H2 D = none := I2.hok.fresh (Nat.le_of_eq hD)
  obtain ⟨W, ⟨m0, w0⟩, turn⟩ := q D hDn
  -- the new list
  generalize hs3 : ({ s2 with heap := s2.heap.push { cls := .type "list", data := .seq ([] : List Value).toArray } } : Shared) = s3
  have I3 : Inv X pins σ (upd H2 D (.lst [])) s3 := by
    rw [← hs3]
    refine I2.laid (t' := s2.toks) (fun b o e => Heap.get?_push_of_some _ e) (Nat.le_of_eq hD) ⟨Nat.zero_le _, [], 0, .nil, ?_⟩
    rw [← hD]
    exact Heap.get?_push_size _ rfl
  have h3 : s3.heap = s2.heap.push { cls := .type "list", data := .seq ([] : List Value).toArray } := by rw [← hs3]
  have sz : ∀ b ∈ fp, b < s2.heap.objs.size := fun b hb => by
    obtain ⟨o, e, _⟩ := T.obj _ _ st2 b hb
    exact Heap.lt_size e
  have f3 : ∀ b ∈ fp, FpOk X pins (upd H2 D (.lst [])) b ∧ b < s3.heap.objs.size := fun b hb => by
    have hlt := sz b hb
    refine ⟨⟨?_, (f2 b hb).2⟩, by rw [h3, Heap.size_push]; exact Nat.lt_succ_of_lt hlt⟩
    rw [upd_ne (by rw [← hD]; exact Nat.ne_of_lt hlt)]
    exact (f2 b hb).1
  have st3 : tn 0 s3.heap := T.keep _ _ _ st2 fun b _ o e => by rw [h3]; exact Heap.get?_push_of_some _ e
  have I4 := block_start I3 ok hN f3
  have pg := hg s3 (upd H2 D (.lst [])) s3.heap.objs.size (cellsFrom (s3.heap.objs.size + 1) scope.names (cloFrom X.env.cells scope.names [])) fp
  have pt := ht s3 (upd H2 D (.lst [])) s3.heap.objs.size (cellsFrom (s3.heap.objs.size + 1) scope.names (cloFrom X.env.cells scope.names [])) fp
  have pe := he s3 (upd H2 D (.lst [])) s3.heap.objs.size (cellsFrom (s3.heap.objs.size + 1) scope.names (cloFrom X.env.cells scope.names [])) fp
  show codeAny _ _ (.compStart (.ListComp elt [⟨tg, iter, ifs, 0⟩] scope pos) 0 (.ref it) (.ref D) (compEnvC scope (cellsFrom (s3.heap.objs.size + 1) scope.names (cloFrom X.env.cells scope.names [])) s3.heap.objs.size X.env)) (compPost (model X.prog X.w) X.A X.xe use Qf (.ref D) s3.heap.objs.size) { s3 with heap := pushCells (s3.heap.push { cls := .type "dict", data := .dict #[] }) scope.names }
  have nfp : ∀ b ∈ fp, (upd H2 D (.lst [])) b = none := fun b hb => (f3 b hb).1.1
  generalize hce : compEnvC scope (cellsFrom (s3.heap.objs.size + 1) scope.names (cloFrom X.env.cells scope.names [])) s3.heap.objs.size X.env = ce at I4 pg pt pe ⊢
  have cL : ce.locals = s3.heap.objs.size := by subst hce; rfl
  generalize hH3 : upd H2 D (.lst []) = H3 at I3 I4 pg pt pe w0 nfp f3
  generalize hs4 : ({ s3 with heap := pushCells (s3.heap.push { cls := .type "dict", data := .dict #[] }) scope.names } : Shared) = s4 at I4 ⊢
  have st4 : tn 0 s4.heap := T.keep _ _ _ st3 fun b _ o e => by rw [← hs4]; exact pushCells_keeps _ _ _ _ (Heap.get?_push_of_some _ e)
  have stat : ∀ {σ' : St} {H' : Hp} {s' : Shared}, Inv (X.blk s3 H3 scope ce fp) [] σ' H' s' → (∀ b ∈ fp, H' b = none) → ∀ b ∈ fp, FpOk (X.blk s3 H3 scope ce fp) [] H' b := fun {σ' H' s'} I' hn b hb =>
    ⟨hn b hb, (I'.ok.exf b hb).1, I'.ok.exfs b hb, .inl hb, fun x c e => (I'.ok.exf b hb).2 x c e, fun p hp => absurd (show p ∈ ([] : List (Addr × Obj)) ++ [] from hp) (by simp)⟩
  have loop : codeAny (model X.prog X.w) X.A (.compLoop (.ListComp elt [⟨tg, iter, ifs, 0⟩] scope pos) 0 (.ref it) (.ref D) ce) (compPost (model X.prog X.w) X.A X.xe use Qf (.ref D) s3.heap.objs.size) s4 := by
    refine compLoop_any (fun n s' => ∃ i H', Inv (X.blk s3 H3 scope ce fp) [] (wipe σ (own.map (·.2))) H' s' ∧ tn i s'.heap ∧ (∀ b ∈ fp, H' b = none) ∧ W i n H') ?_ m0 ⟨0, H3, I4, st4, nfp, w0⟩
    rintro n s5 ⟨i, H5, I5, st5, n5, w5⟩
    rcases turn i n H5 w5 with ⟨stop, qq⟩ | ⟨go, Nx, hNx, step⟩
    · have td := T.done (X.blk s3 H3 scope ce fp) rfl rfl rfl hc i [] s5 _ H5 (fun _ _ => False) I5 (stat I5 n5) st5 stop
      refine thnF td fun r s6 ⟨hr, I6⟩ => ?_
      subst hr
      -- back in the def's context
      have I7 : Inv X pins σ H5 s6 := I3.call' (ch := fp) I6.os I6.base I6.hok I6.bare fun b hb => ⟨(f3 b hb).1.2.2.2.1, (f3 b hb).1.2.1, (f3 b hb).1.2.2.2.2.1, (f3 b hb).1.2.2.2.2.2⟩
      have nC : H5 s3.heap.objs.size = none := by
        have z : H5 ce.locals = none := I6.free
        rw [cL] at z
        exact z
      obtain ⟨m, hn, _⟩ := I6.loc
      have hn : s6.heap.Ns ce.locals m := hn
      rw [cL] at hn
      exact hRR D s3.heap.objs.size s6 m H5 I7 qq hn (I3.fpOk (Nat.le_refl _) nC)
    · have ti := T.item (X.blk s3 H3 scope ce fp) rfl rfl rfl hc i [] s5 _ H5 (fun _ _ => False) I5 (stat I5 n5) st5 go
      refine thnF ti fun r s6 ⟨u, hr, h6⟩ => ?_
      subst hr
      refine thnF h6 fun _ s7 ⟨x, H7, I7, r7, y7, st7, n7⟩ => ?_
      have I7' := I7.pinned (stat I7 n7) (T.obj _ _ st7)
      refine thnF (pg _ s7 _ H7 x u _ I7' r7 (step x H7 y7)) fun _ s8 ⟨σ8, H8, I8, hw8, q8⟩ => ?_
      refine thnF (pt _ s8 σ8 H8 _ I8 q8) fun b s9 ⟨H9, I9, q9⟩ => ?_
      -- the turn's end
      have fin : ∀ {s' : Shared} {H' : Hp}, Inv (X.blk s3 H3 scope ce fp) ([] ++ pinsAt fp s7.heap) σ8 H' s' → Nx H' → ∃ m, m < n ∧ ∃ i H', Inv (X.blk s3 H3 scope ce fp) [] (wipe σ (own.map (·.2))) H' s' ∧ tn i s'.heap ∧ (∀ b ∈ fp, H' b = none) ∧ W i m H' := fun {s' H'} I' nx => by
        obtain ⟨m', hm, w'⟩ := hNx H' nx
        have pin' : ∀ b ∈ fp, ∀ o, s7.heap.get? b = some o → s'.heap.get? b = some o ∧ H' b = none := fun b hb o e =>
          let z := I'.pin (b, o) (List.mem_append_right _ (List.mem_append_right _ (mem_pinsAt hb e)))
          ⟨z.1, z.2.1⟩
        have hl : (wipe σ (own.map (·.2))).length = σ8.length := by rw [← hw8, wipe_length]
        refine ⟨m', hm, i + 1, H', (I'.unpinned (pins := [])).weak hl (fun j v e => ?_), T.keep _ _ _ st7 fun b hb o e => (pin' b hb o e).1, fun b hb => ?_, w'⟩
        · rw [← hw8] at e
          exact (wipe_some e).1
        · obtain ⟨o, e, _⟩ := T.obj _ _ st7 b hb
          exact (pin' b hb o e).2
      cases b with
      | false =>
        simp only [Bool.false_eq_true, if_false] at q9 ⊢
        exact fin I9 q9
      | true =>
        simp only [if_true] at q9 ⊢
        refine thnF (pe _ s9 σ8 H9 _ I9 q9) fun z s10 ⟨yv, H10, I10, r10, acc, hD10, hz10, nx⟩ => ?_
        exact app_ok (X := X.blk s3 H3 scope ce fp) I10 hD10 hz10 r10 fun s11 I11 => fin I11 nx
  exact codeAny_compStart_list loop (T.self X.A 0 _ _ _ st4 loop)
/-- as a value -/
theorem pe_lc {elt tg iter : Expr} {ifs : List Expr} {scope : Scope} {own : List (Str × Nat)} {pos : Pos} {wi : TI} {g : TG} {tt : TT} {te : TE} (hc : X.calm = true) (hN : X.N.Nodup) (hi : PI X tg iter wi) (ok : BlkOk X.N X.env.scope scope own)
    (hg : ∀ (s : Shared) (H : Hp) (C : Addr) (cl : List (Str × Addr)) (fp : List Addr), PG (X.blk s H scope (compEnvC scope cl C X.env) fp) tg g) (ht : ∀ (s : Shared) (H : Hp) (C : Addr) (cl : List (Str × Addr)) (fp : List Addr), PTs (X.blk s H scope (compEnvC scope cl C X.env) fp) ifs tt)
    (he : ∀ (s : Shared) (H : Hp) (C : Addr) (cl : List (Str × Addr)) (fp : List Addr), PE (X.blk s H scope (compEnvC scope cl C X.env) fp) elt te) (hs : ∀ x, foldedSetIterable iter X.env x = pure x := by intro _; rfl) :
    PE X (.ListComp elt [⟨tg, iter, ifs, 0⟩] scope pos) (tLc wi g tt te (own.map (·.2))) := by
  intro pins s σ H Q I h
  rw [eval_ListComp]
  refine lc_core hc hN I hi ok hg ht he hs h fun D C s' m H' I' q hn f => ⟨m, hn, fun h'' sb => ?_⟩
  obtain ⟨f0, f1, f2, f3, f4, f5⟩ := f
  exact ⟨.ref D, H', I'.turned (t' := s'.toks) (fun b o hb e => (sb.2 b hb).trans e) f0 f1 f3 f4 f5, rfl, q⟩
end

/-! ### the forms one uses -/
end L2

namespace L2
open PySem PySem.Spec PyProof.Rows


section
variable {prog : Program} {w : World} {A : Around} {R : Result → Shared → Prop} {s : Shared} {elt t0 i0 t1 i1 : Expr} {ifs0 ifs1 : List Expr} {scope : Scope} {pos : Pos} {it acc : Value} {env : Env}
end

section
variable {X : Cx}
end
end L2

namespace L2
open PySem PySem.Spec PyProof.Rows

/-! ### lists of pairs as tables -/
section
variable {κ : Type} [DecidableEq κ]



end


/-! ### a tracked dict, its keys ints and texts or tuples of these -/


section
variable {P : Program} {w : World} {H : Hp} {h : Heap} {a : Addr}
end



section
variable {X : Cx} {pins : List (Addr × Obj)} {σ : St} {H : Hp} {s : Shared} {a : Addr} {y v : V} {u r : Value} {o : Option V} {A : Around} {E : Value → Shared → Prop}


end

section
variable {X : Cx} {pins : List (Addr × Obj)} {σ : St} {H : Hp} {s : Shared} {a : Addr} {kvs : List (Key × V)} {k : Key} {u : Value} {A : Around} {E : Value → Shared → Prop}
end


/-! ### readings and rules -/



section
variable {X : Cx} {o i e value : Expr} {pos pos' tpos : Pos} {td ty tv : TE}
end


/-! ### displays -/
section
variable {X : Cx} {pos : Pos}
end




/-! ### methods -/


section
variable {X : Cx} {pins : List (Addr × Obj)} {σ : St} {H : Hp} {s : Shared} {a : Addr} {y d : V} {u r : Value} {o : Option V} {A : Around} {E : Value → Shared → Prop}
end

section
variable {X : Cx} {o e f : Expr} {apos cpos : Pos} {td ty tx : TE}
end

/-! ### dict(d): a copy -/
section
variable {X : Cx} {pins : List (Addr × Obj)} {σ : St} {H : Hp} {s : Shared} {a : Addr} {kvs : List (Key × V)} {A : Around} {E : Value → Shared → Prop}
end


section
variable {X : Cx} {pins : List (Addr × Obj)} {σ : St} {H : Hp} {s : Shared} {a : Addr} {y : V} {u : Value} {A : Around} {E : Value → Shared → Prop}
end
end L2

namespace L2
open PySem PySem.Spec PyProof.Rows


section
variable {prog : Program} {w : World} {A : Around} {E : Value → Shared → Prop}


end

section
variable {X : Cx}
end
end L2

namespace L2
open PySem PySem.Spec PyProof.Rows


section
variable {X : Cx} {pins : List (Addr × Obj)} {σ : St} {H : Hp} {s : Shared} {h' : Heap}
/-- several records of ours have turned -/
theorem Inv.turnedL {t' : Nat} {ch : List Addr} (I : Inv X pins σ H s) (k : ∀ b o, b ∉ ch → s.heap.get? b = some o → h'.get? b = some o) (hf : ∀ b ∈ ch, FpOk X pins H b) : Inv X pins σ H { s with heap := h', toks := t' } := by
  have nit : ∀ b u, H b = some u → b ∉ ch := fun b u e z => by
    have q := (hf b z).1
    rw [q] at e; cases e
  refine I.step (g' := s.gens) (d' := s.drawn) (ch := ch) (fun b hb => ⟨(hf b hb).2.2.2.1, (hf b hb).2.1, (hf b hb).2.2.2.2.1, (hf b hb).2.2.2.2.2⟩) (fun b o _ _ hc e _ => k b o hc e) (fun b o _ _ hc e _ => ⟨o.slots, k b o hc e⟩)
    (fun _ _ _ _ n => n) (fun b o hc e => ⟨o, k b o hc e⟩) (fun _ _ e => e) (fun _ _ _ e => e) (fun b ps e => ⟨#[], by rw [e]; simp⟩) (fun m hm => ?_) (fun b u e => ?_) I.bare
  · obtain ⟨o, es, ep, ho, r⟩ := hm
    exact ⟨o, es, ep, k _ o (fun z => (hf _ z).2.1 rfl) ho, r⟩
  · refine (I.hok b u e).stay (fun c v hc q => k c v ?_ q) (fun _ q => q) fun _ _ q => q
    rcases hc with z | z
    · rw [z]; exact nit b u e
    · exact nit c _ z
/-- .. and one new object is laid -/
theorem Inv.turnedNew {t' : Nat} {ch : List Addr} {T : Addr} {ob : HO} (I : Inv X pins σ H s) (k : ∀ b o, b ∉ ch → s.heap.get? b = some o → h'.get? b = some o) (hf : ∀ b ∈ ch, FpOk X pins H b) (hT : s.heap.objs.size ≤ T)
    (new : ObjOk X.prog X.w (upd H T ob) h' T ob) : Inv X pins σ (upd H T ob) { s with heap := h', toks := t' } := by
  have hn : H T = none := I.hok.fresh hT
  have nit : ∀ b u, H b = some u → b ∉ ch := fun b u e z => by
    have q := (hf b z).1
    rw [q] at e; cases e
  refine I.step (g' := s.gens) (d' := s.drawn) (ch := ch) (fun b hb => ⟨(hf b hb).2.2.2.1, (hf b hb).2.1, (hf b hb).2.2.2.2.1, (hf b hb).2.2.2.2.2⟩) (fun b o _ _ hc e _ => k b o hc e) (fun b o _ _ hc e _ => ⟨o.slots, k b o hc e⟩)
    (fun b o _ e n => ?_) (fun b o hc e => ⟨o, k b o hc e⟩) (fun b xs e => ?_) (fun b o u e => ?_) (fun b ps e => ⟨#[], ?_⟩) (fun m hm => ?_) (fun b u e => ?_) I.bare
  · rw [upd_ne (Nat.ne_of_lt (Nat.lt_of_lt_of_le (Heap.lt_size e) hT))]; exact n
  · rw [upd_ne (ne_of_none e hn)]; exact e
  · rw [upd_ne (ne_of_none e hn)]; exact e
  · rw [upd_ne (ne_of_none e hn), e]; simp
  · obtain ⟨o, es, ep, ho, r⟩ := hm
    exact ⟨o, es, ep, k _ o (fun z => (hf _ z).2.1 rfl) ho, r⟩
  · by_cases hb : b = T
    · subst hb
      rw [upd_same] at e
      cases e
      exact new
    · rw [upd_ne hb] at e
      refine (I.hok b u e).stay (fun c v hc q => k c v ?_ q) (fun c q => by rw [upd_ne (ne_of_none q hn)]; exact q) fun c xs q => by rw [upd_ne (ne_of_none q hn)]; exact q
      rcases hc with z | z
      · rw [z]; exact nit b u e
      · exact nit c _ z

/-! ### locking a thing while a statement runs -/
end
section
variable {X : Cx}

/-! ### one iterator just laid -/
theorem pi_one {tg : Expr} {pins : List (Addr × Obj)} {σ : St} {H : Hp} {s : Shared} {R : It → Hp → Prop} {J : It} {tn : Nat → Heap → Prop} {tk : Nat} (I : Inv X pins σ H s) (o : Obj)
    (T : Turn X.prog X.w X.K tg J [s.heap.objs.size] s.heap.objs.size tn) (st : tn 0 (s.heap.push o)) (q : R J H) : PIE X pins σ tg R (.ref s.heap.objs.size) { s with heap := s.heap.push o, toks := tk } := by
  refine ⟨s.heap.objs.size, [s.heap.objs.size], tn, J, H, rfl, I.kept fun b ob e => Heap.get?_push_of_some _ e, T, st, fun b hb => ?_, q⟩
  have e : b = s.heap.objs.size := by simpa using hb
  subst e
  exact I.fpOk (Nat.le_refl _) (I.hok.fresh (Nat.le_refl _))
end

/-! ### range with a step -/
section
variable {X : Cx} {tg : Expr}
end

/-! ### reversed(list) -/
section
variable {X : Cx} {tg : Expr}
end

/-! ### a str -/
def Its (x : Str) : It := ⟨fun i _ => i < x.cps.size, fun i H v H' => H' = H ∧ ∃ c, x.cps[i]? = some c ∧ v = .str ⟨#[c]⟩, fun i _ => x.cps.size ≤ i⟩
theorem turn_str {P : Program} {w : World} {K : PySem.W.Frag} {tg : Expr} (it : Addr) (x : Str) (t : Tok) (ty : String) (hty : ty = "str_ascii_iterator" ∨ ty = "str_iterator") :
    Turn P w K tg (Its x) [it] it (fun i h => h.IsStrIter it ty x t i) where
  mem := by simp
  obj := fun i h st b hb => by
    have e : b = it := by simpa using hb
    subst e
    obtain ⟨o, e, c, d⟩ := st
    exact ⟨o, e, fun v z => by rw [d] at z; cases z⟩
  keep := fun i h h' st k => let ⟨o, ho, r⟩ := st; ⟨o, k it (by simp) o ho, r⟩
  item := by
    intro X hP hw hK hc i pins s σ H E I hf st hg
    subst hP hw hK
    obtain ⟨f0, f1, f2, f3, f4, f5⟩ := hf it (by simp)
    have W : Walks X.prog X.w X.A it [it] [it] x.cps.size (SignAt x) (fun i h => h.IsStrIter it ty x t i) := by
      rcases hty with e | e
      · rw [e]; exact Walks.strAscii (I.ok.hd hc) it x t
      · rw [e]; exact Walks.strWide (I.ok.hd hc) it x t
    have hno : ["enumerate", "zip", "dict_itemiterator", "dict_reverseitemiterator", "odict_iterator", "itertools.zip_longest", "itertools.pairwise"].contains ty = false := by
      rcases hty with e | e
      · rw [e]; decide
      · rw [e]; decide
    refine W.item i s _ _ hg st fun v h' tk hv st' kk => ?_
    obtain ⟨c, u, hcx, rfl⟩ := hv
    have I1 : Inv X pins σ H { s with heap := h', toks := tk } := I.turned (fun b o hb e => kk b o (by simpa using hb) e) f0 f1 f3 f4 f5
    obtain ⟨oi, e, cc, dd⟩ := id st'
    exact ⟨_, rfl, go_of (s := { s with heap := h', toks := tk }) e cc dd hno ⟨.str ⟨#[c]⟩, H, I1, ⟨u, rfl⟩, ⟨rfl, c, hcx, rfl⟩, st', fun b hb => (hf b hb).1⟩⟩
  done := by
    intro X hP hw hK hc i pins s σ H E I hf st hg
    subst hP hw hK
    obtain ⟨f0, f1, f2, f3, f4, f5⟩ := hf it (by simp)
    have hx : x.cps[i]? = none := Array.getElem?_eq_none hg
    rcases hty with e | e
    · rw [e] at st
      exact wpAny_pyNext_ascii_end (I.ok.hd hc) st hx fun h' eb => ⟨rfl, I.turned (t' := s.toks) (fun b o hb e => eb b o hb e) f0 f1 f3 f4 f5⟩
    · rw [e] at st
      exact wpAny_pyNext_wide_end (I.ok.hd hc) st hx fun h' eb => ⟨rfl, I.turned (t' := s.toks) (fun b o hb e => eb b o hb e) f0 f1 f3 f4 f5⟩
  self := fun A i s Q E st h => by
    rcases hty with e | e
    · rw [e] at st; exact wpAny_pyIter_striter_ascii st h
    · rw [e] at st; exact wpAny_pyIter_striter_wide st h
def iStr (te : TE) : TI := fun σ H R => te σ H fun v H1 => ∃ x, v = .str x ∧ R (Its x) H1
theorem pi_str {X : Cx} {tg e : Expr} {te : TE} (he : PE X e te) : PI X tg e (iStr te) := by
  intro pins s σ H R I h
  refine thn (he pins s σ H _ I h) fun v s1 ⟨y, H1, I1, r1, x, ex, q⟩ => ?_
  subst ex
  obtain ⟨t, rfl⟩ := r1
  cases ha : x.cps.all (· < 128)
  · exact wpAny_pyIter_wide ha (pi_one (tk := s1.toks) I1 _ (turn_str _ x t "str_iterator" (.inr rfl)) ⟨_, Heap.get?_push_size _ rfl, rfl, rfl⟩ q)
  · exact wpAny_pyIter_ascii ha (pi_one (tk := s1.toks) I1 _ (turn_str _ x t "str_ascii_iterator" (.inl rfl)) ⟨_, Heap.get?_push_size _ rfl, rfl, rfl⟩ q)

/-! ### a dict's keys: any dict's entries -/
section
variable {prog : Program} {w : World} {A : Around} {E : Value → Shared → Prop} {s : Shared}
end

/-! ### a locked dict -/
section
variable {X : Cx} {pins : List (Addr × Obj)} {σ : St} {H : Hp} {s : Shared} {d : Addr} {o : Obj}
end

section
variable {P : Program} {w : World} {K : PySem.W.Frag} {tg : Expr} {d : Addr} {o : Obj} {es : Array DictEntry} {ep : Nat}
end

/-! ### for k in d, d.keys(), d.values(), d.items() -/
section
variable {X : Cx} {tg e : Expr} {td : TE} {apos cpos : Pos}
end

/-! ### enumerate(list) -/
/-! ### zip(list, list) -/
theorem boot_zip5 : bootBuiltins "zip" = some (.type "zip") := by decide +kernel
end L2

section 
namespace Bits
open PySem PyProof.Rows








end Bits
end 

section 
namespace TL
open PySem PySem.Builtin PySem.Builtin.Str PySem.StrLaws


/-! ### the list functions -/




/-! ### the model's split and partition are these -/




/-! ### computing spl and par -/


/-! ### digits -/

/-! ### words: x.split() -/
end TL
end 

namespace L2
open PySem PySem.Spec PyProof.Rows




section
variable {X : Cx} {pins : List (Addr × Obj)} {σ : St} {H : Hp} {s : Shared} {Q : VK}
end

section
variable {X : Cx}





/-! ### of a text alone -/

/-! ### of a text and a text -/

end

section
variable {X : Cx} {o e : Expr} {to te : TE}
def tM1 (r : V → List V → Hp → VK → Prop) (to te : TE) : TE := fun σ H Q => to σ H fun x H1 => (∃ a, x = .str a) ∧ te σ H1 fun y H2 => r x [y] H2 Q
theorem pe_m1 {id : String} {name : Str} {apos pos : Pos} {r : V → List V → Hp → VK → Prop} (slot : Slot "str" name id) (ty : typeOf (.builtin id) = pure (.type "method_descriptor")) (rule : MtR X id r) (ho : PE X o to) (he : PE X e te)
    (hs : starEach [e] X.env = [(false, eval e X.env)] := by rfl) (hbase : attributeBase o name X.env (eval o X.env) = eval o X.env := by rfl) (hline : (apos.endLine == pos.line) = true := by rfl) :
    PE X (.Call (.Attribute o name apos) [e] [] pos) (tM1 r to te) := by
  intro pins s σ H Q I h
  refine PySem.Call_method1 hbase hs hline (thn (ho pins s σ H _ I h) fun v s1 ⟨x, H1, I1, r1, q1⟩ => ?_)
  obtain ⟨⟨a, rfl⟩, q1⟩ := q1
  obtain ⟨t, rfl⟩ := _root_.id r1
  refine ⟨"str", _, F.plainAttrs_str, slot, ty, typeIs_str _ _ _, (fun _ e => nomatch e), Calls.callWith_builtin rfl (Calls.evalArgs_plain (Calls.spliced_cons ?_))⟩
  exact thn (he pins s1 σ H1 _ I1 q1) fun u s2 ⟨y, H2, I2, r2, q2⟩ => Calls.spliced_nil (rule pins s2 σ H2 _ [y] _ [u] Q I2 r1 (.cons r2 .nil) q2)

end
end L2

namespace L2
open PySem PySem.Spec PyProof.Rows

section
variable {X : Cx}
end

/-! ### slices of a text -/


end L2

namespace Att
open PySem PySem.W PySem.Calls PyProof.Rows

/-! ### the script -/
theorem ints_of_wellAll {P : Params} {h : Heap} : ∀ (ns : List Int) (vs : List Value), WellAll P h vs (ns.map WData.int) → IntsAre vs ns := by
  intro ns
  induction ns with
  | nil =>
    intro vs w
    rw [List.map_nil] at w
    cases w
    exact .nil
  | cons n ns ih =>
    intro vs w
    rw [List.map_cons] at w
    cases w with
    | cons a b =>
      cases a
      exact .cons _ _ (ih _ b)



/-! ### the attachment: holds_open's last premise (the goal 'hc' behind k_head) from a wpAny of the law's body -/



/-! ### rules over ANY heap (no ledger) from facts about the written part K: the library's own take a ledger (News) for what they write -/
section
variable {prog : Program} {w : World} {A : Around} {E : Value → Shared → Prop} {s : Shared} {K : Frag}





/-! the whole heap as the ledger: makes every rule that writes through a ledger a rule over any heap -/

end
end Att

namespace L2
open PySem PySem.Spec PyProof.Rows

theorem vals_ints : ∀ {vs : List Value} {ns : List Int}, IntsAre vs ns → Vals (ns.map V.int) vs
  | _, _, .nil => .nil
  | _, _, .cons n t h => .cons ⟨t, rfl⟩ (vals_ints h)


end L2

namespace L2
open PySem PySem.Spec PyProof.Rows


end L2

/- THE LAST THEOREM (shape; LID, My.* are yours):
   My.Adr: a structure of the addresses that your layer names (classes, functions); My.Txt K t: a structure (Prop) of the equations over K;
   My.txt_mk : {K} {implicit addresses ..} (e1 : nsIn K mainGlobals "law" = some (some (.ref f))) (e2 : K.lookup f = some ⟨oc, od, .func (fnOf "law" "law" params body scope dV kV doc pm an cdv ct), sl⟩) (e3 : codeIn K cdv "law" = true) .. : ∃ t, My.Txt K t

set_option maxRecDepth 100000 in
set_option maxHeartbeats 0 in
theorem PySem.Challenge.cw_LID_holds : PySem.Challenge.rw_LID.Holds := by
  w_on; o_law; k_head; (case hw => w_witness2)
  k_fill
  refine L2.walk_of (l := PySem.Challenge.rw_LID) (n := 63) (k := 40) (x := "script") (CX := fun w => ..) (sp := fun _ => My.sp_law) rfl (by decide) rfl ⟨rfl, by decide, by decide⟩ (fun w h Y => PySem.W.kIn_of Y) ?F ?S ?C
  case F =>
    intro w mg fa h KX G hmg
    have T : ∃ t, My.Txt (L2.KOf KX) t := by
      dsimp only [L2.KOf]                          -- K must stand as «<heap const> w.params» for k_is
      refine' My.txt_mk ?e1 ?e2 ?e3 ..
      (case e1 => PySem.W.k_is)                    -- in the order: a name -> its address -> its object -> its parts
      (case e2 => PySem.W.k_is)
      ..
    obtain ⟨t, T⟩ := T
    have e0 := hmg.symm.trans (PySem.W.mg_of KX G T.law)
    cases e0                                       -- fa is the law's own address
    exact ⟨_, fun s u => .of_eq rfl, fun base kb nb => My.law_fn T kb nb⟩     -- if «.of_eq rfl» comes too early: refine' ⟨_, ?b, fun base kb nb => My.law_fn T kb nb⟩; exact fun s u => .of_eq rfl
  case S => exact fun w H a ns hl hO hS => ..
  case C => exact ..
(the tactic k_is has no namespace: write k_is) -/

/-! SHORT WORDS over the layer: a def of the text, its body, what a loop and a test want. -/
namespace L2
open PySem PySem.Spec PyProof.Rows

/-! ### the text by places -/
def defArgs (s : Stmt) : Arguments := match s with
  | .FunctionDef _ a _ _ _ _ _ _ _ _ => a
  | _ => { posonlyargs := [], args := [], vararg := none, kwonlyargs := [], kw_defaults := [], kwarg := none, defaults := [] }
def defBody (s : Stmt) : List Stmt := match s with
  | .FunctionDef _ _ b _ _ _ _ _ _ _ => b
  | _ => []
def defScope (s : Stmt) : Scope := match s with
  | .FunctionDef _ _ _ _ _ _ sc _ _ _ => sc
  | _ => { kind := .function, names := [], isGenerator := false, isCoroutine := false }

/-! ### no exception leaves a def -/
abbrev CX0 : CXT := fun _ _ _ _ _ _ => False
abbrev E0 : XK := fun _ _ _ => False
theorem pass0 {X : Cx} : Passes CX0 X E0 := fun _ _ _ _ _ _ _ h => h.elim

/-! ### a def (or method) of the text as it stands behind the top -/
structure Fun (K : PySem.W.Frag) (x qual : Str) (st : Stmt) (f : Addr) (fd : FuncData) : Prop where
  ex : ∃ (oc : Value) (od : Option Addr) (kV doc pm : Value) (an : Option Addr) (cdv ct : Value) (osl : Array (Option Value)),
    fd = PySem.W.fnOf x qual (defArgs st) (defBody st) (defScope st) .none kV doc pm an cdv ct ∧ K.lookup f = some ⟨oc, od, .func fd, osl⟩ ∧ PySem.W.codeIn K cdv qual = true
  kp : PySem.W.keepIn K (.ref f) = true
section
variable {P : Program} {w : World} {K : PySem.W.Frag} {mg : Str → Option Value} {base : Heap}
/-- THE RULE for a def: its body as a term of rules, and the reading of that term -/
theorem Fun.ok {x qual : Str} {st : Stmt} {f : Addr} {fd : FuncData} {N ps : List Str} {k : Nat} {sp : Sp} (F : Fun K x qual st f fd) (S : FnScope N ps (defScope st)) (len : ∀ vs H Q E, sp vs H Q E → vs.length = ps.length)
    (hbody : ∀ (cdv : Value) (A : Around) (outer : List Env) (s : Shared) (H : Hp) (vs : List V) (Q : VK) (E : XK), Room k (A.deeper (envOfC qual (defScope st) s.heap.objs.size f cdv)) → sp vs H Q E →
      ∃ t, PSs (cxOf CX0 P w K mg base N qual (defScope st) f cdv A outer s H E).nox (defBody st) t ∧ t { nx := fun _ H' => Q .non H', rt := Q } (start N vs) H) : FnOk P w K mg base CX0 (k + 1) f fd ps sp := by
  obtain ⟨oc, od, kV, doc, pm, an, cdv, ct, osl, rfl, lk, hcd⟩ := F.ex
  refine fn_of lk hcd S len fun A outer s H vs Q E hr hsp => ?_
  obtain ⟨t, h, q⟩ := hbody cdv A outer s H vs Q E hr hsp
  exact ⟨t, h.nox, q⟩
/-- how its arguments bind (no defaults): h is «fun _ _ _ _ _ _ us hl => match us, hl with | [_, _], _ => rfl», one _ a parameter -/
theorem Fun.binds {x qual : Str} {st : Stmt} {f : Addr} {fd : FuncData} {ps : List Str} (F : Fun K x qual st f fd)
    (h : ∀ (kV doc pm : Value) (an : Option Addr) (cdv ct : Value) (us : List Value), us.length = ps.length → bindArgs (PySem.W.fnOf x qual (defArgs st) (defBody st) (defScope st) .none kV doc pm an cdv ct) ⟨us, []⟩ = pure (ps.zip us)) : Binds K fd ps [] := by
  obtain ⟨oc, od, kV, doc, pm, an, cdv, ct, osl, rfl, lk, hcd⟩ := F.ex
  exact .all (h kV doc pm an cdv ct)
theorem fun_mk {x qual : Str} {st : Stmt} {f : Addr} {oc : Value} {od an : Option Addr} {osl : Array (Option Value)} {kV doc pm cdv ct : Value} (l : K.lookup f = some ⟨oc, od, .func (PySem.W.fnOf x qual (defArgs st) (defBody st) (defScope st) .none kV doc pm an cdv ct), osl⟩)
    (c : PySem.W.codeIn K cdv qual = true) (k : PySem.W.keepIn K (.ref f) = true) : Fun K x qual st f (PySem.W.fnOf x qual (defArgs st) (defBody st) (defScope st) .none kV doc pm an cdv ct) := ⟨⟨oc, od, kV, doc, pm, an, cdv, ct, osl, rfl, l, c⟩, k⟩
end
theorem small1000 {n : Nat} (h : n ≤ 1000) : n < sizeLine := Nat.lt_of_le_of_lt h (by decide)

/-! ### expressions in short: the name that stands in the i-th slot -/
section
variable {X : Cx}
theorem pv (i : Nat) {x : Str} {pos : Pos} (hN : X.N[i]? = some x := by rfl) (hv : Vis X.env.scope x := by first | exact Or.inl rfl | exact Or.inr (Or.inl rfl) | exact Or.inr (Or.inr rfl)) (hd : (x == ("__debug__" : Str)) = false := by decide)
    (hcd : (x == ("__classdict__" : Str)) = false := by decide) : PE X (.Name x pos) (tVar i) := pe_var hN hv hd hcd
end

/-! ### tests -/
theorem iteF {A B : Prop} (h : B) : if false = true then A else B := by
  rw [if_neg Bool.false_ne_true]
  exact h
theorem iteT {A B : Prop} (h : A) : if true = true then A else B := by
  rw [if_pos rfl]
  exact h
theorem ite2 {c A B : Prop} [Decidable c] (h1 : c → A) (h2 : ¬ c → B) : if c then A else B := by
  by_cases h : c
  · rw [if_pos h]
    exact h1 h
  · rw [if_neg h]
    exact h2 h

/-! ### heaps -/
/-- all that was tracked is as it was -/
def Same (H H' : Hp) : Prop := ∀ b o, H b = some o → H' b = some o
theorem Same.refl (H : Hp) : Same H H := fun _ _ h => h
theorem Same.trans {H H1 H2 : Hp} (a : Same H H1) (b : Same H1 H2) : Same H H2 := fun c o h => b c o (a c o h)
theorem Same.seq {K : PySem.W.Frag} {H H' : Hp} {a : Addr} {xs : List V} (e : Same H H') (h : SqL K H a xs) : SqL K H' a xs := by
  rcases h with (h | ⟨o, h⟩) | h
  · exact .inl (.inl (e _ _ h))
  · exact .inl (.inr ⟨o, e _ _ h⟩)
  · exact .inr h

/-! ### a dict's pairs: keys that differ -/
section
variable {κ : Type} [DecidableEq κ]
end
/-! ### lists -/
theorem at_of {xs : List V} {z : Int} {j : Nat} {v : V} (e : z = (j : Int)) (h : xs[j]? = some v) : atI xs z = some v := by
  rw [e]
  exact atI_nat h
end L2

set_option maxRecDepth 100000
namespace Sa
open PySem PySem.W PySem.Spec PyProof.Rows L2

theorem ints_args {P : Params} {h : Heap} : ∀ (n : Nat) {args : List WData} {vals : List Value}, WShape.hasAll [] args (List.replicate n .int) = true → WellAll P h vals args →
    ∃ ns : List Int, ns.length = n ∧ args = ns.map WData.int ∧ Vals (ns.map V.int) vals
  | 0, args, vals, hs, hw => by
    obtain rfl := hasAllW_nil hs
    cases hw
    exact ⟨[], rfl, rfl, .nil⟩
  | n + 1, args, vals, hs, hw => by
    obtain ⟨d, r, rfl, h1, h2⟩ := hasAllW_cons hs
    obtain ⟨i, rfl⟩ := hasW_int h1
    cases hw with
    | cons w1 w2 =>
      cases w1
      obtain ⟨ns, e1, e2, e3⟩ := ints_args n h2 w2
      exact ⟨i :: ns, by simp [e1], by rw [e2]; rfl, .cons ⟨_, rfl⟩ e3⟩

theorem reads_ints {R : WRecords} {cl : Str → Option Addr} {h : Heap} : ∀ (xs : List Int) {its : List Value}, Vals (xs.map V.int) its → ReadsAllW R cl h its (xs.map WData.int) []
  | [], _, .nil => .nil
  | x :: r, _, .cons ⟨t, e⟩ q => by
    subst e
    exact ReadsAllW.cons (as := []) (bs := []) (.int x t) (reads_ints r q)

theorem spec_call {P : Program} {w : World} {K : PySem.W.Frag} {mg mb : Str → Option Value} {k : Nat} {fa : Addr} {fd : FuncData} {ps : List Str} {sp : Sp} {s₁ : Shared} {us : List Value} {vs : List V} {B : List Int → Prop}
    (KX : K.In s₁.heap) (hns : s₁.heap.Ns mainGlobals mg) (hb : s₁.heap.Ns builtinsNs mb) (hbb : ∀ x : Str, x ≠ "__name__" → mb x = bootBuiltins x) (hlim : s₁.heap.NoLimit) (hg : s₁.gens = #[])
    (hr : Room k callerA) (rv : Vals vs us)
    (F : FnOk P w K mg s₁.heap CX0 k fa fd ps sp) (hbind : BindsTo s₁ fd ⟨us, []⟩ (ps.zip us))
    (hsp : sp vs (fun _ => none) (fun v H' => ∃ (a : Addr) (xs : List Int), v = .ref a ∧ H' a = some (.lst (xs.map V.int)) ∧ B xs) E0) :
    codeAny (model P w) callerA (.call (.ref fa) ⟨us, []⟩) (fun r s' => (∃ (a : Addr) (xs : List Int) (its : List Value) (n : Nat), r = .ok (.ret (.ref a)) ∧ s'.heap.get? a = some { cls := .type "list", data := .seq its.toArray n } ∧ Vals (xs.map V.int) its ∧ B xs) ∧ OldK s₁.heap s'.heap ∧ s'.os = s₁.os ∧ AllBare s'.gens) s₁ := by
  have hM : Mod K mg s₁.heap := ⟨KX, hns, ⟨mb, hb, hbb⟩, hlim⟩
  have e0 : Env0 P w K mg s₁.heap callerA [] s₁ (fun _ => none) := ⟨rfl, hM, fun b o e => ⟨e, rfl⟩, Nat.le_refl _, trivial, fun b hb => absurd (show b ∈ ([] : List Addr) from hb) (by simp), fun b u z => (by have z' : (none : Option HO) = some u := z; cases z'), .of_eq hg⟩
  refine codeAny_mono (F.run callerA [] s₁ (fun _ => none) ⟨us, []⟩ us vs _ _ hr e0 hbind rv hsp) fun r s' h => ?_
  cases r with
  | error e => exact False.elim h
  | ok fl =>
    cases fl with
    | next => exact False.elim h
    | brk => exact False.elim h
    | cont => exact False.elim h
    | ret u =>
      obtain ⟨v, H', os, bare, un, hok', r', a, xs, ev, ea, eb⟩ := h
      subst ev
      obtain rfl : u = Value.ref a := r'
      obtain ⟨_, its, n, r1, e1⟩ := hok' a _ ea
      refine ⟨⟨a, xs, its, n, rfl, e1, r1, eb⟩, OldK.of_keep fun b o e => ?_, os, bare⟩
      exact un.keep b o e rfl (by intro z; exact absurd (show b ∈ ([] : List Addr) from z) (by simp)) (by simp)

theorem walk_ints {r : OpenSpec} {n k : Nat} {q : Program} {loose : List Str} {XP : (Str → Option Value) → Heap → Prop} {YP : World → Heap → Prop} {d : DefRec} {K : Params → PySem.W.Frag} {ps : List Str} {sp : Sp}
    (hargs : r.args.map Codec.shape = List.replicate n .int) (hps : ps.length = n) (hdf : d.params.defaults = []) (hr : Room k callerA)
    (hY : ∀ (w : World) (h : Heap), YP w h → (K w.params).In h)
    (F : ∀ (w : World) (mg : Str → Option Value) (fa : Addr) (h : Heap), (K w.params).In h → h.Ns mainGlobals mg → mg d.name = some (.ref fa) →
      ∃ fd : FuncData, Binds (K w.params) fd ps [] ∧
        ∀ base : Heap, (K w.params).In base → base.Ns mainGlobals mg → FnOk r.prog w (K w.params) mg base CX0 k fa fd ps sp)
    (hsp : ∀ ns : List Int, ns.length = n → r.pre (ns.map .int) = true → ∀ H : Hp, sp (ns.map V.int) H (fun v H' => ∃ (a : Addr) (xs : List Int), v = .ref a ∧ H' a = some (.lst (xs.map V.int)) ∧ r.post (ns.map .int) (.list (xs.map .int)) = true) E0) :
    WalkOS q loose XP YP r d [] (fun f vs => PySem.call f vs) := by
  intro w s₀ s₁ mg mb G Y fa o pm cd doc dV kV ho hd hcd hD hmg hg args vals as hpre hlay hrd hwl hlo
  have hsh := os_shapes _ hpre
  rw [hargs] at hsh
  obtain ⟨ns, e1, rfl, rv⟩ := ints_args n hsh hwl
  have KX := hY w _ Y
  obtain ⟨fd, hbd, hF⟩ := F w mg fa _ KX G.T.g hmg
  have hl : vals.length = ps.length := by
    have := rv.length
    rw [List.length_map, e1] at this
    rw [hps, this]
  have hb := hbd s₁ vals KX (by rw [List.append_nil]; exact hl)
  rw [List.append_nil] at hb
  refine enter_call (codeAny_mono (spec_call (B := fun xs => r.post (ns.map .int) (.list (xs.map .int)) = true) KX G.T.g G.T.b G.T.builtins G.T.nolimit hg hr rv (hF _ KX G.T.g) hb (hsp ns e1 hpre _)) fun r' s' hq => ?_)
  obtain ⟨⟨a, xs, its, m, rfl, h1, h2, h3⟩, h4, h5, h6⟩ := hq
  exact ⟨.inl ⟨.ref a, .list (xs.map .int), [a], rfl, fun _ => rfl, .list h1 rfl rfl (by simpa using reads_ints xs h2), h3, fun h => absurd h Bool.false_ne_true⟩, h4, h5, h6⟩

/-- a request's parts -/
theorem dec_cons {c : Codec} {cs : List Codec} {d : WData} {ds : List WData} (h : (Codec.decAll (c :: cs) (d :: ds)).isSome = true) : (c.dec d).isSome = true ∧ (Codec.decAll cs ds).isSome = true := by
  have e : Codec.decAll (c :: cs) (d :: ds) = Codec.both Prod.mk (c.dec d) (Codec.decAll cs ds) := rfl
  rw [e] at h
  cases h1 : c.dec d with
  | none => rw [h1] at h; cases h
  | some a =>
    cases h2 : Codec.decAll cs ds with
    | none => rw [h1, h2] at h; cases h
    | some r => exact ⟨rfl, rfl⟩
theorem dec_put {c : Codec} {cs : List Codec} {d : WData} {ds : List WData} {a : c.denote} {r : Codec.denoteAll cs} (h1 : c.dec d = some a) (h2 : Codec.decAll cs ds = some r) : Codec.decAll (c :: cs) (d :: ds) = some (a, r) := by
  have e : Codec.decAll (c :: cs) (d :: ds) = Codec.both Prod.mk (c.dec d) (Codec.decAll cs ds) := rfl
  rw [e, h1, h2]
  rfl
theorem dec_int {lo hi k : Int} (h : ((Codec.int lo hi).dec (WData.int k)).isSome = true) : (Codec.int lo hi).dec (WData.int k) = some k ∧ lo ≤ k ∧ k ≤ hi := by
  have e : (Codec.int lo hi).dec (WData.int k) = if Codec.inInt lo hi k = true then some k else none := rfl
  rw [e] at h ⊢
  by_cases g : Codec.inInt lo hi k = true
  · rw [if_pos g]
    unfold Codec.inInt at g
    simp only [Bool.and_eq_true, decide_eq_true_eq] at g
    exact ⟨rfl, g⟩
  · rw [if_neg g] at h
    cases h
theorem same_ints {l k : List Int} (h : l = k) : same (WData.list (l.map WData.int)) (WData.list (k.map WData.int)) = true := by
  subst h
  exact same_self _
end Sa

set_option maxRecDepth 100000
namespace Rd
open PySem PySem.W PyProof.Rows L2

/-- what a def promises: an int; an int, lists made by the way; a bool; a new list -/
def spI1 (pre : Int → Prop) (F : Int → Int) : Sp := fun vs H Q _ => ∃ a, vs = [V.int a] ∧ pre a ∧ Q (.int (F a)) H
def spI2 (pre : Int → Int → Prop) (F : Int → Int → Int) : Sp := fun vs H Q _ => ∃ a b, vs = [V.int a, V.int b] ∧ pre a b ∧ Q (.int (F a b)) H
def spI3 (pre : Int → Int → Int → Prop) (F : Int → Int → Int → Int) : Sp := fun vs H Q _ => ∃ a b c, vs = [V.int a, V.int b, V.int c] ∧ pre a b c ∧ Q (.int (F a b c)) H
def spI4 (pre : Int → Int → Int → Int → Prop) (F : Int → Int → Int → Int → Int) : Sp := fun vs H Q _ => ∃ a b c d, vs = [V.int a, V.int b, V.int c, V.int d] ∧ pre a b c d ∧ Q (.int (F a b c d)) H
def spB1 (pre : Int → Prop) (F : Int → Bool) : Sp := fun vs H Q _ => ∃ a, vs = [V.int a] ∧ pre a ∧ Q (.bl (F a)) H
def spB2 (pre : Int → Int → Prop) (F : Int → Int → Bool) : Sp := fun vs H Q _ => ∃ a b, vs = [V.int a, V.int b] ∧ pre a b ∧ Q (.bl (F a b)) H
def spJ1 (pre : Int → Prop) (F : Int → Int) : Sp := fun vs H Q _ => ∃ a, vs = [V.int a] ∧ pre a ∧ ∀ H', Same H H' → Q (.int (F a)) H'
def spJ2 (pre : Int → Int → Prop) (F : Int → Int → Int) : Sp := fun vs H Q _ => ∃ a b, vs = [V.int a, V.int b] ∧ pre a b ∧ ∀ H', Same H H' → Q (.int (F a b)) H'
def spJ3 (pre : Int → Int → Int → Prop) (F : Int → Int → Int → Int) : Sp := fun vs H Q _ => ∃ a b c, vs = [V.int a, V.int b, V.int c] ∧ pre a b c ∧ ∀ H', Same H H' → Q (.int (F a b c)) H'
def spJ4 (pre : Int → Int → Int → Int → Prop) (F : Int → Int → Int → Int → Int) : Sp := fun vs H Q _ => ∃ a b c d, vs = [V.int a, V.int b, V.int c, V.int d] ∧ pre a b c d ∧ ∀ H', Same H H' → Q (.int (F a b c d)) H'
def New (H : Hp) (Q : VK) (xs : List Int) : Prop := ∀ r H', Same H H' → H' r = some (.lst (xs.map V.int)) → Q (.ref r) H'
def spL1 (pre : Int → Prop) (F : Int → List Int) : Sp := fun vs H Q _ => ∃ a, vs = [V.int a] ∧ pre a ∧ New H Q (F a)
def spL2 (pre : Int → Int → Prop) (F : Int → Int → List Int) : Sp := fun vs H Q _ => ∃ a b, vs = [V.int a, V.int b] ∧ pre a b ∧ New H Q (F a b)
def spL3 (pre : Int → Int → Int → Prop) (F : Int → Int → Int → List Int) : Sp := fun vs H Q _ => ∃ a b c, vs = [V.int a, V.int b, V.int c] ∧ pre a b c ∧ New H Q (F a b c)
def spL4 (pre : Int → Int → Int → Int → Prop) (F : Int → Int → Int → Int → List Int) : Sp := fun vs H Q _ => ∃ a b c d, vs = [V.int a, V.int b, V.int c, V.int d] ∧ pre a b c d ∧ New H Q (F a b c d)
def spL5 (pre : Int → Int → Int → Int → Int → Prop) (F : Int → Int → Int → Int → Int → List Int) : Sp := fun vs H Q _ => ∃ a b c d e, vs = [V.int a, V.int b, V.int c, V.int d, V.int e] ∧ pre a b c d e ∧ New H Q (F a b c d e)

theorem finI {Q : VK} {H : Hp} {a b : Int} (q : Q (.int a) H) (e : b = a) : Q (.int b) H := e ▸ q
theorem finB {Q : VK} {H : Hp} {a b : Bool} (q : Q (.bl a) H) (e : b = a) : Q (.bl b) H := e ▸ q
theorem finJ {Q : VK} {H H' : Hp} {a b : Int} (q : ∀ H', Same H H' → Q (.int a) H') (g : Same H H') (e : b = a) : Q (.int b) H' := e ▸ q H' g
theorem finL {Q : VK} {H H' : Hp} {xs ys : List Int} {r : Addr} (q : New H Q ys) (g : Same H H') (l : H' r = some (.lst (xs.map V.int))) (e : xs = ys) : Q (.ref r) H' := by
  subst e
  exact q r H' g l

/-- a def of the text; what it is worth -/
def Dfn (K : PySem.W.Frag) (mg : Str → Option Value) (x : Str) (st : Stmt) : Prop := ∃ f fd, Fun K x x st f fd ∧ mg x = some (.ref f)
def Ok (P : Program) (w : World) (K : PySem.W.Frag) (mg : Str → Option Value) (base : Heap) (k : Nat) (x : Str) (ps : List Str) (sp : Sp) : Prop :=
  ∃ f fd, FnOk P w K mg base CX0 k f fd ps sp ∧ Binds K fd ps [] ∧ PySem.W.keepIn K (.ref f) = true ∧ mg x = some (.ref f) ∧ ∃ (oc : Value) (od : Option Addr) (sl : Array (Option Value)), K.lookup f = some ⟨oc, od, .func fd, sl⟩
theorem fun_at {K : PySem.W.Frag} {x qual : Str} {st : Stmt} {f : Addr} {fd : FuncData} (F : Fun K x qual st f fd) : ∃ (oc : Value) (od : Option Addr) (sl : Array (Option Value)), K.lookup f = some ⟨oc, od, .func fd, sl⟩ := by
  obtain ⟨oc, od, kV, doc, pm, an, cdv, ct, osl, rfl, lk, hcd⟩ := F.ex
  exact ⟨_, _, _, lk⟩
theorem fixed {P : Program} {w : World} {K : PySem.W.Frag} {mg : Str → Option Value} {k : Nat} {x : Str} {ps : List Str} {sp : Sp} {fa : Addr} (h : Heap) (hfa : mg x = some (.ref fa)) (main : ∀ base : Heap, Ok P w K mg base k x ps sp) :
    ∃ fd : FuncData, Binds K fd ps [] ∧ ∀ base : Heap, K.In base → base.Ns mainGlobals mg → FnOk P w K mg base CX0 k fa fd ps sp := by
  obtain ⟨f, fd, _, b, _, m, oc, od, sl, lk⟩ := main h
  rw [hfa] at m
  cases m
  refine ⟨fd, b, fun base _ _ => ?_⟩
  obtain ⟨f', fd', F, _, _, m', oc', od', sl', lk'⟩ := main base
  rw [hfa] at m'
  cases m'
  rw [lk] at lk'
  cases lk'
  exact F

theorem boot_sum : bootBuiltins "sum" = some (.builtin "sum") := by decide +kernel
theorem boot_abs : bootBuiltins "abs" = some (.builtin "abs") := by decide +kernel
theorem boot_ord : bootBuiltins "ord" = some (.builtin "ord") := by decide +kernel
theorem boot_str : bootBuiltins "str" = some (.type "str") := by decide +kernel
theorem boot_min : bootBuiltins "min" = some (.builtin "min") := by decide +kernel
theorem boot_max : bootBuiltins "max" = some (.builtin "max") := by decide +kernel
/-- heaps -/
theorem same_upd {H H1 : Hp} {p : Addr} {o : HO} (g : Same H H1) (h : H1 p = none) : Same H (upd H1 p o) := fun b u e => by
  rw [upd_ne (ne_of_none (g b u e) h)]
  exact g b u e
theorem keep_upd {H : Hp} {p b : Addr} {o u : HO} (e : H b = some u) (h : H p = none) : upd H p o b = some u := by
  rw [upd_ne (ne_of_none e h)]
  exact e
theorem same_at {H H1 : Hp} {b : Addr} {u : HO} (g : Same H H1) (e : H b = some u) : H1 b = some u := g b u e

/-- lists -/
theorem small {n : Nat} (h : n ≤ 1000) : n ≤ sizeLine := Nat.le_of_lt (small1000 h)
theorem rep_map (n : Nat) (xs : List Int) : (List.replicate n (xs.map V.int)).flatten = ((List.replicate n xs).flatten).map V.int := by
  induction n with
  | zero => rfl
  | succ n ih => rw [List.replicate_succ, List.flatten_cons, ih, List.replicate_succ, List.flatten_cons, List.map_append]
theorem cut_hi {ns : List Int} {h : Int} (h0 : 0 ≤ h) : cutV (ns.map V.int) none (some h) = (ns.take h.toNat).map V.int := by
  obtain ⟨k, rfl⟩ : ∃ k : Nat, h = (k : Int) := ⟨h.toNat, by omega⟩
  unfold cutV
  rw [HT.sIx_none, HT.sIx_nat, List.drop_zero, Nat.sub_zero, List.length_map, Int.toNat_natCast, List.map_take]
  by_cases z : k ≤ ns.length
  · rw [Nat.min_eq_left z]
  · rw [Nat.min_eq_right (by omega), List.take_of_length_le (by simp), List.take_of_length_le (by simp; omega)]
theorem cut_lo {ns : List Int} {l : Int} (h0 : 0 ≤ l) : cutV (ns.map V.int) (some l) none = (ns.drop l.toNat).map V.int := by
  obtain ⟨k, rfl⟩ : ∃ k : Nat, l = (k : Int) := ⟨l.toNat, by omega⟩
  unfold cutV
  rw [HT.sIx_none, HT.sIx_nat, List.length_map, Int.toNat_natCast, List.map_drop]
  by_cases z : k ≤ ns.length
  · rw [Nat.min_eq_left z, List.take_of_length_le (by simp)]
  · rw [Nat.min_eq_right (by omega), List.drop_eq_nil_of_le (by simp), List.drop_eq_nil_of_le (by simp; omega), List.take_nil]
theorem cut_mid {ns : List Int} {l h : Int} (h0 : 0 ≤ l) (h1 : 0 ≤ h) : cutV (ns.map V.int) (some l) (some h) = ((ns.take h.toNat).drop l.toNat).map V.int := by
  obtain ⟨k, rfl⟩ : ∃ k : Nat, l = (k : Int) := ⟨l.toNat, by omega⟩
  obtain ⟨j, rfl⟩ : ∃ j : Nat, h = (j : Int) := ⟨h.toNat, by omega⟩
  unfold cutV
  rw [HT.sIx_nat, HT.sIx_nat, List.length_map, Int.toNat_natCast, Int.toNat_natCast, List.map_drop, List.map_take, List.drop_take]
  by_cases z : k ≤ ns.length
  · rw [Nat.min_eq_left z]
    by_cases y : j ≤ ns.length
    · rw [Nat.min_eq_left y]
    · rw [Nat.min_eq_right (by omega), List.take_of_length_le (by simp), List.take_of_length_le (by simp; omega)]
  · rw [Nat.min_eq_right (show ns.length ≤ k by omega), List.drop_eq_nil_of_le (by simp), List.drop_eq_nil_of_le (by simp; omega), List.take_nil, List.take_nil]
theorem sIx_neg (n d : Nat) {k : Int} (h : 0 < k) : HT.sIx n d (some (-k)) = n - k.toNat := by
  show (if -k < 0 then (-k + (n : Int)).toNat else min (-k).toNat n) = _
  rw [if_pos (by omega)]
  omega
theorem cut_lo_neg {ns : List Int} {k : Int} (h : 0 < k) : cutV (ns.map V.int) (some (-k)) none = (ns.drop (ns.length - k.toNat)).map V.int := by
  unfold cutV
  rw [HT.sIx_none, sIx_neg _ _ h, List.length_map, List.map_drop]
  rw [List.take_of_length_le (by simp)]
theorem cut_hi_neg {ns : List Int} {k : Int} (h : 0 < k) : cutV (ns.map V.int) none (some (-k)) = (ns.take (ns.length - k.toNat)).map V.int := by
  unfold cutV
  rw [HT.sIx_none, sIx_neg _ _ h, List.length_map, List.drop_zero, Nat.sub_zero, List.map_take]
theorem at_get {ns : List Int} {i : Int} (h0 : 0 ≤ i) (h1 : i < ns.length) : atI (ns.map V.int) i = some (V.int (ns.getD i.toNat 0)) := by
  have hk : i.toNat < ns.length := by omega
  refine at_of (j := i.toNat) (by omega) ?_
  rw [List.getElem?_map, List.getElem?_eq_getElem hk, List.getD_eq_getElem?_getD, List.getElem?_eq_getElem hk]
  rfl
theorem item {ns : List Int} {i : Nat} {x : V} (h : (ns.map V.int)[i]? = some x) : ∃ v, x = .int v ∧ ns[i]? = some v := by
  rw [List.getElem?_map] at h
  cases e : ns[i]? with
  | none => rw [e] at h; cases h
  | some v => rw [e] at h; cases h; exact ⟨v, rfl, rfl⟩
theorem itemS {ns : List Str} {i : Nat} {x : V} (h : (ns.map V.str)[i]? = some x) : ∃ v, x = .str v ∧ ns[i]? = some v := by
  rw [List.getElem?_map] at h
  cases e : ns[i]? with
  | none => rw [e] at h; cases h
  | some v => rw [e] at h; cases h; exact ⟨v, rfl, rfl⟩
/-- a table of the top: a tuple of tuples of ints -/
inductive Rows (K : PySem.W.Frag) : List Addr → List (List Int) → Prop
  | nil : Rows K [] []
  | cons {u : Addr} {us : List Addr} {row : List Int} {rows : List (List Int)} : (∃ (o : Obj) (its : Array Value) (n : Nat), K.lookup u = some o ∧ o.cls = .type "tuple" ∧ o.data = .seq its n ∧ its.size ≤ sizeLine ∧ Vals (row.map V.int) its.toList) → Rows K us rows → Rows K (u :: us) (row :: rows)
theorem Rows.get {K : PySem.W.Frag} : ∀ {us : List Addr} {rows : List (List Int)}, Rows K us rows → ∀ (i : Nat) (row : List Int), rows[i]? = some row → ∃ u, us[i]? = some u ∧ ∀ H : Hp, SqT K H u (row.map V.int)
  | _, _, .nil, i, row, h => by simp at h
  | _, _, .cons a r, 0, row, h => by
    simp at h
    subst h
    exact ⟨_, rfl, fun H => .inr a⟩
  | _, _, .cons a r, i + 1, row, h => by
    obtain ⟨u, h1, h2⟩ := r.get i row (by simpa using h)
    exact ⟨u, by simpa using h1, h2⟩
def TupsAt (K : PySem.W.Frag) (mg : Str → Option Value) (x : Str) (rows : List (List Int)) : Prop :=
  ∃ (a : Addr) (us : List Addr), mg x = some (.ref a) ∧ ((∀ H : Hp, SqT K H a (us.map V.ref)) ∧ ∀ (i : Nat) (row : List Int), rows[i]? = some row → ∃ u, us[i]? = some u ∧ ∀ H : Hp, SqT K H u (row.map V.int))
theorem refs_vals : ∀ us : List Addr, Vals (us.map V.ref) (us.map Value.ref)
  | [] => .nil
  | u :: r => .cons rfl (refs_vals r)
theorem tups_at {K : PySem.W.Frag} {mg : Str → Option Value} {x : Str} {rows : List (List Int)} {a : Addr} {us : List Addr} {its : Array Value} {od : Option Addr} {n : Nat} {sl : Array (Option Value)} (hm : mg x = some (.ref a)) (hl : K.lookup a = some ⟨.type "tuple", od, .seq its n, sl⟩)
    (hz : its.size ≤ sizeLine) (hr : Rows K us rows) (hi : its.toList = us.map Value.ref := by rfl) : TupsAt K mg x rows :=
  ⟨a, us, hm, fun H => .inr ⟨_, its, n, hl, rfl, rfl, hz, by rw [hi]; exact refs_vals us⟩, hr.get⟩
theorem row_at {K : PySem.W.Frag} {a : Addr} {us : List Addr} {rows : List (List Int)} (h : (∀ H : Hp, SqT K H a (us.map V.ref)) ∧ ∀ (i : Nat) (row : List Int), rows[i]? = some row → ∃ u, us[i]? = some u ∧ ∀ H : Hp, SqT K H u (row.map V.int)) {i : Nat} {row : List Int} (e : rows[i]? = some row) :
    ∃ u, us[i]? = some u ∧ ∀ H : Hp, SqT K H u (row.map V.int) := h.2 i row e
theorem at_row {us : List Addr} {u : Addr} {k : Int} (e : us[k.toNat]? = some u) (h : 0 ≤ k) : atI (us.map V.ref) k = some (V.ref u) := by
  refine at_of (j := k.toNat) (by omega) ?_
  rw [List.getElem?_map, e]
  rfl
/-- an int or None -/
def ov : Option Int → V
  | none => .non
  | some i => .int i
theorem ov_none : ov none = .non := rfl
theorem ov_some (i : Int) : ov (some i) = .int i := rfl
theorem finC {Q : VK} {H H' : Hp} {a b : Bool} (q : ∀ H', Same H H' → Q (.bl a) H') (g : Same H H') (e : b = a) : Q (.bl b) H' := e ▸ q H' g
theorem finS {Q : VK} {H H' : Hp} {a b : Str} (q : ∀ H', Same H H' → Q (.str a) H') (g : Same H H') (e : b = a) : Q (.str b) H' := e ▸ q H' g
theorem finNo {Q : VK} {H H' : Hp} {o : Option Int} (q : ∀ H', Same H H' → Q (ov o) H') (g : Same H H') (e : none = o) : Q .non H' := by
  subst e
  exact q H' g
theorem finSo {Q : VK} {H H' : Hp} {o : Option Int} {b : Int} (q : ∀ H', Same H H' → Q (ov o) H') (g : Same H H') (e : some b = o) : Q (.int b) H' := by
  subst e
  exact q H' g
theorem ifT {b : Bool} {A B : Prop} (h : b = true) (x : A) : if b = true then A else B := by
  rw [if_pos h]
  exact x
theorem ifF {b : Bool} {A B : Prop} (h : b = false) (x : B) : if b = true then A else B := by
  rw [h]
  exact x
theorem iteD {p : Prop} [Decidable p] {A B : Prop} (h1 : p → A) (h2 : ¬ p → B) : if decide p = true then A else B := by
  by_cases h : p
  · rw [if_pos (decide_eq_true h)]
    exact h1 h
  · rw [if_neg (fun g => h (of_decide_eq_true g))]
    exact h2 h
theorem iteE {a b : Int} {A B : Prop} (h1 : a = b → A) (h2 : ¬ a = b → B) : if decide (V.int a = V.int b) = true then A else B := iteD (fun h => h1 (V.int.inj h)) (fun h => h2 (fun e => h (e ▸ rfl)))
theorem iteS {a b : Str} {A B : Prop} (h1 : a = b → A) (h2 : ¬ a = b → B) : if decide (V.str a = V.str b) = true then A else B := iteD (fun h => h1 (V.str.inj h)) (fun h => h2 (fun e => h (e ▸ rfl)))
theorem iteNot {b : Bool} {A B : Prop} (h1 : ¬ b = true → A) (h2 : b = true → B) : if (!b) = true then A else B := by
  cases b
  · exact h1 Bool.false_ne_true
  · exact h2 rfl
theorem iteNE {a b : Int} {A B : Prop} (h1 : ¬ a = b → A) (h2 : a = b → B) : if (!decide (V.int a = V.int b)) = true then A else B := iteNot (fun h => h1 (fun e => h (decide_eq_true (e ▸ rfl)))) (fun h => h2 (V.int.inj (of_decide_eq_true h)))
theorem iteNS {a b : Str} {A B : Prop} (h1 : ¬ a = b → A) (h2 : a = b → B) : if (!decide (V.str a = V.str b)) = true then A else B := iteNot (fun h => h1 (fun e => h (decide_eq_true (e ▸ rfl)))) (fun h => h2 (V.str.inj (of_decide_eq_true h)))
theorem sq_upd {K : PySem.W.Frag} {H : Hp} {p a : Addr} {o : HO} {xs : List V} (s : SqL K H a xs) (h : H p = none) : SqL K (upd H p o) a xs := Same.seq (same_upd (Same.refl H) h) s
/-- lists of ints, alike -/
theorem dp_ints {K : PySem.W.Frag} {H : Hp} : ∀ xs : List Int, DpAll K H (xs.map V.int) (xs.map PyData.int)
  | [] => .nil
  | x :: xs => .cons (.int x) (dp_ints xs)
theorem canAll (xs : List Int) : PyData.canLayAll0 (xs.map .int) = true := by
  induction xs with
  | nil => rfl
  | cons x xs ih => rw [List.map_cons]; simp only [PyData.canLayAll0, PyData.canLay0, ih, Bool.and_self]
theorem depth_ints (xs : List Int) : PyData.depthAll (xs.map .int) ≤ 1 := by
  induction xs with
  | nil => simp [PyData.depthAll]
  | cons x xs ih => rw [List.map_cons]; simp only [PyData.depthAll, PyData.depth]; omega
theorem shaped_ints (xs : List Int) : SeqAt.shaped (.list (xs.map .int)) = true := by
  unfold SeqAt.shaped
  rw [Bool.and_eq_true_iff]
  refine ⟨?_, decide_eq_true ?_⟩
  · simp only [PyData.canLay0]
    exact canAll xs
  · have := depth_ints xs
    simp only [PyData.depth]
    omega
theorem eqvAll_ints : ∀ xs ys : List Int, PyData.eqvAll (xs.map .int) (ys.map .int) = decide (xs = ys)
  | [], [] => by simp [PyData.eqvAll]
  | [], _ :: _ => by simp [PyData.eqvAll]
  | _ :: _, [] => by simp [PyData.eqvAll]
  | x :: xs, y :: ys => by
    rw [List.map_cons, List.map_cons]
    simp only [PyData.eqvAll, PyData.eqv, eqvAll_ints xs ys, List.cons.injEq]
    rw [Bool.eq_iff_iff]
    simp
theorem op_eqL {X : Cx} (hu : X.A.units + 64 < cLine) : OpR X (compareOp .Eq) (fun x y H Q => ∃ a b, ∃ xs ys : List Int, x = .ref a ∧ y = .ref b ∧ SqL X.K H a (xs.map V.int) ∧ SqL X.K H b (ys.map V.int) ∧ Q (.bl (decide (xs = ys))) H) := by
  intro pins s σ H x y v u Q I rx ry h
  obtain ⟨a, b, xs, ys, rfl, rfl, sa, sb, q⟩ := h
  refine op_eqD hu pins s σ H (.ref a) (.ref b) v u Q I rx ry ⟨.list (xs.map .int), .list (ys.map .int), .lst sa (dp_ints xs), .lst sb (dp_ints ys), shaped_ints xs, shaped_ints ys, ?_⟩
  have e : PyData.eqv (.list (xs.map .int)) (.list (ys.map .int)) = decide (xs = ys) := by
    simp only [PyData.eqv]
    exact eqvAll_ints xs ys
  rw [e]
  exact q
end Rd

namespace Zl
open PySem
open Sem (wp)
open AutoSeq1 (wpAny_loadPart')
set_option maxRecDepth 100000
section
variable {prog : Program} {w : World} {A : Around} {E : Value → Shared → Prop} {s : Shared}
/-- the signs of a text, one after another -/
theorem strD (hh : A.handled = none) (it : Addr) (x : Str) (t : Tok) : Draws prog w A it [it] x.cps.size (fun i v => ∃ c u, x.cps[i]? = some c ∧ v = .str ⟨#[c]⟩ u) (fun i h => h.IsStrIter it (strIterType x) x t i) := by
  unfold strIterType
  cases ha : x.cps.all (· < 128)
  · exact Draws.strWide hh it x t
  · exact Draws.strAscii hh it x t
/-- what the two iterators of a zip keep apart -/
structure Apart (zz ti ut j1 j2 : Addr) (f1 f2 : List Addr) : Prop where
  tz : ti ≠ zz
  uz : ut ≠ zz
  z1 : zz ∉ f1
  z2 : zz ∉ f2
  u1 : ut ∉ f1
  u2 : ut ∉ f2
  m1 : j1 ∈ f1
  m2 : j2 ∈ f2
  a1 : j2 ∉ f1
  a2 : j1 ∉ f2
theorem Apart.j1z {zz ti ut j1 j2 : Addr} {f1 f2 : List Addr} (D : Apart zz ti ut j1 j2 f1 f2) : j1 ≠ zz := fun e => D.z1 (e ▸ D.m1)
theorem Apart.j2z {zz ti ut j1 j2 : Addr} {f1 f2 : List Addr} (D : Apart zz ti ut j1 j2 f1 f2) : j2 ≠ zz := fun e => D.z2 (e ▸ D.m2)
theorem Apart.uj1 {zz ti ut j1 j2 : Addr} {f1 f2 : List Addr} (D : Apart zz ti ut j1 j2 f1 f2) : ut ≠ j1 := fun e => D.u1 (e ▸ D.m1)
theorem Apart.uj2 {zz ti ut j1 j2 : Addr} {f1 f2 : List Addr} (D : Apart zz ti ut j1 j2 f1 f2) : ut ≠ j2 := fun e => D.u2 (e ▸ D.m2)
theorem frm {it' : Addr} {f : List Addr} {n : Nat} {Pv : Nat → Value → Prop} {Sv : Nat → Heap → Prop} {it : Addr} (D : Draws prog w A it f n Pv Sv) {k : Nat} {g g' : Heap} (st : Sv k g) (sb : Heap.SameBut it' g g') (nf : it' ∉ f) : Sv k g' :=
  D.frame k g g' st fun b hb o e => (sb.2 b fun q => nf (q ▸ hb)).trans e
theorem zip_item {zz ti ut j1 j2 : Addr} {f1 f2 : List Addr} {n1 n2 k : Nat} {P1 P2 : Nat → Value → Prop} {S1 S2 : Nat → Heap → Prop} {oa ob : Value} {Q : Value → Shared → Prop}
    (D1 : Draws prog w A j1 f1 n1 P1 S1) (D2 : Draws prog w A j2 f2 n2 P2 S2) (D : Apart zz ti ut j1 j2 f1 f2)
    (hz : IsZip s.heap zz ti ut .none) (hti : IsPair s.heap ti (.ref j1) (.ref j2)) (hut : IsPair s.heap ut oa ob) (st1 : S1 k s.heap) (st2 : S2 k s.heap) (l1 : k < n1) (l2 : k < n2)
    (hQ : ∀ x y h' tk, P1 k x → P2 k y → IsZip h' zz ti ut (rawInt s.heap.objs.size) → IsPair h' ut x y → S1 (k + 1) h' → S2 (k + 1) h' → IsPair h' s.heap.objs.size x y → h'.objs.size = s.heap.objs.size + 1 →
      (∀ c o, c ≠ zz → c ≠ ut → c ≠ j1 → c ≠ j2 → s.heap.get? c = some o → h'.get? c = some o) → Q (.ref s.heap.objs.size) { s with heap := h', toks := tk }) :
    wpAny (model prog w) A (Builtin.«zip.__next__» ⟨[.ref zz], []⟩) (fun fin s' => ∃ v, fin = .done (.ret v) ∧ Q v s') E s := by
  show wpAny _ _ (field (.ref zz) 2 >>= _) _ _ _
  refine wpAny_bind (wpAny_field hz rfl (x := Value.bool false) rfl ?_)
  show wpAny _ _ (field (.ref zz) 3 >>= _) _ _ _
  refine wpAny_bind (wpAny_field hz rfl (x := .ref ti) rfl ?_)
  refine wpAny_bind (wpAny_seqItems hti rfl ?_)
  show wpAny _ _ (Builtin.SmallTypes.ownedTupleIsFree (.ref zz) >>= _) _ _ _
  refine wpAny_bind ?_
  unfold Builtin.SmallTypes.ownedTupleIsFree
  refine wpAny_bind (wpAny_field hz rfl (x := Value.none) rfl (wpAny_pure ?_))
  simp only [if_true]
  refine wpAny_bind (wpAny_rule ?_)
  refine wpAny_bind (wpAny_field hz rfl (x := .ref ut) rfl ?_)
  refine wpAny_bind (wpAny_setField_rec hz (by simp) fun ha hza hsa => ?_)
  replace hza : IsZip ha zz ti ut .ellipsis := hza
  refine wpAny_bind ?_
  simp only [List.zipIdx_cons, List.zipIdx_nil, List.forIn_nil, List.forIn_cons]
  refine wpAny_bind (wpAny_bind (wpAny_onRaise ?_))
  show wpAny _ _ (Builtin.SmallTypes.nextOf (.ref j1) >>= _) _ _ _
  have hsa' : Heap.SameBut zz s.heap ha := hsa
  refine wpAny_bind (D1.item k _ _ _ l1 (frm D1 st1 hsa' D.z1) fun x hb tkb px s1b hsb => wpAny_pure ?_)
  replace hsb : Heap.SameBut j1 ha hb := hsb
  have hutb : IsPair hb ut oa ob := hsb.extBut _ _ D.uj1 (hsa'.extBut _ _ D.uz hut)
  refine wpAny_bind (wpAny_seqItems hutb rfl ?_)
  refine wpAny_bind (wpAny_updateSeq_pair hutb fun hc hutc hsc => ?_)
  replace hutc : IsPair hc ut x ob := hutc
  replace hsc : Heap.SameBut ut hb hc := hsc
  refine wpAny_bind (wpAny_letGo (wpAny_pure ?_))
  refine wpAny_bind (wpAny_bind (wpAny_onRaise ?_))
  show wpAny _ _ (Builtin.SmallTypes.nextOf (.ref j2) >>= _) _ _ _
  refine wpAny_bind (D2.item k _ _ _ l2 (frm D2 (frm D2 (frm D2 st2 hsa' D.z2) hsb D.a2) hsc D.u2) fun y hd tkd py s2d hsd => wpAny_pure ?_)
  replace hsd : Heap.SameBut j2 hc hd := hsd
  have hutd : IsPair hd ut x ob := hsd.extBut _ _ D.uj2 hutc
  refine wpAny_bind (wpAny_seqItems hutd rfl ?_)
  refine wpAny_bind (wpAny_updateSeq_pair hutd fun he hute hse => ?_)
  replace hute : IsPair he ut x y := hute
  replace hse : Heap.SameBut ut hd he := hse
  refine wpAny_bind (wpAny_letGo (wpAny_pure (wpAny_pure ?_)))
  refine wpAny_bind (wpAny_seqItems hute rfl ?_)
  refine wpAny_bind (wpAny_newTuple ?_)
  have hsz : he.objs.size = s.heap.objs.size := by rw [hse.1, hsd.1, hsc.1, hsb.1, hsa'.1]
  have hze : IsZip he zz ti ut .ellipsis := hse.extBut _ _ D.uz.symm (hsd.extBut _ _ D.j2z.symm (hsc.extBut _ _ D.uz.symm (hsb.extBut _ _ D.j1z.symm hza)))
  have hke : ∀ c o, c ≠ zz → c ≠ ut → c ≠ j1 → c ≠ j2 → s.heap.get? c = some o → he.get? c = some o := fun c o c1 c2 c3 c4 q =>
    hse.extBut _ _ c2 (hsd.extBut _ _ c4 (hsc.extBut _ _ c2 (hsb.extBut _ _ c3 (hsa'.extBut _ _ c1 q))))
  have s1e : S1 (k + 1) he := frm D1 (frm D1 (frm D1 s1b hsc D.u1) hsd D.a1) hse D.u1
  have s2e : S2 (k + 1) he := frm D2 s2d hse D.u2
  have hzl : zz < he.objs.size := Heap.lt_size hze
  show wpAny _ _ (Builtin.SmallTypes.ownedTupleHandOut (.ref zz) (.ref he.objs.size) >>= _) _ _ _
  refine wpAny_bind ?_
  unfold Builtin.SmallTypes.ownedTupleHandOut
  have hzf : IsZip (he.push { cls := .type "tuple", data := .seq #[x, y] }) zz ti ut .ellipsis := Heap.get?_push_of_some _ hze
  refine wpAny_bind (wpAny_setField_rec hzf (by simp) fun hg hzg hsg => ?_)
  replace hzg : IsZip hg zz ti ut (rawInt he.objs.size) := hzg
  refine wpAny_setField_rec hzg (by simp) fun hi hzi hsi => ?_
  replace hzi : IsZip hi zz ti ut (rawInt he.objs.size) := hzi
  have up : ∀ c o, c ≠ zz → he.get? c = some o → hi.get? c = some o := fun c o c1 q => hsi.extBut _ _ c1 (hsg.extBut _ _ c1 (Heap.get?_push_of_some _ q))
  have hTi : IsPair hi he.objs.size x y := hsi.extBut _ _ (Nat.ne_of_gt hzl) (hsg.extBut _ _ (Nat.ne_of_gt hzl) (Heap.get?_push_size _ rfl))
  have hni : hi.objs.size = he.objs.size + 1 := by rw [hsi.1, hsg.1, Heap.size_push]
  rw [hsz] at hzi hTi hni
  refine wpAny_pure ⟨_, rfl, ?_⟩
  show Q (.ref he.objs.size) _
  rw [hsz]
  exact hQ x y hi tkd px py hzi (up _ _ D.uz hute) (D1.frame _ _ _ s1e fun b hb o q => up b o (fun e => D.z1 (e ▸ hb)) q) (D2.frame _ _ _ s2e fun b hb o q => up b o (fun e => D.z2 (e ▸ hb)) q) hTi hni fun c o c1 c2 c3 c4 q => up c o c1 (hke c o c1 c2 c3 c4 q)
/-- either is at its end -/
theorem zip_done {zz ti ut j1 j2 : Addr} {f1 f2 : List Addr} {n1 n2 k : Nat} {P1 P2 : Nat → Value → Prop} {S1 S2 : Nat → Heap → Prop} {oa ob : Value} {Q : Fin → Shared → Prop}
    (D1 : Draws prog w A j1 f1 n1 P1 S1) (D2 : Draws prog w A j2 f2 n2 P2 S2) (D : Apart zz ti ut j1 j2 f1 f2)
    (hz : IsZip s.heap zz ti ut .none) (hti : IsPair s.heap ti (.ref j1) (.ref j2)) (hut : IsPair s.heap ut oa ob) (st1 : S1 k s.heap) (st2 : S2 k s.heap) (hend : k = n1 ∨ (k < n1 ∧ k = n2))
    (hE : ∀ h' tk e, (∀ c o, c ≠ zz → c ≠ ut → c ≠ j1 → c ≠ j2 → s.heap.get? c = some o → h'.get? c = some o) → (∃ o, h'.get? e = some o ∧ o.cls = .type "StopIteration") → E (.ref e) { s with heap := h', toks := tk }) :
    wpAny (model prog w) A (Builtin.«zip.__next__» ⟨[.ref zz], []⟩) Q E s := by
  show wpAny _ _ (field (.ref zz) 2 >>= _) _ _ _
  refine wpAny_bind (wpAny_field hz rfl (x := Value.bool false) rfl ?_)
  show wpAny _ _ (field (.ref zz) 3 >>= _) _ _ _
  refine wpAny_bind (wpAny_field hz rfl (x := .ref ti) rfl ?_)
  refine wpAny_bind (wpAny_seqItems hti rfl ?_)
  show wpAny _ _ (Builtin.SmallTypes.ownedTupleIsFree (.ref zz) >>= _) _ _ _
  refine wpAny_bind ?_
  unfold Builtin.SmallTypes.ownedTupleIsFree
  refine wpAny_bind (wpAny_field hz rfl (x := Value.none) rfl (wpAny_pure ?_))
  simp only [if_true]
  refine wpAny_bind (wpAny_rule ?_)
  refine wpAny_bind (wpAny_field hz rfl (x := .ref ut) rfl ?_)
  refine wpAny_bind (wpAny_setField_rec hz (by simp) fun ha hza hsa => ?_)
  replace hza : IsZip ha zz ti ut .ellipsis := hza
  refine wpAny_bind ?_
  simp only [List.zipIdx_cons, List.zipIdx_nil, List.forIn_nil, List.forIn_cons]
  refine wpAny_bind (wpAny_bind (wpAny_onRaise ?_))
  show wpAny _ _ (Builtin.SmallTypes.nextOf (.ref j1) >>= _) _ _ _
  have hsa' : Heap.SameBut zz s.heap ha := hsa
  rcases hend with e1 | ⟨l1, e2⟩
  · subst e1
    refine wpAny_bind (D1.done _ _ _ (frm D1 st1 hsa' D.z1) fun hb e hsb hx => ?_)
    replace hsb : Heap.ExtBut j1 ha hb := hsb
    obtain ⟨oe, hoe, hce⟩ := hx
    have hzb : IsZip hb zz ti ut .ellipsis := hsb _ _ D.j1z.symm hza
    have hez : e ≠ zz := fun q => by subst q; rw [hzb] at hoe; cases hoe; simp at hce
    exact wpAny_setField_rec hzb (by simp) fun hc _ hsc => hE hc _ e (fun c o c1 _ c3 _ q => hsc.extBut _ _ c1 (hsb _ _ c3 (hsa'.extBut _ _ c1 q))) ⟨oe, hsc.extBut _ _ hez hoe, hce⟩
  · subst e2
    refine wpAny_bind (D1.item k _ _ _ l1 (frm D1 st1 hsa' D.z1) fun x hb tkb px s1b hsb => wpAny_pure ?_)
    replace hsb : Heap.SameBut j1 ha hb := hsb
    have hutb : IsPair hb ut oa ob := hsb.extBut _ _ D.uj1 (hsa'.extBut _ _ D.uz hut)
    refine wpAny_bind (wpAny_seqItems hutb rfl ?_)
    refine wpAny_bind (wpAny_updateSeq_pair hutb fun hc hutc hsc => ?_)
    replace hsc : Heap.SameBut ut hb hc := hsc
    refine wpAny_bind (wpAny_letGo (wpAny_pure ?_))
    refine wpAny_bind (wpAny_bind (wpAny_onRaise ?_))
    show wpAny _ _ (Builtin.SmallTypes.nextOf (.ref j2) >>= _) _ _ _
    refine wpAny_bind (D2.done _ _ _ (frm D2 (frm D2 (frm D2 st2 hsa' D.z2) hsb D.a2) hsc D.u2) fun hd e hsd hx => ?_)
    replace hsd : Heap.ExtBut j2 hc hd := hsd
    obtain ⟨oe, hoe, hce⟩ := hx
    have hzd : IsZip hd zz ti ut .ellipsis := hsd _ _ D.j2z.symm (hsc.extBut _ _ D.uz.symm (hsb.extBut _ _ D.j1z.symm hza))
    have hez : e ≠ zz := fun q => by subst q; rw [hzd] at hoe; cases hoe; simp at hce
    exact wpAny_setField_rec hzd (by simp) fun hf _ hsf => hE hf _ e (fun c o c1 c2 c3 c4 q => hsf.extBut _ _ c1 (hsd _ _ c4 (hsc.extBut _ _ c2 (hsb.extBut _ _ c3 (hsa'.extBut _ _ c1 q))))) ⟨oe, hsf.extBut _ _ hez hoe, hce⟩
/-- as a loop asks -/
theorem next_item {zz ti ut j1 j2 : Addr} {f1 f2 : List Addr} {n1 n2 k : Nat} {P1 P2 : Nat → Value → Prop} {S1 S2 : Nat → Heap → Prop} {oa ob : Value} {Q : Option Value → Shared → Prop}
    (D1 : Draws prog w A.in1 j1 f1 n1 P1 S1) (D2 : Draws prog w A.in1 j2 f2 n2 P2 S2) (D : Apart zz ti ut j1 j2 f1 f2)
    (hz : IsZip s.heap zz ti ut .none) (hti : IsPair s.heap ti (.ref j1) (.ref j2)) (hut : IsPair s.heap ut oa ob) (st1 : S1 k s.heap) (st2 : S2 k s.heap) (l1 : k < n1) (l2 : k < n2)
    (hQ : ∀ x y h' tk, P1 k x → P2 k y → IsZip h' zz ti ut (rawInt s.heap.objs.size) → IsPair h' ut x y → S1 (k + 1) h' → S2 (k + 1) h' → IsPair h' s.heap.objs.size x y → h'.objs.size = s.heap.objs.size + 1 →
      (∀ c o, c ≠ zz → c ≠ ut → c ≠ j1 → c ≠ j2 → s.heap.get? c = some o → h'.get? c = some o) → Q (some (.ref s.heap.objs.size)) { s with heap := h', toks := tk }) :
    wpAny (model prog w) A (pyNext (.ref zz)) Q E s := by
  have hT : s.TypeIs (.ref zz) "zip" := ⟨_, hz, rfl⟩
  unfold pyNext
  exact wpAny_bind (wpAny_attempt (wpAny_callSpecial?_slot (name := Str.ofString "__next__") hT F.slot_zip_next
    (wpAny_call_entry F.slot_zip_next hT F.entry_zip_next (zip_item D1 D2 D hz hti hut st1 st2 l1 l2 fun x y h' tk b1 b2 b3 b4 b5 b6 b7 b8 b9 => wpAny_pure (hQ x y h' tk b1 b2 b3 b4 b5 b6 b7 b8 b9)) (F.args_zip_next_1 _))))
theorem next_done {zz ti ut j1 j2 : Addr} {f1 f2 : List Addr} {n1 n2 k : Nat} {P1 P2 : Nat → Value → Prop} {S1 S2 : Nat → Heap → Prop} {oa ob : Value} {Q : Option Value → Shared → Prop}
    (D1 : Draws prog w A.in1 j1 f1 n1 P1 S1) (D2 : Draws prog w A.in1 j2 f2 n2 P2 S2) (D : Apart zz ti ut j1 j2 f1 f2)
    (hz : IsZip s.heap zz ti ut .none) (hti : IsPair s.heap ti (.ref j1) (.ref j2)) (hut : IsPair s.heap ut oa ob) (st1 : S1 k s.heap) (st2 : S2 k s.heap) (hend : k = n1 ∨ (k < n1 ∧ k = n2))
    (hQ : ∀ h' tk, (∀ c o, c ≠ zz → c ≠ ut → c ≠ j1 → c ≠ j2 → s.heap.get? c = some o → h'.get? c = some o) → Q none { s with heap := h', toks := tk }) : wpAny (model prog w) A (pyNext (.ref zz)) Q E s := by
  have hT : s.TypeIs (.ref zz) "zip" := ⟨_, hz, rfl⟩
  unfold pyNext
  refine wpAny_bind (wpAny_attempt (wpAny_callSpecial?_slot (name := Str.ofString "__next__") hT F.slot_zip_next
    (wpAny_call_entry F.slot_zip_next hT F.entry_zip_next (zip_done D1 D2 D hz hti hut st1 st2 hend fun h' tk e hk hx => ?_) (F.args_zip_next_1 _))))
  obtain ⟨o, ho, hc⟩ := hx
  refine wpAny_bind (wpAny_isInstance (T := "StopIteration") (b := true) ⟨o, ho, hc⟩ isSubtype_stop ?_)
  exact wpAny_pure (hQ _ _ hk)
end
/-- zip of a text and a list -/
abbrev zA (h : Heap) (x : Str) (t : Tok) : Heap := h.push { cls := .type (strIterType x), data := .fields #[.str x t, .int 0 0] }
abbrev zB (h : Heap) (x : Str) (t : Tok) (l : Addr) : Heap := (zA h x t).push { cls := .type "list_iterator", data := .fields #[.ref l, .int 0 0] }
abbrev zC (h : Heap) (x : Str) (t : Tok) (l : Addr) : Heap := (zB h x t l).push { cls := .type "tuple", data := .seq #[.ref h.objs.size, .ref (zA h x t).objs.size] }
abbrev zD (h : Heap) (x : Str) (t : Tok) (l : Addr) : Heap := (zC h x t l).push { cls := .type "tuple", data := .seq #[.none, .none] }
abbrev zE (h : Heap) (x : Str) (t : Tok) (l : Addr) : Heap := (zD h x t l).push { cls := .type "zip", data := .fields #[.none, .bool false, .bool false, .ref (zB h x t l).objs.size, .ref (zC h x t l).objs.size] }
set_option maxHeartbeats 4000000 in
theorem meets_new (x : Str) (t : Tok) (l : Addr) (ys : Array Value) :
    Meets (Builtin.«zip.__new__» ⟨[.type "zip", .str x t, .ref l], []⟩) (fun _ R s => s.heap.IsList l ys ∧ R (.ok (.ret (.ref (zD s.heap x t l).objs.size))) { s with heap := zE s.heap x t l }) :=
  .of_wp fun prog w A R s h => by
    obtain ⟨hp, g, d, tk, os⟩ := s
    obtain ⟨hl, h⟩ := h
    have hsub := sub_zip
    have hL : Heap.IsList (Shared.heap ⟨hp.push { cls := .type (strIterType x), data := .fields #[.str x t, .int 0 0] }, g, d, tk, os⟩) l ys := Heap.IsList.push hl _
    wp_walk using wpAny_pyIter_strU, wpAny_pyIter_list hL
    exact ⟨_, rfl, h⟩
section
variable {prog : Program} {w : World} {A : Around} {E : Value → Shared → Prop} {s : Shared}
theorem call_zip {x : Str} {t : Tok} {l : Addr} {ys : Array Value} {Q : Value → Shared → Prop} (hl : s.heap.IsList l ys)
    (h : ∀ h', IsZip h' (s.heap.objs.size + 4) (s.heap.objs.size + 2) (s.heap.objs.size + 3) .none → IsPair h' (s.heap.objs.size + 2) (.ref s.heap.objs.size) (.ref (s.heap.objs.size + 1)) →
      IsPair h' (s.heap.objs.size + 3) .none .none → h'.IsStrIter s.heap.objs.size (strIterType x) x t 0 → h'.IsListIter (s.heap.objs.size + 1) l 0 → h'.objs.size = s.heap.objs.size + 5 →
      (∀ c o, s.heap.get? c = some o → h'.get? c = some o) → Q (.ref (s.heap.objs.size + 4)) { s with heap := h' }) :
    wpAny (model prog w) A (call (.type "zip") [.str x t, .ref l]) Q E s := by
  refine callType_new F.called_zip (by decide) (F.typeCall_zip_2 _ _) (F.newCall_zip_2 _ _) (fun obj => F.args_object_init_3 obj _ _) F.entry_zip_new (meets_new x t l ys) ⟨hl, ?_⟩
  have s1 : (zA s.heap x t).objs.size = s.heap.objs.size + 1 := Heap.size_push ..
  have s2 : (zB s.heap x t l).objs.size = s.heap.objs.size + 2 := by rw [Heap.size_push, s1]
  have s3 : (zC s.heap x t l).objs.size = s.heap.objs.size + 3 := by rw [Heap.size_push, s2]
  have s4 : (zD s.heap x t l).objs.size = s.heap.objs.size + 4 := by rw [Heap.size_push, s3]
  have s5 : (zE s.heap x t l).objs.size = s.heap.objs.size + 5 := by rw [Heap.size_push, s4]
  have p5 : (zE s.heap x t l).get? (zD s.heap x t l).objs.size = some _ := Heap.get?_push_size _ rfl
  have p4 : (zE s.heap x t l).get? (zC s.heap x t l).objs.size = some _ := Heap.get?_push_of_some _ (Heap.get?_push_size _ rfl)
  have p3 : (zE s.heap x t l).get? (zB s.heap x t l).objs.size = some _ := Heap.get?_push_of_some _ (Heap.get?_push_of_some _ (Heap.get?_push_size _ rfl))
  have p2 : (zE s.heap x t l).get? (zA s.heap x t).objs.size = some _ := Heap.get?_push_of_some _ (Heap.get?_push_of_some _ (Heap.get?_push_of_some _ (Heap.get?_push_size _ rfl)))
  have p1 : (zE s.heap x t l).get? s.heap.objs.size = some _ := Heap.get?_push_of_some _ (Heap.get?_push_of_some _ (Heap.get?_push_of_some _ (Heap.get?_push_of_some _ (Heap.get?_push_size _ rfl))))
  show _ ∧ _
  rw [s2, s3, s4] at p5
  rw [s1, s2] at p3
  rw [s3] at p4
  rw [s1] at p2
  rw [s4]
  exact ⟨⟨_, p5, rfl⟩, h _ p5 p3 p4 ⟨_, p1, rfl, rfl⟩ ⟨_, p2, rfl, rfl⟩ s5 fun c o q =>
    Heap.get?_push_of_some _ (Heap.get?_push_of_some _ (Heap.get?_push_of_some _ (Heap.get?_push_of_some _ (Heap.get?_push_of_some _ q))))⟩
/-- a tuple's items, one after another -/
theorem tup_item {it tp : Addr} {k : Nat} {its : Array Value} {x : Value} {Q : Value → Shared → Prop} (hit : s.heap.IsTupleIter it tp k) (ht : s.heap.IsTuple tp its) (hx : its[k]? = some x)
    (hQ : ∀ h', h'.IsTupleIter it tp (k + 1) → Heap.SameBut it s.heap h' → Q x { s with heap := h' }) : wpAny (model prog w) A (Builtin.SmallTypes.nextOf (.ref it)) Q E s := by
  obtain ⟨oi, hoi, hci, hdi⟩ := id hit
  obtain ⟨ot, hot, _, nt, hdt⟩ := ht
  unfold Builtin.SmallTypes.nextOf
  refine wpAny_bind (wpAny_callSpecial?_slot (name := Str.ofString "__next__") hit.typeIs F.slot_tuple_iterator_next (wpAny_call_entry F.slot_tuple_iterator_next hit.typeIs F.entry_tuple_iterator_next ?_ (F.args_tuple_iterator_next_1 _)))
  show wpAny _ _ (field (.ref it) 0 >>= _) _ E s
  refine wpAny_bind (wpAny_field hoi hdi (x := .ref tp) rfl ?_)
  show wpAny _ _ (if (Value.ref tp == Value.none) = true then _ else _) _ _ s
  rw [if_neg (show ¬ ((Value.ref tp == Value.none) = true) from Bool.false_ne_true)]
  show wpAny _ _ (field (.ref it) 1 >>= _) _ E s
  refine wpAny_bind (wpAny_field hoi hdi (x := .int k 0) rfl ?_)
  show wpAny _ _ (seqItems? (.ref tp) >>= _) _ _ s
  refine wpAny_bind (wpAny_seqItems hot hdt ?_)
  simp only [Int.toNat_natCast, hx]
  refine wpAny_bind (wpAny_setField hoi hdi (by simp) (wpAny_pure ⟨x, rfl, wpAny_pure (hQ _ ⟨_, Heap.get?_update_self _ hoi (Obj.isFreed_of_fields (Obj.data_mapFields hdi _)), (Obj.cls_mapFields ..).trans hci, ?_⟩ (Heap.SameBut.update ..))⟩))
  rw [Obj.data_mapFields hdi]
  simp [rawInt]
theorem tup_done {it tp : Addr} {k : Nat} {its : Array Value} {Q : Value → Shared → Prop} (hh : A.handled = none) (hit : s.heap.IsTupleIter it tp k) (ht : s.heap.IsTuple tp its) (hx : its[k]? = none)
    (hE : ∀ h' e, Heap.ExtBut it s.heap h' → (∃ o, h'.get? e = some o ∧ o.cls = .type "StopIteration") → E (.ref e) { s with heap := h' }) : wpAny (model prog w) A (Builtin.SmallTypes.nextOf (.ref it)) Q E s := by
  obtain ⟨oi, hoi, hci, hdi⟩ := id hit
  obtain ⟨ot, hot, _, nt, hdt⟩ := ht
  unfold Builtin.SmallTypes.nextOf
  refine wpAny_bind (wpAny_callSpecial?_slot (name := Str.ofString "__next__") hit.typeIs F.slot_tuple_iterator_next (wpAny_call_entry F.slot_tuple_iterator_next hit.typeIs F.entry_tuple_iterator_next ?_ (F.args_tuple_iterator_next_1 _)))
  show wpAny _ _ (field (.ref it) 0 >>= _) _ E s
  refine wpAny_bind (wpAny_field hoi hdi (x := .ref tp) rfl ?_)
  show wpAny _ _ (if (Value.ref tp == Value.none) = true then _ else _) _ _ s
  rw [if_neg (show ¬ ((Value.ref tp == Value.none) = true) from Bool.false_ne_true)]
  show wpAny _ _ (field (.ref it) 1 >>= _) _ E s
  refine wpAny_bind (wpAny_field hoi hdi (x := .int k 0) rfl ?_)
  show wpAny _ _ (seqItems? (.ref tp) >>= _) _ _ s
  refine wpAny_bind (wpAny_seqItems hot hdt ?_)
  simp only [Int.toNat_natCast, hx]
  refine wpAny_bind (wpAny_rule (wpAny_bind (wpAny_setField hoi hdi (by simp) ?_)))
  show wpAny _ _ (newExc (.type "StopIteration") [] >>= _) _ E _
  refine wpAny_bind ?_
  simp only [newExc, newTuple]
  refine wpAny_bind (wpAny_newObj_type ?_ (by size_fits))
  refine wpAny_bind (m := firstArgMember _ _) (wpAny_of_eq (a := Value.none) (by first | rfl | (simp only [firstArgMember]; exact rfl)) ?_)
  refine wpAny_newObj_type ?_ (by size_fits)
  simp only [raiseNew]
  refine wpAny_bind (wpAny_handled ?_)
  first | rw [hh] | rw [show A.in1.handled = none from hh]
  refine wpAny_bind (wpAny_pure (wpAny_throw ?_))
  exact hE _ _ (((Heap.SameBut.update ..).extBut.push _).push _) ⟨_, Heap.get?_push_size _ rfl, rfl⟩
theorem tupD (hh : A.handled = none) (it tp : Addr) (hne : tp ≠ it) (its : Array Value) : Draws prog w A it [it, tp] its.size (fun i v => its[i]? = some v) (fun i h => h.IsTupleIter it tp i ∧ h.IsTuple tp its) where
  live := fun _ _ st => let ⟨o, ho, _⟩ := st.1; ⟨o, ho⟩
  frame := fun _ _ _ st hk => ⟨st.1.at fun o e => hk it (by simp) o e, let ⟨o, ho, r⟩ := st.2; ⟨o, hk tp (by simp) o ho, r⟩⟩
  item := fun i s Q E hi st hQ => tup_item st.1 st.2 (x := its[i]) (by simp [hi]) fun h' hit' hs' => hQ _ h' s.toks (by simp [hi]) ⟨hit', st.2.extBut hs'.extBut hne⟩ hs'
  done := fun s Q E st hE => tup_done hh st.1 st.2 (by simp) hE
set_option maxHeartbeats 1000000 in
theorem meets_enum (l : Addr) (items : Array Value) (ob : Obj) (hc : ob.cls = .type "tuple") (n : Nat) (hd : ob.data = .seq items n) :
    Meets (Builtin.«enumerate.__new__» ⟨[.type "enumerate", .ref l], []⟩) (fun _ R s => s.heap.get? l = some ob ∧
      R (.ok (.ret (.ref (s.heap.push { cls := .type "tuple_iterator", data := .fields #[.ref l, .int 0 0] }).objs.size)))
        { s with heap := (s.heap.push { cls := .type "tuple_iterator", data := .fields #[.ref l, .int 0 0] }).push { cls := .type "enumerate", data := .fields #[.none, .bool false, .ref s.heap.objs.size, rawInt 0, .none, .none] } }) :=
  .of_wp fun prog w A R s h => by
    obtain ⟨hp, g, d, tk, os⟩ := s
    obtain ⟨hl, h⟩ := h
    have hsub := sub_enumerate
    obtain ⟨cl, dct, dt, sl⟩ := ob
    replace hc : cl = .type "tuple" := hc
    replace hd : dt = .seq items n := hd
    subst hc hd
    have hL : Heap.IsTuple (Shared.heap ⟨hp, g, d, tk, os⟩) l items := ⟨_, hl, rfl, n, rfl⟩
    wp_walk using wpAny_loadPart' hl
    refine wpAny_stack_any fun st => wpAny_pure ?_
    split
    · rename_i c _ _ _ _ _
      cases (c == Value.type "enumerate")
      · wp_walk using wpAny_loadPart' hl, wpAny_pyIter_tuple hL
        exact ⟨_, rfl, h⟩
      · wp_walk using wpAny_loadPart' hl, wpAny_pyIter_tuple hL
        exact ⟨_, rfl, h⟩
    · wp_walk using wpAny_loadPart' hl, wpAny_pyIter_tuple hL
      exact ⟨_, rfl, h⟩
theorem call_enum {l : Addr} {items : Array Value} {Q : Value → Shared → Prop} (hL : s.heap.IsTuple l items)
    (h : ∀ h', IsEnum h' (s.heap.objs.size + 1) s.heap.objs.size 0 .none → h'.IsTupleIter s.heap.objs.size l 0 → h'.objs.size = s.heap.objs.size + 2 →
      (∀ b o, s.heap.get? b = some o → h'.get? b = some o) → Q (.ref (s.heap.objs.size + 1)) { s with heap := h' }) :
    wpAny (model prog w) A (call (.type "enumerate") [.ref l]) Q E s := by
  obtain ⟨ob, hl, hc, n, hd⟩ := hL
  refine callType_new F.called_enumerate (by decide) (F.typeCall_enumerate_1 _) (F.newCall_enumerate_1 _) (fun obj => F.args_object_init_2 obj _) F.entry_enumerate_new (meets_enum l items ob hc n hd) ⟨hl, ?_⟩
  have hz : (s.heap.push { cls := .type "tuple_iterator", data := .fields #[.ref l, .int 0 0] }).objs.size = s.heap.objs.size + 1 := Heap.size_push ..
  show _ ∧ _
  rw [hz]
  have he : IsEnum ((s.heap.push { cls := .type "tuple_iterator", data := .fields #[.ref l, .int 0 0] }).push { cls := .type "enumerate", data := .fields #[.none, .bool false, .ref s.heap.objs.size, rawInt 0, .none, .none] }) (s.heap.objs.size + 1) s.heap.objs.size 0 .none := by
    have q := Heap.get?_push_size (s.heap.push { cls := .type "tuple_iterator", data := .fields #[.ref l, .int 0 0] }) (o := { cls := .type "enumerate", data := .fields #[.none, .bool false, .ref s.heap.objs.size, rawInt 0, .none, .none] }) rfl
    rw [hz] at q
    exact q
  exact ⟨⟨_, he, rfl⟩, h _ he ⟨_, Heap.get?_push_of_some _ (Heap.get?_push_size _ rfl), rfl, rfl⟩ (by rw [Heap.size_push, hz]) fun b o q => Heap.get?_push_of_some _ (Heap.get?_push_of_some _ q)⟩
end
end Zl

set_option maxRecDepth 100000
namespace Zt
open PySem PySem.W PyProof.Rows L2
/-- a text and the list at a, the items in new pairs -/
def Itx (K : PySem.W.Frag) (z : Str) (a : Addr) (ys : List V) : It :=
  ⟨fun i H => SqL K H a ys ∧ i < z.cps.size ∧ i < ys.length, fun i H v H' => ∃ T c y, v = .ref T ∧ H T = none ∧ H' = upd H T (.tup [.str ⟨#[c]⟩, y]) ∧ z.cps[i]? = some c ∧ ys[i]? = some y,
    fun i H => SqL K H a ys ∧ (i = z.cps.size ∨ (i < z.cps.size ∧ i = ys.length))⟩
structure Far (zz ti ut j1 j2 a : Addr) : Prop where
  tz : ti ≠ zz
  tu : ti ≠ ut
  t1 : ti ≠ j1
  t2 : ti ≠ j2
  uz : ut ≠ zz
  u1 : ut ≠ j1
  u2 : ut ≠ j2
  ua : ut ≠ a
  z1 : zz ≠ j1
  z2 : zz ≠ j2
  za : zz ≠ a
  j12 : j1 ≠ j2
  j1a : j1 ≠ a
  j2a : j2 ≠ a
theorem Far.apart {zz ti ut j1 j2 a : Addr} (D : Far zz ti ut j1 j2 a) : Zl.Apart zz ti ut j1 j2 [j1] [j2, a] where
  tz := D.tz
  uz := D.uz
  z1 := by simp [D.z1]
  z2 := by simp [D.z2, D.za]
  u1 := by simp [D.u1]
  u2 := by simp [D.u2, D.ua]
  m1 := by simp
  m2 := by simp
  a1 := by simp [D.j12.symm]
  a2 := by simp [D.j12, D.j1a]
theorem far (n b : Nat) (h : b < n) : Far (n + 4) (n + 2) (n + 3) n (n + 1) b := by
  constructor <;> (intro e; exact absurd (show ((_ : Nat) = _) from e) (by omega))
theorem turn_zipx {P : Program} {w : World} {K : PySem.W.Frag} {elts : List Expr} {kk : Nat} {tpos : Pos} {z : Str} {t : Tok} {ys : List V} {a zz ti ut j1 j2 : Addr} (D : Far zz ti ut j1 j2 a) :
    Turn P w K (.Tuple elts kk tpos) (Itx K z a ys) [zz, ti, ut, j1, j2] zz (fun i h => IsZip h zz ti ut .none ∧ IsPair h ti (.ref j1) (.ref j2) ∧ (∃ x y, IsPair h ut x y) ∧ h.IsStrIter j1 (strIterType z) z t i ∧ h.IsListIter j2 a i) where
  mem := by simp
  obj := fun i h st c hc => by
    obtain ⟨hz, hti, ⟨x, y, hut⟩, ⟨o1, e1, _, d1⟩, ⟨o2, e2, _, d2⟩⟩ := st
    have e' : c = zz ∨ c = ti ∨ c = ut ∨ c = j1 ∨ c = j2 := by simpa using hc
    rcases e' with q | q | q | q | q
    · rw [q]; exact ⟨_, hz, fun v q => nomatch q⟩
    · rw [q]; exact ⟨_, hti, fun v q => nomatch q⟩
    · rw [q]; exact ⟨_, hut, fun v q => nomatch q⟩
    · rw [q]; exact ⟨o1, e1, fun v q => by rw [d1] at q; cases q⟩
    · rw [q]; exact ⟨o2, e2, fun v q => by rw [d2] at q; cases q⟩
  keep := fun i h h' st k => by
    obtain ⟨hz, hti, ⟨x, y, hut⟩, ⟨o1, e1, r1⟩, h2⟩ := st
    exact ⟨k zz (by simp) _ hz, k ti (by simp) _ hti, ⟨x, y, k ut (by simp) _ hut⟩, ⟨o1, k j1 (by simp) _ e1, r1⟩, h2.at fun o q => k j2 (by simp) o q⟩
  item := by
    intro X hP hw hK hc i pins s σ H E I hf st hg
    subst hP hw hK
    obtain ⟨hz, hti, ⟨x0, y0, hut⟩, h1, h2⟩ := st
    obtain ⟨hq, hi1, hi2⟩ := hg
    obtain ⟨its, rv, p, _⟩ := I.list hq
    have hlen := rv.length
    have hzl : zz < s.heap.objs.size := Heap.lt_size hz
    have d1 := Zl.strD (prog := X.prog) (w := X.w) (A := X.A.in1) (I.ok.hd hc) j1 z t
    have d2 := Draws.list (prog := X.prog) (w := X.w) (A := X.A.in1) (I.ok.hd hc) j2 a D.j2a.symm its.toArray
    refine Zl.next_item d1 d2 D.apart hz hti hut h1 ⟨h2, p.isList⟩ hi1 (by rw [List.size_toArray]; omega) fun x y h' tk px py hz' hut' h1' h2' hT hsz hk => ?_
    obtain ⟨c, tx, hcx, rfl⟩ := px
    have hy : its[i]? = some y := by simpa using py
    obtain ⟨y1, hy1⟩ : ∃ y1, ys[i]? = some y1 := ⟨ys[i], List.getElem?_eq_getElem hi2⟩
    obtain ⟨u, hu, ru⟩ := rv.get hy1
    have eu : u = y := Option.some.inj (hu.symm.trans hy)
    subst eu
    refine ⟨_, rfl, wpAny_letOwnedTupleGo_zip (s := { s with heap := h', toks := tk }) hz' fun h'' hz'' sb => ?_⟩
    have hT2 : h''.get? s.heap.objs.size = some { cls := .type "tuple", data := .seq #[.str ⟨#[c]⟩ tx, u] } := (sb.2 _ (Nat.ne_of_gt hzl)).trans hT
    have new : ObjOk X.prog X.w (upd H s.heap.objs.size (.tup [.str ⟨#[c]⟩, y1])) h'' s.heap.objs.size (.tup [.str ⟨#[c]⟩, y1]) :=
      ⟨by show 2 ≤ sizeLine; decide, [.str ⟨#[c]⟩ tx, u], .cons ⟨_, rfl⟩ (.cons ru .nil), ⟨_, hT2, rfl, _, rfl⟩⟩
    have I1 : Inv X pins σ (upd H s.heap.objs.size (.tup [.str ⟨#[c]⟩, y1])) { s with heap := h'', toks := tk } :=
      I.turnedNew (t' := tk) (ch := [zz, ti, ut, j1, j2]) (fun b o hb q => (sb.2 b (fun q' => hb (by simp [q']))).trans (hk b o (fun q' => hb (by simp [q'])) (fun q' => hb (by simp [q'])) (fun q' => hb (by simp [q'])) (fun q' => hb (by simp [q'])) q)) hf (Nat.le_refl _) new
    obtain ⟨o1, e1, r1⟩ := h1'
    refine ⟨.ref s.heap.objs.size, _, I1, rfl, ⟨_, c, y1, rfl, I.hok.fresh (Nat.le_refl _), rfl, hcx, hy1⟩, ⟨hz'', ?_, ⟨.str ⟨#[c]⟩ tx, u, ?_⟩, ⟨o1, ?_, r1⟩, ?_⟩, fun b hb => ?_⟩
    · exact (sb.2 _ D.tz).trans (hk _ _ D.tz D.tu D.t1 D.t2 hti)
    · exact (sb.2 _ D.uz).trans hut'
    · exact (sb.2 _ D.z1.symm).trans e1
    · exact h2'.1.at fun o q => (sb.2 _ D.z2.symm).trans q
    · have hlt : b < s.heap.objs.size := by
        have e' : b = zz ∨ b = ti ∨ b = ut ∨ b = j1 ∨ b = j2 := by simpa using hb
        rcases e' with q | q | q | q | q
        · rw [q]; exact hzl
        · rw [q]; exact Heap.lt_size hti
        · rw [q]; exact Heap.lt_size hut
        · rw [q]; obtain ⟨_, e1, _⟩ := h1; exact Heap.lt_size e1
        · rw [q]; obtain ⟨_, e2, _⟩ := h2; exact Heap.lt_size e2
      rw [upd_ne (Nat.ne_of_lt hlt)]
      exact (hf b hb).1
  done := by
    intro X hP hw hK hc i pins s σ H E I hf st hg
    subst hP hw hK
    obtain ⟨hz, hti, ⟨x0, y0, hut⟩, h1, h2⟩ := st
    obtain ⟨hq, hend⟩ := hg
    obtain ⟨its, rv, p, _⟩ := I.list hq
    have hlen := rv.length
    have d1 := Zl.strD (prog := X.prog) (w := X.w) (A := X.A.in1) (I.ok.hd hc) j1 z t
    have d2 := Draws.list (prog := X.prog) (w := X.w) (A := X.A.in1) (I.ok.hd hc) j2 a D.j2a.symm its.toArray
    exact Zl.next_done d1 d2 D.apart hz hti hut h1 ⟨h2, p.isList⟩ (hend.elim (fun e => .inl e) (fun e => .inr ⟨e.1, by have := e.2; rw [List.size_toArray]; omega⟩)) fun h' tk hk => ⟨rfl, I.turnedL (t' := tk) (ch := [zz, ti, ut, j1, j2]) (fun b o hb q =>
      hk b o (fun q' => hb (by simp [q'])) (fun q' => hb (by simp [q'])) (fun q' => hb (by simp [q'])) (fun q' => hb (by simp [q'])) q) hf⟩
  self := fun A i s Q E st h => wpAny_pyIter_zip st.1 h
def iZipx (K : PySem.W.Frag) (ta : TA) : TI := fun σ H R => ta σ H fun vs H1 => ∃ z b ys, vs = [.str z, .ref b] ∧ SqL K H1 b ys ∧ R (Itx K z b ys) H1
theorem pi_zipx {X : Cx} {e e2 : Expr} {ta : TA} {p pos tpos : Pos} {elts : List Expr} {kk : Nat} (hg : Gl X "zip") (hm : X.mg "zip" = none) (ha : PA X [e, e2] ta)
    (hs : starEach [e, e2] X.env = (false, eval e X.env) :: starEach [e2] X.env := by rfl) (hpl : (backTo pos (starEach [e2] X.env)).any (·.1) = false := by rfl) :
    PI X (.Tuple elts kk tpos) (.Call (.Name "zip" p) [e, e2] [] pos) (iZipx X.K ta) := by
  intro pins s σ H R I h
  refine Call_ (ld_blt I hg hm boot_zip5 (PyProof.Rows.callWith_type1 (thn (ha pos pins s σ H _ I h) fun us s1 ⟨vs, H1, I1, r1, q1⟩ => ?_) hs hpl))
  obtain ⟨z, b, ys, ex, hqy, q⟩ := q1
  subst ex
  cases r1 with
  | cons r rr =>
    cases rr with
    | cons r' rr =>
      cases rr
      obtain ⟨t, rfl⟩ := r
      cases r'
      obtain ⟨its2, rv2, p2, _⟩ := I1.list hqy
      have lb : b < s1.heap.objs.size := p2.lt
      refine Zl.call_zip p2.isList fun h' hz hTI hTO h1 h2 hsz hk => wpAny_pyIter_zip hz ?_
      have I2 : Inv X pins σ H1 { s1 with heap := h' } := I1.kept (t' := s1.toks) hk
      have D : Far (s1.heap.objs.size + 4) (s1.heap.objs.size + 2) (s1.heap.objs.size + 3) s1.heap.objs.size (s1.heap.objs.size + 1) b := far _ _ lb
      refine ⟨s1.heap.objs.size + 4, [s1.heap.objs.size + 4, s1.heap.objs.size + 2, s1.heap.objs.size + 3, s1.heap.objs.size, s1.heap.objs.size + 1], _, _, H1, rfl, I2, turn_zipx (t := t) D, ⟨hz, hTI, ⟨_, _, hTO⟩, h1, h2⟩, fun c hcm => ?_, q⟩
      have e' : c = s1.heap.objs.size + 4 ∨ c = s1.heap.objs.size + 2 ∨ c = s1.heap.objs.size + 3 ∨ c = s1.heap.objs.size ∨ c = s1.heap.objs.size + 1 := by simpa using hcm
      have hle : s1.heap.objs.size ≤ c := by
        rcases e' with q | q | q | q | q <;> (rw [q]; first | exact Nat.le_refl _ | exact Nat.le_add_right _ _)
      exact I1.fpOk hle (I1.hok.fresh hle)
theorem for_zipx {K : PySem.W.Frag} {z : Str} {a : Addr} {ys : List V} {g : TG} {tb : TS} {D : Ends} {σ : L2.St} {H : Hp} (Pv : Nat → L2.St → Hp → Prop) (h0 : Pv 0 σ H) (hl : ∀ i σ H, Pv i σ H → SqL K H a ys)
    (hs : ∀ i c y T σ H, z.cps[i]? = some c → ys[i]? = some y → H T = none → Pv i σ H → g (.ref T) σ (upd H T (.tup [.str ⟨#[c]⟩, y])) fun σ2 H2 => tb { D with nx := Pv (i + 1), ct := Pv (i + 1), bk := D.nx } σ2 H2)
    (hd : ∀ i σ H, (i = z.cps.size ∨ (i < z.cps.size ∧ i = ys.length)) → Pv i σ H → D.nx σ H) :
    ∃ W : Nat → Nat → L2.St → Hp → Prop, (∃ m, W 0 m σ H) ∧ ∀ i m σ H, W i m σ H →
      ((Itx K z a ys).stop i H ∧ D.nx σ H) ∨ ((Itx K z a ys).go i H ∧ ∃ N : L2.St → Hp → Prop, (∀ σ' H', N σ' H' → ∃ m', m' < m ∧ W (i + 1) m' σ' H') ∧ ∀ x H', (Itx K z a ys).yld i H x H' → g x σ H' fun σ2 H2 => tb { D with nx := N, ct := N, bk := D.nx } σ2 H2) := by
  refine ⟨fun i m σ H => m = z.cps.size - i ∧ i ≤ z.cps.size ∧ i ≤ ys.length ∧ Pv i σ H, ⟨z.cps.size, by simp, Nat.zero_le _, Nat.zero_le _, h0⟩, ?_⟩
  rintro i m σ H ⟨rfl, hi, hj, p⟩
  by_cases hlt : i < z.cps.size ∧ i < ys.length
  · refine .inr ⟨⟨hl i σ H p, hlt⟩, Pv (i + 1), fun σ' H' p' => ⟨z.cps.size - (i + 1), by omega, rfl, by omega, by omega, p'⟩, fun x H' y => ?_⟩
    obtain ⟨T, c, y, e1, hT, e2, hc, hy⟩ := y
    subst e1 e2
    exact hs i c y T σ H hc hy hT p
  · have e : i = z.cps.size ∨ (i < z.cps.size ∧ i = ys.length) := by omega
    exact .inl ⟨⟨hl i σ H p, e⟩, hd i σ H e p⟩
/-- the items of a tuple, numbered -/
def Itn (K : PySem.W.Frag) (a : Addr) (xs : List V) : It :=
  ⟨fun i H => SqT K H a xs ∧ i < xs.length, fun i H v H' => ∃ T x, v = .ref T ∧ H T = none ∧ H' = upd H T (.tup [.int (i : Nat), x]) ∧ xs[i]? = some x, fun i H => SqT K H a xs ∧ i = xs.length⟩
theorem turn_enumx {P : Program} {w : World} {K : PySem.W.Frag} {elts : List Expr} {kk : Nat} {tpos : Pos} {a e it : Addr} {xs : List V} (hei : e ≠ it) (hea : e ≠ a) (hai : a ≠ it) :
    Turn P w K (.Tuple elts kk tpos) (Itn K a xs) [e, it] e (fun i h => (∃ old, IsEnum h e it ((i : Nat) : Int) old) ∧ h.IsTupleIter it a i) where
  mem := by simp
  obj := fun i h st b hb => by
    obtain ⟨⟨old, he⟩, ⟨o, ho, hc, hd⟩⟩ := st
    have e' : b = e ∨ b = it := by simpa using hb
    rcases e' with z | z
    · rw [z]; exact ⟨_, he, fun v q => nomatch q⟩
    · rw [z]; exact ⟨o, ho, fun v q => by rw [hd] at q; cases q⟩
  keep := fun i h h' st k => let ⟨⟨old, he⟩, hi⟩ := st; ⟨⟨old, k e (by simp) _ he⟩, hi.at fun o q => k it (by simp) o q⟩
  item := by
    intro X hP hw hK hc i pins s σ H E I hf st hg
    subst hP hw hK
    obtain ⟨⟨old, he⟩, hit⟩ := st
    obtain ⟨hq, hx⟩ := hg
    obtain ⟨its, rv, p, hz⟩ := I.tuple hq
    have hlen := rv.length
    have hel : e < s.heap.objs.size := Heap.lt_size he
    have hil : it < s.heap.objs.size := by obtain ⟨_, q, _⟩ := hit; exact Heap.lt_size q
    have d1 := Zl.tupD (prog := X.prog) (w := X.w) (A := X.A.in1) (I.ok.hd hc) it a hai its.toArray
    refine wpAny_pyNext_enum_itemD d1 he ⟨hit, p⟩ (by rw [List.size_toArray]; omega) hei (by simp [hei, hea]) fun y h' tk py ho hst hT hsz hk => ?_
    have hy : its[i]? = some y := by simpa using py
    obtain ⟨x, hx1⟩ : ∃ x, xs[i]? = some x := ⟨xs[i], List.getElem?_eq_getElem hx⟩
    obtain ⟨u, hu, ru⟩ := rv.get hx1
    have eu : u = y := Option.some.inj (hu.symm.trans hy)
    subst eu
    refine ⟨_, rfl, wpAny_letOwnedTupleGo_enum (s := { s with heap := h', toks := tk + 1 }) ho fun h'' he' sb => ?_⟩
    have hT2 : h''.get? s.heap.objs.size = some { cls := .type "tuple", data := .seq #[.int i tk, u] } := (sb.2 _ (Nat.ne_of_gt hel)).trans hT
    have new : ObjOk X.prog X.w (upd H s.heap.objs.size (.tup [.int (i : Nat), x])) h'' s.heap.objs.size (.tup [.int (i : Nat), x]) :=
      ⟨by show 2 ≤ sizeLine; decide, [.int i tk, u], .cons ⟨_, rfl⟩ (.cons ru .nil), ⟨_, hT2, rfl, _, rfl⟩⟩
    have I1 : Inv X pins σ (upd H s.heap.objs.size (.tup [.int (i : Nat), x])) { s with heap := h'', toks := tk + 1 } :=
      I.turnedNew (ch := [e, it]) (fun b ob hb q => (sb.2 b (fun z => hb (by simp [z]))).trans (hk b ob (fun z => hb (by simp [z])) (fun z => hb (by simp [z])) q)) hf (Nat.le_refl _) new
    refine ⟨.ref s.heap.objs.size, _, I1, rfl, ⟨_, x, rfl, I.hok.fresh (Nat.le_refl _), rfl, hx1⟩, ⟨⟨u, ?_⟩, hst.1.at fun o q => (sb.2 it hei.symm).trans q⟩, fun b hb => ?_⟩
    · have e1 : ((i + 1 : Nat) : Int) = (i : Int) + 1 := by omega
      rw [e1]; exact he'
    · have hb' : b < s.heap.objs.size := by
        have e' : b = e ∨ b = it := by simpa using hb
        rcases e' with z | z
        · rw [z]; exact hel
        · rw [z]; exact hil
      rw [upd_ne (Nat.ne_of_lt hb')]
      exact (hf b hb).1
  done := by
    intro X hP hw hK hc i pins s σ H E I hf st hg
    subst hP hw hK
    obtain ⟨⟨old, he⟩, hit⟩ := st
    obtain ⟨hq, hx⟩ := hg
    obtain ⟨its, rv, p, hz⟩ := I.tuple hq
    obtain ⟨f0, f1, f2, f3, f4, f5⟩ := hf it (by simp)
    have hl := rv.length
    have hn : i = its.toArray.size := by rw [List.size_toArray]; omega
    subst hn
    have d1 := Zl.tupD (prog := X.prog) (w := X.w) (A := X.A.in1) (I.ok.hd hc) it a hai its.toArray
    exact wpAny_pyNext_enum_endD d1 he ⟨hit, p⟩ fun h' eb => ⟨rfl, I.turned (t' := s.toks) (fun b o hb q => eb b o hb q) f0 f1 f3 f4 f5⟩
  self := fun A i s Q E st h => let ⟨⟨_, he⟩, _⟩ := st; wpAny_pyIter_enum he h
def iEnumx (K : PySem.W.Frag) (ta : TA) : TI := fun σ H R => ta σ H fun vs H1 => ∃ a xs, vs = [.ref a] ∧ SqT K H1 a xs ∧ R (Itn K a xs) H1
theorem pi_enumx {X : Cx} {e : Expr} {ta : TA} {p pos tpos : Pos} {elts : List Expr} {kk : Nat} (hg : Gl X "enumerate") (hm : X.mg "enumerate" = none) (ha : PA X [e] ta) (hs : starEach [e] X.env = [(false, eval e X.env)] := by rfl) :
    PI X (.Tuple elts kk tpos) (.Call (.Name "enumerate" p) [e] [] pos) (iEnumx X.K ta) := by
  intro pins s σ H R I h
  refine Call_ (ld_blt I hg hm boot_enumerate (PyProof.Rows.callWith_type1 (thn (ha pos pins s σ H _ I h) fun us s1 ⟨vs, H1, I1, r1, q1⟩ => ?_) hs rfl))
  obtain ⟨a, xs, ex, hq, q⟩ := q1
  subst ex
  cases r1 with
  | cons r rr =>
    cases rr
    cases r
    obtain ⟨its, rv, p', hz⟩ := I1.tuple hq
    have la : a < s1.heap.objs.size := by obtain ⟨o, ho, _⟩ := p'; exact Heap.lt_size ho
    refine Zl.call_enum p' fun h' he hit hsz hk => wpAny_pyIter_enum he ?_
    have I2 : Inv X pins σ H1 { s1 with heap := h' } := I1.kept (t' := s1.toks) hk
    refine ⟨s1.heap.objs.size + 1, [s1.heap.objs.size + 1, s1.heap.objs.size], _, _, H1, rfl, I2, turn_enumx (a := a) (e := s1.heap.objs.size + 1) (it := s1.heap.objs.size) (Nat.succ_ne_self _) (Nat.ne_of_gt (Nat.lt_succ_of_lt la)) (Nat.ne_of_lt la), ⟨⟨.none, he⟩, hit⟩, fun b hb => ?_, q⟩
    have e' : b = s1.heap.objs.size + 1 ∨ b = s1.heap.objs.size := by simpa using hb
    have hle : s1.heap.objs.size ≤ b := by
      rcases e' with q | q <;> (rw [q]; first | exact Nat.le_refl _ | exact Nat.le_add_right _ _)
    exact I1.fpOk hle (I1.hok.fresh hle)
theorem for_enumx {K : PySem.W.Frag} {a : Addr} {xs : List V} {g : TG} {tb : TS} {D : Ends} {σ : L2.St} {H : Hp} (Pv : Nat → L2.St → Hp → Prop) (h0 : Pv 0 σ H) (hl : ∀ i σ H, Pv i σ H → SqT K H a xs)
    (hs : ∀ i x T σ H, xs[i]? = some x → H T = none → Pv i σ H → g (.ref T) σ (upd H T (.tup [.int (i : Nat), x])) fun σ2 H2 => tb { D with nx := Pv (i + 1), ct := Pv (i + 1), bk := D.nx } σ2 H2)
    (hd : ∀ σ H, Pv xs.length σ H → D.nx σ H) :
    ∃ W : Nat → Nat → L2.St → Hp → Prop, (∃ m, W 0 m σ H) ∧ ∀ i m σ H, W i m σ H →
      ((Itn K a xs).stop i H ∧ D.nx σ H) ∨ ((Itn K a xs).go i H ∧ ∃ N : L2.St → Hp → Prop, (∀ σ' H', N σ' H' → ∃ m', m' < m ∧ W (i + 1) m' σ' H') ∧ ∀ x H', (Itn K a xs).yld i H x H' → g x σ H' fun σ2 H2 => tb { D with nx := N, ct := N, bk := D.nx } σ2 H2) := by
  refine ⟨fun i m σ H => m = xs.length - i ∧ i ≤ xs.length ∧ Pv i σ H, ⟨xs.length, by simp, Nat.zero_le _, h0⟩, ?_⟩
  rintro i m σ H ⟨rfl, hi, p⟩
  by_cases hlt : i < xs.length
  · refine .inr ⟨⟨hl i σ H p, hlt⟩, Pv (i + 1), fun σ' H' p' => ⟨xs.length - (i + 1), by omega, rfl, hlt, p'⟩, fun x H' y => ?_⟩
    obtain ⟨T, y, e1, hT, e2, hy⟩ := y
    subst e1 e2
    exact hs i y T σ H hy hT p
  · have e : i = xs.length := by omega
    subst e
    exact .inl ⟨⟨hl _ σ H p, rfl⟩, hd σ H p⟩
end Zt

set_option maxRecDepth 100000
namespace Tx
open PySem PySem.W PyProof.Rows L2
section
variable {X : Cx} {o e : Expr} {to te : TE}
theorem mt_zfill : MtR X "str.zfill" (fun x xs H Q => ∃ a i, x = .str a ∧ xs = [.int i] ∧ PadOk i = true ∧ Q (.str (Txt.zfill a i)) H) := by
  intro pins s σ H x xs v us Q I rx rs h
  obtain ⟨a, i, rfl, rfl, hp, h⟩ := h
  obtain ⟨t, rfl⟩ := rx
  cases rs with
  | cons r1 rs =>
    cases rs
    obtain ⟨u, rfl⟩ := r1
    exact PySem.SC.zfill hp fun t' k => ⟨.str _, H, I.tok k, ⟨t', rfl⟩, h⟩
theorem pe_zfill {apos pos : Pos} (ho : PE X o to) (he : PE X e te) (hs : starEach [e] X.env = [(false, eval e X.env)] := by rfl) (hbase : attributeBase o "zfill" X.env (eval o X.env) = eval o X.env := by rfl) (hline : (apos.endLine == pos.line) = true := by rfl) :
    PE X (.Call (.Attribute o "zfill" apos) [e] [] pos) (tM1 (fun x xs H Q => ∃ a i, x = .str a ∧ xs = [.int i] ∧ PadOk i = true ∧ Q (.str (Txt.zfill a i)) H) to te) :=
  pe_m1 F.slot_str_zfill F.type_str_zfill mt_zfill ho he hs hbase hline
theorem op_repS : OpR X (binaryOp .Mult) (fun x y H Q => ∃ z n, x = .str z ∧ y = .int n ∧ MulOk z n ∧ Q (.str (Txt.mul z n)) H) := by
  intro pins s σ H x y v u Q I rx ry h
  obtain ⟨z, n, rfl, rfl, hm, q⟩ := h
  obtain ⟨t, rfl⟩ := rx
  obtain ⟨t', rfl⟩ := ry
  exact PySem.SB.mul hm fun t' k => ⟨.str _, H, I.tok k, ⟨t', rfl⟩, q⟩
end
/-- the turns over a text -/
theorem lc_text {x : Str} {g : TG} {tt : TT} {te : TE} {vs : List Nat} {σ : L2.St} {H1 : Hp} {D : Addr} {Qd : Hp → Prop} (Pv : Nat → Hp → Prop) (h0 : Pv 0 (upd H1 D (.lst [])))
    (hs : ∀ i c H, x.cps[i]? = some c → Pv i H → g (.str ⟨#[c]⟩) (wipe σ vs) H fun σ2 H2 => wipe σ2 vs = wipe σ vs ∧ tt σ2 H2 fun b H3 =>
      if b = true then te σ2 H3 fun y H4 => ∃ acc, H4 D = some (.lst acc) ∧ acc.length < sizeLine ∧ Pv (i + 1) (upd H4 D (.lst (acc ++ [y]))) else Pv (i + 1) H3) (hd : ∀ H, Pv x.cps.size H → Qd H) :
    ∃ W : Nat → Nat → Hp → Prop, (∃ m, W 0 m (upd H1 D (.lst []))) ∧ ∀ i m H, W i m H →
      ((Its x).stop i H ∧ Qd H) ∨ ((Its x).go i H ∧ ∃ Nx : Hp → Prop, (∀ H', Nx H' → ∃ m', m' < m ∧ W (i + 1) m' H') ∧ ∀ v H', (Its x).yld i H v H' → g v (wipe σ vs) H' fun σ2 H2 => wipe σ2 vs = wipe σ vs ∧ tt σ2 H2 fun b H3 =>
        if b = true then te σ2 H3 fun y H4 => ∃ acc, H4 D = some (.lst acc) ∧ acc.length < sizeLine ∧ Nx (upd H4 D (.lst (acc ++ [y]))) else Nx H3) := by
  refine ⟨fun i m H => m = x.cps.size - i ∧ i ≤ x.cps.size ∧ Pv i H, ⟨x.cps.size, by simp, Nat.zero_le _, h0⟩, ?_⟩
  rintro i m H ⟨rfl, hi, p⟩
  by_cases hlt : i < x.cps.size
  · refine .inr ⟨hlt, Pv (i + 1), fun H' p' => ⟨x.cps.size - (i + 1), by omega, rfl, hlt, p'⟩, fun v H' y => ?_⟩
    obtain ⟨e1, c, hc, e2⟩ := y
    subst e1 e2
    exact hs i c _ hc p
  · have e : i = x.cps.size := by omega
    subst e
    exact .inl ⟨Nat.le_refl _, hd H p⟩
/-- a reading may be weakened -/
theorem pe_mono {X : Cx} {e : Expr} {te : TE} (he : PE X e te) : PE X e (fun σ H Q => ∃ Q0 : VK, te σ H Q0 ∧ ∀ v H1, Q0 v H1 → Q v H1) := by
  intro pins s σ H Q I h
  obtain ⟨Q0, h, m⟩ := h
  exact thn (he pins s σ H Q0 I h) fun u s1 ⟨v, H1, I1, r, q⟩ => ⟨v, H1, I1, r, m v H1 q⟩
theorem blk {N N0 : List Str} {sc scope : Scope} {x : Str} {i : Nat} (hN : N = N0) (k : scope.kind = .function) (u : ∀ y ∈ scope.names, scope.names.lookup y.1 = some y.2) (hi : N0[i]? = some x)
    (nf : ∀ y ∈ scope.names, y.2 ≠ .free) (ow : ∀ y ∈ scope.names, y.2 = .local ∨ y.2 = .cell → y.1 = x ∨ y.1 ∉ N0) : BlkOk N sc scope [(x, i)] := by
  subst hN
  refine ⟨k, u, fun p hp => ?_, fun y hy h => absurd h (nf y hy), fun y hy h => ?_⟩
  · rw [List.mem_singleton.mp hp]
    exact hi
  · rcases ow y hy h with e | e
    · exact .inl (by simp [e])
    · exact .inr e
/-- [ord(c) for c in text] -/
def tOrds (te : TE) : TE := fun σ H Q => te σ H fun v H1 => ∃ z, v = .str z ∧ z.length ≤ 1000 ∧ ∀ p, H1 p = none → Q (.ref p) (upd H1 p (.lst ((Cal.ords z).map V.int)))
theorem pe_ords {X : Cx} {iter : Expr} {te : TE} {scope : Scope} {pos p1 p2 p3 p4 : Pos} {i : Nat} {x : Str} (hc : X.calm = true) (hN : X.N.Nodup) (he : PE X iter te) (ok : BlkOk X.N X.env.scope scope [(x, i)])
    (hi : X.N[i]? = some x) (hl : ∀ (s : Shared) (H : Hp) (C : Addr) (cl : List (Str × Addr)) (fp : List Addr), (X.blk s H scope (compEnvC scope cl C X.env) fp).env.scope.names.lookup x = some .local)
    (hg : ∀ (s : Shared) (H : Hp) (C : Addr) (cl : List (Str × Addr)) (fp : List Addr), Gl (X.blk s H scope (compEnvC scope cl C X.env) fp) "ord") (hm : X.mg "ord" = none)
    (hv : ∀ (s : Shared) (H : Hp) (C : Addr) (cl : List (Str × Addr)) (fp : List Addr), PE (X.blk s H scope (compEnvC scope cl C X.env) fp) (.Name x p3) (tVar i))
    (hs : ∀ (s : Shared) (H : Hp) (C : Addr) (cl : List (Str × Addr)) (fp : List Addr), starEach [Expr.Name x p3] (X.blk s H scope (compEnvC scope cl C X.env) fp).env = [(false, eval (.Name x p3) (X.blk s H scope (compEnvC scope cl C X.env) fp).env)])
    (hsi : ∀ y, foldedSetIterable iter X.env y = pure y := by intro _; rfl) :
    PE X (.ListComp (.Call (.Name "ord" p1) [.Name x p3] [] p2) [⟨.Name x p4, iter, [], 0⟩] scope pos) (tOrds te) := by
  intro pins s σ H Q I h
  refine pe_lc (own := [(x, i)]) (g := gName i) (tt := tYes) hc hN (pi_str (pe_mono he)) ok (fun s H C cl fp => pg_name hN hi (.inl (hl s H C cl fp)) (.inr (hl s H C cl fp))) (fun s H C cl fp => pts_nil)
    (fun s H C cl fp => pe_callB call_ord (hg s H C cl fp) hm Rd.boot_ord (pa_cons (hv s H C cl fp) pa_nil) (he := hs s H C cl fp)) hsi pins s σ H Q I ?_
  have hlt : i < σ.length := by
    rw [I.len]
    exact (List.getElem?_eq_some_iff.mp hi).1
  refine ⟨_, h, fun v H1 ⟨z, e, hz, q⟩ => ⟨z, e, fun D hD => ?_⟩⟩
  refine lc_text (fun j H' => H' = upd H1 D (.lst (((Cal.ords z).take j).map V.int))) rfl ?_ ?_
  · rintro j c H' hcz rfl
    refine ⟨?_, ?_⟩
    · show (((σ.set i none).set i (some (V.str ⟨#[c]⟩))).set i none) = σ.set i none
      rw [List.set_set, List.set_set]
    · refine ⟨V.str ⟨#[c]⟩, ?_, ⟨#[c]⟩, rfl, rfl, _, upd_same, ?_, ?_⟩
      · show ((σ.set i none).set i (some (V.str ⟨#[c]⟩)))[i]? = some (some (V.str ⟨#[c]⟩))
        rw [List.getElem?_set_self (by rw [List.length_set]; exact hlt)]
      · rw [List.length_map, List.length_take, Cal.ords_len]
        have := sizeLine_eq
        omega
      · rw [upd_upd]
        have e1 : (Cal.ords z)[j]? = some (c : Int) := by
          unfold Cal.ords
          rw [List.getElem?_map, Array.getElem?_toList, hcz]
          rfl
        rw [List.take_add_one, e1, List.map_append]
        rfl
  · rintro H' rfl
    have e2 : (Cal.ords z).take z.cps.size = Cal.ords z := List.take_of_length_le (by rw [Cal.ords_len]; exact Nat.le_refl _)
    rw [e2]
    exact q D hD
end Tx

set_option maxRecDepth 100000
namespace Sa
open PySem PySem.W PySem.Spec PyProof.Rows L2

/-- the one argument, a list of ints, as it lies -/
theorem list_arg {P : Params} {h : Heap} {args : List WData} {vals : List Value} (hs : WShape.hasAll [] args [.list .int] = true) (hw : WellAll P h vals args) :
    ∃ (a : Addr) (its : List Value) (ns : List Int), vals = [Value.ref a] ∧ args = [WData.list (ns.map WData.int)] ∧ h.get? a = some { cls := .type "list", data := .seq its.toArray } ∧ Vals (ns.map V.int) its := by
  obtain ⟨d, r, rfl, h1, h2⟩ := hasAllW_cons hs
  obtain rfl := hasAllW_nil h2
  obtain ⟨xs, rfl, h3⟩ := hasW_list h1
  obtain ⟨ns, rfl⟩ := items_int h3
  cases hw with
  | cons w1 w2 =>
    cases w2
    cases w1 with
    | list ho hall => exact ⟨_, _, ns, rfl, rfl, ho, vals_ints (Att.ints_of_wellAll ns _ hall)⟩

theorem list_call {P : Program} {w : World} {K : PySem.W.Frag} {mg mb : Str → Option Value} {k : Nat} {fa a : Addr} {fd : FuncData} {x : Str} {sp : Sp} {s₁ : Shared} {its : List Value} {ns : List Int} {B : List Int → Prop}
    (KX : K.In s₁.heap) (hns : s₁.heap.Ns mainGlobals mg) (hb : s₁.heap.Ns builtinsNs mb) (hbb : ∀ x : Str, x ≠ "__name__" → mb x = bootBuiltins x) (hlim : s₁.heap.NoLimit) (hg : s₁.gens = #[])
    (hr : Room k callerA) (ha : s₁.heap.get? a = some { cls := .type "list", data := .seq its.toArray }) (rv : Vals (ns.map V.int) its) (hl : ns.length ≤ sizeLine)
    (F : ∀ base : Heap, K.In base → base.Ns mainGlobals mg → FnOk P w K mg base CX0 k fa fd [x] sp) (hbind : BindsTo s₁ fd ⟨[.ref a], []⟩ [(x, .ref a)])
    (hsp : ∀ H : Hp, SqL K H a (ns.map V.int) → sp [.ref a] H (fun v H' => ∃ (b : Addr) (xs : List Int), v = .ref b ∧ H' b = some (.lst (xs.map V.int)) ∧ B xs) E0) :
    codeAny (model P w) callerA (.call (.ref fa) ⟨[.ref a], []⟩) (fun r s' => (∃ (b : Addr) (xs : List Int) (us : List Value) (n : Nat), r = .ok (.ret (.ref b)) ∧ s'.heap.get? b = some { cls := .type "list", data := .seq us.toArray n } ∧ Vals (xs.map V.int) us ∧ B xs) ∧ OldK s₁.heap s'.heap ∧ s'.os = s₁.os ∧ AllBare s'.gens) s₁ := by
  have lenV := rv.length
  rw [List.length_map] at lenV
  -- from a heap in which at most the argument is tracked
  have core : ∀ H : Hp, (∀ b, H b = none ∨ (b = a ∧ ∃ o, H b = some (.frz o (.lst (ns.map V.int))))) → SqL K H a (ns.map V.int) → HOk P w H s₁.heap → (H a ≠ none → K.lookup a = none) →
      codeAny (model P w) callerA (.call (.ref fa) ⟨[.ref a], []⟩) (fun r s' => (∃ (b : Addr) (xs : List Int) (us : List Value) (n : Nat), r = .ok (.ret (.ref b)) ∧ s'.heap.get? b = some { cls := .type "list", data := .seq us.toArray n } ∧ Vals (xs.map V.int) us ∧ B xs) ∧ OldK s₁.heap s'.heap ∧ s'.os = s₁.os ∧ AllBare s'.gens) s₁ := by
    intro H hO hS hok hK
    have hid : ∀ {b : Addr} {o : Obj}, s₁.heap.get? b = some o → H b = none → (hidT s₁.heap H).get? b = some o := fun e n => hidT_get e n
    have noD : ∀ {b : Addr} {o : Obj} {es : Array DictEntry} {ep : Nat}, s₁.heap.get? b = some o → o.data = .dict es ep → H b = none := fun {b o es ep} e d => by
      rcases hO b with z | ⟨z, _⟩
      · exact z
      · subst z
        rw [ha] at e
        cases e
        have d' : Data.seq its.toArray _ = Data.dict es ep := d
        cases d'
    have nsK : ∀ {b : Addr} {m : Str → Option Value}, s₁.heap.Ns b m → (hidT s₁.heap H).Ns b m := fun {b m} ⟨o, es, ep, e, d, r⟩ => ⟨o, es, ep, hid e (noD e d), d, r⟩
    have hKb : K.In (hidT s₁.heap H) := fun b o e => hid (KX b o e) (by
      rcases hO b with z | ⟨z, o', z'⟩
      · exact z
      · subst z
        rw [hK (by rw [z']; simp)] at e
        cases e)
    have hM : Mod K mg (hidT s₁.heap H) := ⟨hKb, nsK hns, ⟨mb, nsK hb, hbb⟩, let ⟨mc, h1, h2⟩ := hlim; ⟨mc, nsK h1, h2⟩⟩
    have e0 : Env0 P w K mg (hidT s₁.heap H) callerA [] s₁ H := ⟨rfl, hM, fun b o e => of_hidT e, Nat.le_of_eq (hidT_size _ _), trivial, fun b hb => absurd (show b ∈ ([] : List Addr) from hb) (by simp), hok, .of_eq hg⟩
    refine codeAny_mono ((F _ hKb (nsK hns)).run callerA [] s₁ H ⟨[.ref a], []⟩ [.ref a] [.ref a] _ _ hr e0 hbind (.cons rfl .nil) (hsp H hS)) fun r s' h => ?_
    cases r with
    | error e => exact False.elim h
    | ok fl =>
      cases fl with
      | next => exact False.elim h
      | brk => exact False.elim h
      | cont => exact False.elim h
      | ret u =>
        obtain ⟨v, H', os, bare, un, hok', r', b, xs, ev, ea, eb⟩ := h
        subst ev
        obtain rfl : u = Value.ref b := r'
        obtain ⟨_, us, n, r1, e1⟩ := hok' b _ ea
        refine ⟨⟨b, xs, us, n, rfl, e1, r1, eb⟩, OldK.of_keep fun c o e => ?_, os, bare⟩
        rcases hO c with z | ⟨_, o', z⟩
        · exact un.keep c o e z (by intro y; exact absurd (show c ∈ ([] : List Addr) from y) (by simp)) (by simp)
        · obtain ⟨f1, _⟩ := hok c _ z
          obtain ⟨f2, _⟩ := hok' c _ (un.frzs c o' _ z)
          rw [e] at f1
          cases f1
          exact f2
  cases hk : K.lookup a with
  | some o =>
    have e := KX a o hk
    rw [ha] at e
    cases e
    exact core (fun _ => none) (fun _ => .inl rfl) (.inr ⟨_, its.toArray, _, hk, rfl, rfl, rfl, by rw [List.size_toArray, ← lenV]; exact hl, by simpa using rv⟩) (fun b u z => by have z' : (none : Option HO) = some u := z; cases z') fun z => absurd rfl z
  | none =>
    refine core (fun b => if b = a then some (.frz { cls := .type "list", data := .seq its.toArray } (.lst (ns.map V.int))) else none) (fun b => ?_) (.inl (.inr ⟨{ cls := .type "list", data := .seq its.toArray }, if_pos rfl⟩)) (fun b u z => ?_) fun _ => hk
    · by_cases hb : b = a
      · exact .inr ⟨hb, _, if_pos hb⟩
      · exact .inl (if_neg hb)
    · by_cases hb : b = a
      · have z' := (if_pos hb).symm.trans z
        cases z'
        subst hb
        exact ⟨ha, by rw [List.length_map]; exact hl, its, _, rv, ha⟩
      · have z' := (if_neg hb).symm.trans z
        cases z'

theorem walk_list {r : OpenSpec} {k : Nat} {q : Program} {loose : List Str} {XP : (Str → Option Value) → Heap → Prop} {YP : World → Heap → Prop} {d : DefRec} {K : Params → PySem.W.Frag} {x : Str} {sp : PySem.W.Frag → Sp}
    (hargs : r.args.map Codec.shape = [.list .int]) (hdf : d.params.defaults = []) (hr : Room k callerA)
    (hY : ∀ (w : World) (h : Heap), YP w h → (K w.params).In h)
    (F : ∀ (w : World) (mg : Str → Option Value) (fa : Addr) (h : Heap), (K w.params).In h → h.Ns mainGlobals mg → mg d.name = some (.ref fa) →
      ∃ fd : FuncData, Binds (K w.params) fd [x] [] ∧
        ∀ base : Heap, (K w.params).In base → base.Ns mainGlobals mg → FnOk r.prog w (K w.params) mg base CX0 k fa fd [x] (sp (K w.params)))
    (hlen : ∀ ns : List Int, r.pre [.list (ns.map .int)] = true → ns.length ≤ sizeLine)
    (hsp : ∀ (ns : List Int) (K : PySem.W.Frag) (a : Addr), r.pre [.list (ns.map .int)] = true → ∀ H : Hp, SqL K H a (ns.map V.int) → sp K [.ref a] H (fun v H' => ∃ (b : Addr) (xs : List Int), v = .ref b ∧ H' b = some (.lst (xs.map V.int)) ∧ r.post [.list (ns.map .int)] (.list (xs.map .int)) = true) E0) :
    WalkOS q loose XP YP r d [] (fun f vs => PySem.call f vs) := by
  intro w s₀ s₁ mg mb G Y fa o pm cd doc dV kV ho hd hcd hD hmg hg args vals as hpre hlay hrd hwl hlo
  have hsh := os_shapes _ hpre
  rw [hargs] at hsh
  obtain ⟨a, its, ns, rfl, rfl, hobj, rv⟩ := list_arg hsh hwl
  have KX := hY w _ Y
  obtain ⟨fd, hbd, hF⟩ := F w mg fa _ KX G.T.g hmg
  have hb := hbd s₁ [.ref a] KX rfl
  refine enter_call (codeAny_mono (list_call (B := fun xs => r.post [.list (ns.map .int)] (.list (xs.map .int)) = true) KX G.T.g G.T.b G.T.builtins G.T.nolimit hg hr hobj rv (hlen ns hpre) hF hb (hsp ns _ a hpre)) fun r' s' hq => ?_)
  obtain ⟨⟨b, xs, us, m, rfl, h1, h2, h3⟩, h4, h5, h6⟩ := hq
  exact ⟨.inl ⟨.ref b, .list (xs.map .int), [b], rfl, fun _ => rfl, .list h1 rfl rfl (by simpa using reads_ints xs h2), h3, fun h => absurd h Bool.false_ne_true⟩, h4, h5, h6⟩
theorem items_ints {lo hi : Int} : ∀ {ns : List Int}, (Codec.decItems (Codec.int lo hi).dec (ns.map WData.int)).isSome = true → Codec.decItems (Codec.int lo hi).dec (ns.map WData.int) = some ns ∧ ∀ x ∈ ns, lo ≤ x ∧ x ≤ hi
  | [], _ => ⟨rfl, fun x hx => nomatch hx⟩
  | n :: ns, h => by
    have e : Codec.decItems (Codec.int lo hi).dec ((n :: ns).map WData.int) = Codec.both List.cons ((Codec.int lo hi).dec (WData.int n)) (Codec.decItems (Codec.int lo hi).dec (ns.map WData.int)) := rfl
    rw [e] at h ⊢
    cases h1 : (Codec.int lo hi).dec (WData.int n) with
    | none => rw [h1] at h; cases h
    | some a =>
      cases h2 : Codec.decItems (Codec.int lo hi).dec (ns.map WData.int) with
      | none => rw [h1, h2] at h; cases h
      | some r =>
        obtain ⟨q1, q2⟩ := dec_int (lo := lo) (hi := hi) (k := n) (by rw [h1]; rfl)
        obtain ⟨q3, q4⟩ := items_ints (lo := lo) (hi := hi) (ns := ns) (by rw [h2]; rfl)
        rw [q1] at h1
        rw [q3] at h2
        cases h1
        cases h2
        refine ⟨rfl, fun x hx => ?_⟩
        rcases List.mem_cons.mp hx with z | z
        · rw [z]; exact q2
        · exact q4 x z
theorem dec_list {least most : Nat} {lo hi : Int} {ns : List Int} (h : ((Codec.list least most (.int lo hi)).dec (WData.list (ns.map WData.int))).isSome = true) :
    (Codec.list least most (.int lo hi)).dec (WData.list (ns.map WData.int)) = some ns ∧ ns.length ≤ most ∧ ∀ x ∈ ns, lo ≤ x ∧ x ≤ hi := by
  have e : (Codec.list least most (.int lo hi)).dec (WData.list (ns.map WData.int)) = if Codec.inLen least most (ns.map WData.int) = true then Codec.decItems (Codec.int lo hi).dec (ns.map WData.int) else none := rfl
  rw [e] at h ⊢
  by_cases g : Codec.inLen least most (ns.map WData.int) = true
  · rw [if_pos g] at h ⊢
    obtain ⟨a, b⟩ := items_ints h
    unfold Codec.inLen Codec.inNat at g
    simp only [Bool.and_eq_true, decide_eq_true_eq, List.length_map] at g
    exact ⟨a, g.2, b⟩
  · rw [if_neg g] at h
    cases h
end Sa

set_option maxRecDepth 100000
local macro_rules | `(tactic| walk_at "look") => `(tactic| (repeat (first | exact L2.upd_same | assumption | refine Rd.keep_upd ?_ (by assumption) | refine Rd.same_at (by assumption) ?_)))
local macro_rules | `(tactic| walk_at "same") => `(tactic| (repeat (first | exact L2.Same.refl _ | assumption | refine Rd.same_upd ?_ (by assumption) | refine L2.Same.trans ?_ (by assumption))))
local macro_rules | `(tactic| walk_at "sq") => `(tactic| (first | (refine L2.SqL.of ?_; walk_at "look"; done) | (repeat (first | assumption | refine Rd.sq_upd ?_ (by assumption) | refine L2.Same.seq (by assumption) ?_))))
local macro_rules | `(tactic| walk_at "sz") => `(tactic| (refine Rd.small ?_; (try simp only [List.length_map, List.length_append, List.length_cons, List.length_nil, L2.len_rep]); first | decide | omega))

namespace Walk
open PySem PySem.W PyProof.Rows L2 Rd
def top (i : Nat) : Stmt := PySem.Challenge.pw_eightcalendars_s10_read.main.body.getD i (.Pass ⟨0, 0, 0, 0⟩)
abbrev s_is_day : Stmt := top 16
abbrev s_gregorian_start : Stmt := top 17
abbrev s_julian_start : Stmt := top 18
abbrev s_hebrew_months_before : Stmt := top 19
abbrev s_hebrew_elapsed : Stmt := top 20
abbrev s_hebrew_start : Stmt := top 21
abbrev s_islamic_start : Stmt := top 22
abbrev s_coptic_start : Stmt := top 23
abbrev s_ethiopian_start : Stmt := top 24
abbrev s_persian_start : Stmt := top 25
abbrev s_weeks_start : Stmt := top 26
abbrev s_year_start : Stmt := top 27
abbrev s_year_of : Stmt := top 28
abbrev s_hebrew_months : Stmt := top 29
abbrev s_month_lengths : Stmt := top 30
abbrev s_day_of : Stmt := top 31
abbrev s_fits : Stmt := top 32
abbrev s_number_in : Stmt := top 33
abbrev s_year_in : Stmt := top 34
abbrev s_day_in : Stmt := top 35
abbrev s_read : Stmt := top 36
def sp_is_day : Sp := fun vs H Q _ => ∃ (v_number : Int), vs = [V.int v_number] ∧ True ∧ Q (.bl (Cal.isd v_number)) H
def sp_gregorian_start : Sp := fun vs H Q _ => ∃ (v_y : Int), vs = [V.int v_y] ∧ True ∧ Q (.int (Kg24.gregorian v_y)) H
def sp_julian_start : Sp := fun vs H Q _ => ∃ (v_y : Int), vs = [V.int v_y] ∧ True ∧ Q (.int ((Kg24.newYear 1) v_y)) H
def sp_hebrew_months_before : Sp := fun vs H Q _ => ∃ (v_y : Int), vs = [V.int v_y] ∧ True ∧ Q (.int (Cal.hmb v_y)) H
def sp_hebrew_elapsed : Sp := fun vs H Q _ => ∃ (v_y : Int), vs = [V.int v_y] ∧ True ∧ Q (.int (Kg24.elapsed v_y)) H
def sp_hebrew_start : Sp := fun vs H Q _ => ∃ (v_y : Int), vs = [V.int v_y] ∧ True ∧ Q (.int ((Kg24.newYear 2) v_y)) H
def sp_islamic_start : Sp := fun vs H Q _ => ∃ (v_y : Int), vs = [V.int v_y] ∧ True ∧ Q (.int ((Kg24.newYear 3) v_y)) H
def sp_coptic_start : Sp := fun vs H Q _ => ∃ (v_y : Int), vs = [V.int v_y] ∧ True ∧ Q (.int ((Kg24.newYear 4) v_y)) H
def sp_ethiopian_start : Sp := fun vs H Q _ => ∃ (v_y : Int), vs = [V.int v_y] ∧ True ∧ Q (.int ((Kg24.newYear 5) v_y)) H
def sp_persian_start : Sp := fun vs H Q _ => ∃ (v_y : Int), vs = [V.int v_y] ∧ True ∧ Q (.int ((Kg24.newYear 6) v_y)) H
def sp_weeks_start : Sp := fun vs H Q _ => ∃ (v_y : Int), vs = [V.int v_y] ∧ True ∧ Q (.int ((Kg24.newYear 7) v_y)) H
def sp_year_start : Sp := fun vs H Q _ => ∃ (v_kind : Int) (v_y : Int), vs = [V.int v_kind, V.int v_y] ∧ True ∧ Q (.int (Cal.ys v_kind v_y)) H
def sp_year_of : Sp := fun vs H Q _ => ∃ (v_kind : Int) (v_number : Int), vs = [V.int v_kind, V.int v_number] ∧ (fun k _ => 0 ≤ k ∧ k ≤ 7) v_kind v_number ∧ ∀ H', Same H H' → Q (.int (Cal.yof v_kind v_number)) H'
def sp_hebrew_months : Sp := fun vs H Q _ => ∃ (v_length : Int), vs = [V.int v_length] ∧ True ∧ Rd.New H Q (Cal.hebMonths v_length)
def sp_month_lengths : Sp := fun vs H Q _ => ∃ (v_kind : Int) (v_y : Int), vs = [V.int v_kind, V.int v_y] ∧ True ∧ Rd.New H Q (Cal.mons v_kind v_y)
def sp_day_of : Sp := fun vs H Q _ => ∃ (v_kind : Int) (v_y : Int) (v_m : Int) (v_d : Int), vs = [V.int v_kind, V.int v_y, V.int v_m, V.int v_d] ∧ True ∧ ∀ H', Same H H' → Q (Rd.ov (Cal.dayO v_kind v_y v_m v_d)) H'
def sp_fits (K : PySem.W.Frag) : Sp := fun vs H Q _ => ∃ (v_form : Str) (r_part : Addr) (v_part : List Int), vs = [V.str v_form, V.ref r_part] ∧ SqL K H r_part (v_part.map V.int) ∧ (fun f _ => f.length ≤ 100) v_form v_part ∧ ∀ H', Same H H' → Q (.bl (Cal.fitS v_form v_part)) H'
def sp_number_in (K : PySem.W.Frag) : Sp := fun vs H Q _ => ∃ (r_digits : Addr) (v_digits : List Int), vs = [V.ref r_digits] ∧ SqL K H r_digits (v_digits.map V.int) ∧ True ∧ ∀ H', Same H H' → Q (.int (Cal.numI v_digits)) H'
def sp_year_in (K : PySem.W.Frag) : Sp := fun vs H Q _ => ∃ (r_part : Addr) (v_part : List Int), vs = [V.ref r_part] ∧ SqL K H r_part (v_part.map V.int) ∧ True ∧ ∀ H', Same H H' → Q (Rd.ov (Cal.yrI v_part)) H'
def sp_day_in (K : PySem.W.Frag) : Sp := fun vs H Q _ => ∃ (v_style : Int) (v_y : Int) (r_part : Addr) (v_part : List Int), vs = [V.int v_style, V.int v_y, V.ref r_part] ∧ SqL K H r_part (v_part.map V.int) ∧ True ∧ ∀ H', Same H H' → Q (Rd.ov (Cal.dyI v_style v_y v_part)) H'
def sp_read (K : PySem.W.Frag) : Sp := fun vs H Q _ => ∃ (r_text : Addr) (v_text : List Int), vs = [V.ref r_text] ∧ SqL K H r_text (v_text.map V.int) ∧ (fun xs => Cal.Byt xs) v_text ∧ Rd.New H Q (Cal.reA v_text)
section
variable {P : Program} {w : World} {K : PySem.W.Frag} {mg : Str → Option Value} {base : Heap}
theorem sc_is_day : FnScope ["number"] ["number"] (defScope s_is_day) := ⟨rfl, rfl, rfl, by decide +kernel, rfl, by decide +kernel, by decide +kernel⟩
set_option maxHeartbeats 4000000 in
theorem ok_is_day (F : Dfn K mg "is_day" s_is_day) (M_LOWEST_DAY : ∃ t, mg "LOWEST_DAY" = some (Value.int (-700000000000) t)) (M_HIGHEST_DAY : ∃ t, mg "HIGHEST_DAY" = some (Value.int (700000000000) t)) : Ok P w K mg base 1 "is_day" ["number"] sp_is_day := by
  obtain ⟨f, fd, F, mF⟩ := F
  obtain ⟨t_LOWEST_DAY, m_LOWEST_DAY⟩ := M_LOWEST_DAY
  obtain ⟨t_HIGHEST_DAY, m_HIGHEST_DAY⟩ := M_HIGHEST_DAY
  refine ⟨f, fd, F.ok sc_is_day (fun vs H Q E h => ?_) (fun cdv A outer s H vs Q E hr h => ?_), F.binds (ps := ["number"]) (fun _ _ _ _ _ _ us hl => match us, hl with | [_], _ => rfl), F.kp, mF, Rd.fun_at F⟩
  · obtain ⟨v_number, rfl, _⟩ := h
    rfl
  obtain ⟨v_number, rfl, hp, q⟩ := h
  refine ⟨_, (pss_one (ps_ret (pe_chain op_le op_le (pe_glob (v := .int (-700000000000)) rfl m_LOWEST_DAY ⟨_, rfl⟩) (pv 0) (pe_glob (v := .int (700000000000)) rfl m_HIGHEST_DAY ⟨_, rfl⟩)))), ?_⟩
  refine ⟨_, rfl, _, _, rfl, rfl, _, rfl, ?_⟩
  refine Rd.iteD (fun h1 => ?_) (fun h1 => ?_)
  · refine ⟨_, _, rfl, rfl, ?_⟩
    refine Rd.finB q ?_
    exact Cal.rng_a (by assumption)
  · refine Rd.finB q ?_
    exact Cal.rng_b (by assumption)
theorem sc_gregorian_start : FnScope ["y", "past"] ["y"] (defScope s_gregorian_start) := ⟨rfl, rfl, rfl, by decide +kernel, rfl, by decide +kernel, by decide +kernel⟩
set_option maxHeartbeats 4000000 in
theorem ok_gregorian_start (F : Dfn K mg "gregorian_start" s_gregorian_start) : Ok P w K mg base 1 "gregorian_start" ["y"] sp_gregorian_start := by
  obtain ⟨f, fd, F, mF⟩ := F
  refine ⟨f, fd, F.ok sc_gregorian_start (fun vs H Q E h => ?_) (fun cdv A outer s H vs Q E hr h => ?_), F.binds (ps := ["y"]) (fun _ _ _ _ _ _ us hl => match us, hl with | [_], _ => rfl), F.kp, mF, Rd.fun_at F⟩
  · obtain ⟨v_y, rfl, _⟩ := h
    rfl
  obtain ⟨v_y, rfl, hp, q⟩ := h
  refine ⟨_, (pss_cons (ps_set (i := 1) sc_gregorian_start.nd rfl (Or.inl rfl) (pe_op op_sub (pv 0) pe_int)) (pss_one (ps_ret (pe_op op_add (pe_op op_add (pe_op op_sub (pe_op op_add (pe_op op_mul pe_int (pv 1)) (pe_op op_fdiv (pv 1) pe_int)) (pe_op op_fdiv (pv 1) pe_int)) (pe_op op_fdiv (pv 1) pe_int)) pe_int)))), ?_⟩
  refine ⟨_, rfl, _, _, rfl, rfl, _, rfl, _, _, rfl, rfl, (.inl ⟨by decide, by decide⟩), _, rfl, _, _, rfl, rfl, ⟨by decide, by decide⟩, _, _, rfl, rfl, _, rfl, _, _, rfl, rfl, ⟨by decide, by decide⟩, _, _, rfl, rfl, _, rfl, _, _, rfl, rfl, ⟨by decide, by decide⟩, _, _, rfl, rfl, _, _, rfl, rfl, ?_⟩
  refine Rd.finI q ?_
  exact (Cal.gregorian_eq _).symm
theorem sc_julian_start : FnScope ["y", "past"] ["y"] (defScope s_julian_start) := ⟨rfl, rfl, rfl, by decide +kernel, rfl, by decide +kernel, by decide +kernel⟩
set_option maxHeartbeats 4000000 in
theorem ok_julian_start (F : Dfn K mg "julian_start" s_julian_start) : Ok P w K mg base 1 "julian_start" ["y"] sp_julian_start := by
  obtain ⟨f, fd, F, mF⟩ := F
  refine ⟨f, fd, F.ok sc_julian_start (fun vs H Q E h => ?_) (fun cdv A outer s H vs Q E hr h => ?_), F.binds (ps := ["y"]) (fun _ _ _ _ _ _ us hl => match us, hl with | [_], _ => rfl), F.kp, mF, Rd.fun_at F⟩
  · obtain ⟨v_y, rfl, _⟩ := h
    rfl
  obtain ⟨v_y, rfl, hp, q⟩ := h
  refine ⟨_, (pss_cons (ps_set (i := 1) sc_julian_start.nd rfl (Or.inl rfl) (pe_op op_sub (pv 0) pe_int)) (pss_one (ps_ret (pe_op op_sub (pe_op op_add (pe_op op_mul pe_int (pv 1)) (pe_op op_fdiv (pv 1) pe_int)) pe_int)))), ?_⟩
  refine ⟨_, rfl, _, _, rfl, rfl, _, rfl, _, _, rfl, rfl, (.inl ⟨by decide, by decide⟩), _, rfl, _, _, rfl, rfl, ⟨by decide, by decide⟩, _, _, rfl, rfl, _, _, rfl, rfl, ?_⟩
  refine Rd.finI q ?_
  exact (Cal.new1 _).symm
theorem sc_hebrew_months_before : FnScope ["y"] ["y"] (defScope s_hebrew_months_before) := ⟨rfl, rfl, rfl, by decide +kernel, rfl, by decide +kernel, by decide +kernel⟩
set_option maxHeartbeats 4000000 in
theorem ok_hebrew_months_before (F : Dfn K mg "hebrew_months_before" s_hebrew_months_before) : Ok P w K mg base 1 "hebrew_months_before" ["y"] sp_hebrew_months_before := by
  obtain ⟨f, fd, F, mF⟩ := F
  refine ⟨f, fd, F.ok sc_hebrew_months_before (fun vs H Q E h => ?_) (fun cdv A outer s H vs Q E hr h => ?_), F.binds (ps := ["y"]) (fun _ _ _ _ _ _ us hl => match us, hl with | [_], _ => rfl), F.kp, mF, Rd.fun_at F⟩
  · obtain ⟨v_y, rfl, _⟩ := h
    rfl
  obtain ⟨v_y, rfl, hp, q⟩ := h
  refine ⟨_, (pss_one (ps_ret (pe_op op_fdiv (pe_op op_sub (pe_op op_mul pe_int (pv 0)) pe_int) pe_int))), ?_⟩
  refine ⟨_, rfl, _, _, rfl, rfl, (.inl ⟨by decide, by decide⟩), _, _, rfl, rfl, _, _, rfl, rfl, ⟨by decide, by decide⟩, ?_⟩
  refine Rd.finI q ?_
  rfl
theorem sc_hebrew_elapsed : FnScope ["y", "months", "days"] ["y"] (defScope s_hebrew_elapsed) := ⟨rfl, rfl, rfl, by decide +kernel, rfl, by decide +kernel, by decide +kernel⟩
set_option maxHeartbeats 4000000 in
theorem ok_hebrew_elapsed (F : Dfn K mg "hebrew_elapsed" s_hebrew_elapsed) (C_hebrew_months_before : Ok P w K mg base 1 "hebrew_months_before" ["y"] sp_hebrew_months_before) : Ok P w K mg base 2 "hebrew_elapsed" ["y"] sp_hebrew_elapsed := by
  obtain ⟨f, fd, F, mF⟩ := F
  obtain ⟨f_hebrew_months_before, fd_hebrew_months_before, G_hebrew_months_before, b_hebrew_months_before, kp_hebrew_months_before, m_hebrew_months_before, _⟩ := C_hebrew_months_before
  refine ⟨f, fd, F.ok sc_hebrew_elapsed (fun vs H Q E h => ?_) (fun cdv A outer s H vs Q E hr h => ?_), F.binds (ps := ["y"]) (fun _ _ _ _ _ _ us hl => match us, hl with | [_], _ => rfl), F.kp, mF, Rd.fun_at F⟩
  · obtain ⟨v_y, rfl, _⟩ := h
    rfl
  obtain ⟨v_y, rfl, hp, q⟩ := h
  refine ⟨_, (pss_cons (ps_set (i := 1) sc_hebrew_elapsed.nd rfl (Or.inl rfl) (pe_call G_hebrew_months_before (hr.mono (by decide)) rfl m_hebrew_months_before kp_hebrew_months_before b_hebrew_months_before .nil pass0 (pa_cons (pv 0) pa_nil))) (pss_cons (ps_set (i := 2) sc_hebrew_elapsed.nd rfl (Or.inl rfl) (pe_op op_add (pe_op op_mul pe_int (pv 1)) (pe_op op_fdiv (pe_op op_add pe_int (pe_op op_mul pe_int (pv 1))) pe_int))) (pss_cons (ps_if (pt_cmpR op_lt (pe_op op_mod (pe_op op_mul pe_int (pe_op op_add (pv 2) pe_int)) pe_int) pe_int (nomark _)) (pss_one (ps_ret (pe_op op_add (pv 2) pe_int))) pss_nil) (pss_one (ps_ret (pv 2)))))), ?_⟩
  refine ⟨_, rfl, _, rfl, trivial, _, rfl, _, _, rfl, rfl, (.inl ⟨by decide, by decide⟩), _, rfl, _, _, rfl, rfl, (.inl ⟨by decide, by decide⟩), _, _, rfl, rfl, _, _, rfl, rfl, ⟨by decide, by decide⟩, _, _, rfl, rfl, _, rfl, _, _, rfl, rfl, _, _, rfl, rfl, (.inl ⟨by decide, by decide⟩), _, _, rfl, rfl, (by show (0 : Int) < 7; first | decide | omega), _, _, rfl, rfl, _, rfl, ?_⟩
  refine Rd.iteD (fun h1 => ?_) (fun h1 => ?_)
  · refine ⟨_, rfl, _, _, rfl, rfl, ?_⟩
    refine Rd.finI q ?_
    rw [Cal.el_h, if_pos (by assumption)]
  · refine ⟨_, rfl, ?_⟩
    refine Rd.finI q ?_
    rw [Cal.el_h, if_neg (by assumption)]
theorem sc_hebrew_start : FnScope ["y", "elapsed", "start"] ["y"] (defScope s_hebrew_start) := ⟨rfl, rfl, rfl, by decide +kernel, rfl, by decide +kernel, by decide +kernel⟩
set_option maxHeartbeats 4000000 in
theorem ok_hebrew_start (F : Dfn K mg "hebrew_start" s_hebrew_start) (C_hebrew_elapsed : Ok P w K mg base 2 "hebrew_elapsed" ["y"] sp_hebrew_elapsed) : Ok P w K mg base 3 "hebrew_start" ["y"] sp_hebrew_start := by
  obtain ⟨f, fd, F, mF⟩ := F
  obtain ⟨f_hebrew_elapsed, fd_hebrew_elapsed, G_hebrew_elapsed, b_hebrew_elapsed, kp_hebrew_elapsed, m_hebrew_elapsed, _⟩ := C_hebrew_elapsed
  refine ⟨f, fd, F.ok sc_hebrew_start (fun vs H Q E h => ?_) (fun cdv A outer s H vs Q E hr h => ?_), F.binds (ps := ["y"]) (fun _ _ _ _ _ _ us hl => match us, hl with | [_], _ => rfl), F.kp, mF, Rd.fun_at F⟩
  · obtain ⟨v_y, rfl, _⟩ := h
    rfl
  obtain ⟨v_y, rfl, hp, q⟩ := h
  refine ⟨_, (pss_cons (ps_set (i := 1) sc_hebrew_start.nd rfl (Or.inl rfl) (pe_call G_hebrew_elapsed (hr.mono (by decide)) rfl m_hebrew_elapsed kp_hebrew_elapsed b_hebrew_elapsed .nil pass0 (pa_cons (pv 0) pa_nil))) (pss_cons (ps_set (i := 2) sc_hebrew_start.nd rfl (Or.inl rfl) (pe_op op_add (pe_un un_neg pe_int) (pv 1))) (pss_cons (ps_if (pt_cmpR op_eq (pe_op op_sub (pe_call G_hebrew_elapsed (hr.mono (by decide)) rfl m_hebrew_elapsed kp_hebrew_elapsed b_hebrew_elapsed .nil pass0 (pa_cons (pe_op op_add (pv 0) pe_int) pa_nil)) (pv 1)) pe_int (nomark _)) (pss_one (ps_ret (pe_op op_add (pv 2) pe_int))) pss_nil) (pss_cons (ps_if (pt_cmpR op_eq (pe_op op_sub (pv 1) (pe_call G_hebrew_elapsed (hr.mono (by decide)) rfl m_hebrew_elapsed kp_hebrew_elapsed b_hebrew_elapsed .nil pass0 (pa_cons (pe_op op_sub (pv 0) pe_int) pa_nil))) pe_int (nomark _)) (pss_one (ps_ret (pe_op op_add (pv 2) pe_int))) pss_nil) (pss_one (ps_ret (pv 2))))))), ?_⟩
  refine ⟨_, rfl, _, rfl, trivial, _, rfl, _, rfl, _, _, rfl, rfl, _, rfl, _, _, rfl, rfl, _, rfl, trivial, _, rfl, _, _, rfl, rfl, rfl, _, rfl, ?_⟩
  refine Rd.iteE (fun h1 => ?_) (fun h1 => ?_)
  · refine ⟨_, rfl, _, _, rfl, rfl, ?_⟩
    refine Rd.finI q ?_
    rw [Cal.he2]
    split <;> omega
  · refine ⟨_, rfl, _, rfl, _, _, rfl, rfl, _, rfl, trivial, _, _, rfl, rfl, rfl, _, rfl, ?_⟩
    refine Rd.iteE (fun h2 => ?_) (fun h2 => ?_)
    · refine ⟨_, rfl, _, _, rfl, rfl, ?_⟩
      refine Rd.finI q ?_
      rw [Cal.he2]
      split <;> omega
    · refine ⟨_, rfl, ?_⟩
      refine Rd.finI q ?_
      rw [Cal.he2]
      split <;> omega
theorem sc_islamic_start : FnScope ["y"] ["y"] (defScope s_islamic_start) := ⟨rfl, rfl, rfl, by decide +kernel, rfl, by decide +kernel, by decide +kernel⟩
set_option maxHeartbeats 4000000 in
theorem ok_islamic_start (F : Dfn K mg "islamic_start" s_islamic_start) : Ok P w K mg base 1 "islamic_start" ["y"] sp_islamic_start := by
  obtain ⟨f, fd, F, mF⟩ := F
  refine ⟨f, fd, F.ok sc_islamic_start (fun vs H Q E h => ?_) (fun cdv A outer s H vs Q E hr h => ?_), F.binds (ps := ["y"]) (fun _ _ _ _ _ _ us hl => match us, hl with | [_], _ => rfl), F.kp, mF, Rd.fun_at F⟩
  · obtain ⟨v_y, rfl, _⟩ := h
    rfl
  obtain ⟨v_y, rfl, hp, q⟩ := h
  refine ⟨_, (pss_one (ps_ret (pe_op op_add (pe_op op_add pe_int (pe_op op_mul pe_int (pe_op op_sub (pv 0) pe_int))) (pe_op op_fdiv (pe_op op_add pe_int (pe_op op_mul pe_int (pv 0))) pe_int)))), ?_⟩
  refine ⟨_, rfl, _, _, rfl, rfl, _, _, rfl, rfl, (.inl ⟨by decide, by decide⟩), _, _, rfl, rfl, _, rfl, _, _, rfl, rfl, (.inl ⟨by decide, by decide⟩), _, _, rfl, rfl, _, _, rfl, rfl, ⟨by decide, by decide⟩, _, _, rfl, rfl, ?_⟩
  refine Rd.finI q ?_
  exact (Cal.new3 _).symm
theorem sc_coptic_start : FnScope ["y"] ["y"] (defScope s_coptic_start) := ⟨rfl, rfl, rfl, by decide +kernel, rfl, by decide +kernel, by decide +kernel⟩
set_option maxHeartbeats 4000000 in
theorem ok_coptic_start (F : Dfn K mg "coptic_start" s_coptic_start) : Ok P w K mg base 1 "coptic_start" ["y"] sp_coptic_start := by
  obtain ⟨f, fd, F, mF⟩ := F
  refine ⟨f, fd, F.ok sc_coptic_start (fun vs H Q E h => ?_) (fun cdv A outer s H vs Q E hr h => ?_), F.binds (ps := ["y"]) (fun _ _ _ _ _ _ us hl => match us, hl with | [_], _ => rfl), F.kp, mF, Rd.fun_at F⟩
  · obtain ⟨v_y, rfl, _⟩ := h
    rfl
  obtain ⟨v_y, rfl, hp, q⟩ := h
  refine ⟨_, (pss_one (ps_ret (pe_op op_add (pe_op op_add pe_int (pe_op op_mul pe_int (pe_op op_sub (pv 0) pe_int))) (pe_op op_fdiv (pv 0) pe_int)))), ?_⟩
  refine ⟨_, rfl, _, _, rfl, rfl, _, _, rfl, rfl, (.inl ⟨by decide, by decide⟩), _, _, rfl, rfl, _, rfl, _, _, rfl, rfl, ⟨by decide, by decide⟩, _, _, rfl, rfl, ?_⟩
  refine Rd.finI q ?_
  exact (Cal.new4 _).symm
theorem sc_ethiopian_start : FnScope ["y"] ["y"] (defScope s_ethiopian_start) := ⟨rfl, rfl, rfl, by decide +kernel, rfl, by decide +kernel, by decide +kernel⟩
set_option maxHeartbeats 4000000 in
theorem ok_ethiopian_start (F : Dfn K mg "ethiopian_start" s_ethiopian_start) : Ok P w K mg base 1 "ethiopian_start" ["y"] sp_ethiopian_start := by
  obtain ⟨f, fd, F, mF⟩ := F
  refine ⟨f, fd, F.ok sc_ethiopian_start (fun vs H Q E h => ?_) (fun cdv A outer s H vs Q E hr h => ?_), F.binds (ps := ["y"]) (fun _ _ _ _ _ _ us hl => match us, hl with | [_], _ => rfl), F.kp, mF, Rd.fun_at F⟩
  · obtain ⟨v_y, rfl, _⟩ := h
    rfl
  obtain ⟨v_y, rfl, hp, q⟩ := h
  refine ⟨_, (pss_one (ps_ret (pe_op op_add (pe_op op_add pe_int (pe_op op_mul pe_int (pe_op op_sub (pv 0) pe_int))) (pe_op op_fdiv (pv 0) pe_int)))), ?_⟩
  refine ⟨_, rfl, _, _, rfl, rfl, _, _, rfl, rfl, (.inl ⟨by decide, by decide⟩), _, _, rfl, rfl, _, rfl, _, _, rfl, rfl, ⟨by decide, by decide⟩, _, _, rfl, rfl, ?_⟩
  refine Rd.finI q ?_
  exact (Cal.new5 _).symm
theorem sc_persian_start : FnScope ["y", "past", "z"] ["y"] (defScope s_persian_start) := ⟨rfl, rfl, rfl, by decide +kernel, rfl, by decide +kernel, by decide +kernel⟩
set_option maxHeartbeats 4000000 in
theorem ok_persian_start (F : Dfn K mg "persian_start" s_persian_start) : Ok P w K mg base 1 "persian_start" ["y"] sp_persian_start := by
  obtain ⟨f, fd, F, mF⟩ := F
  refine ⟨f, fd, F.ok sc_persian_start (fun vs H Q E h => ?_) (fun cdv A outer s H vs Q E hr h => ?_), F.binds (ps := ["y"]) (fun _ _ _ _ _ _ us hl => match us, hl with | [_], _ => rfl), F.kp, mF, Rd.fun_at F⟩
  · obtain ⟨v_y, rfl, _⟩ := h
    rfl
  obtain ⟨v_y, rfl, hp, q⟩ := h
  refine ⟨_, (pss_cons (ps_set (i := 1) sc_persian_start.nd rfl (Or.inl rfl) (pe_op op_sub (pv 0) pe_int)) (pss_cons (ps_set (i := 2) sc_persian_start.nd rfl (Or.inl rfl) (pe_op op_add (pe_op op_mod (pv 1) pe_int) pe_int)) (pss_one (ps_ret (pe_op op_add (pe_op op_add (pe_op op_add pe_int (pe_op op_mul pe_int (pe_op op_fdiv (pv 1) pe_int))) (pe_op op_mul pe_int (pe_op op_sub (pv 2) pe_int))) (pe_op op_fdiv (pe_op op_sub (pe_op op_mul pe_int (pv 2)) pe_int) pe_int)))))), ?_⟩
  refine ⟨_, rfl, _, _, rfl, rfl, _, rfl, _, _, rfl, rfl, (by show (0 : Int) < 2820; first | decide | omega), _, _, rfl, rfl, _, rfl, _, _, rfl, rfl, ⟨by decide, by decide⟩, _, _, rfl, rfl, (.inl ⟨by decide, by decide⟩), _, _, rfl, rfl, _, rfl, _, _, rfl, rfl, _, _, rfl, rfl, (.inl ⟨by decide, by decide⟩), _, _, rfl, rfl, _, rfl, _, _, rfl, rfl, (.inl ⟨by decide, by decide⟩), _, _, rfl, rfl, _, _, rfl, rfl, ⟨by decide, by decide⟩, _, _, rfl, rfl, ?_⟩
  refine Rd.finI q ?_
  exact (Cal.new6 _).symm
theorem sc_weeks_start : FnScope ["y", "fourth"] ["y"] (defScope s_weeks_start) := ⟨rfl, rfl, rfl, by decide +kernel, rfl, by decide +kernel, by decide +kernel⟩
set_option maxHeartbeats 4000000 in
theorem ok_weeks_start (F : Dfn K mg "weeks_start" s_weeks_start) (C_gregorian_start : Ok P w K mg base 1 "gregorian_start" ["y"] sp_gregorian_start) : Ok P w K mg base 2 "weeks_start" ["y"] sp_weeks_start := by
  obtain ⟨f, fd, F, mF⟩ := F
  obtain ⟨f_gregorian_start, fd_gregorian_start, G_gregorian_start, b_gregorian_start, kp_gregorian_start, m_gregorian_start, _⟩ := C_gregorian_start
  refine ⟨f, fd, F.ok sc_weeks_start (fun vs H Q E h => ?_) (fun cdv A outer s H vs Q E hr h => ?_), F.binds (ps := ["y"]) (fun _ _ _ _ _ _ us hl => match us, hl with | [_], _ => rfl), F.kp, mF, Rd.fun_at F⟩
  · obtain ⟨v_y, rfl, _⟩ := h
    rfl
  obtain ⟨v_y, rfl, hp, q⟩ := h
  refine ⟨_, (pss_cons (ps_set (i := 1) sc_weeks_start.nd rfl (Or.inl rfl) (pe_op op_add (pe_call G_gregorian_start (hr.mono (by decide)) rfl m_gregorian_start kp_gregorian_start b_gregorian_start .nil pass0 (pa_cons (pv 0) pa_nil)) pe_int)) (pss_one (ps_ret (pe_op op_sub (pv 1) (pe_op op_mod (pe_op op_sub (pv 1) pe_int) pe_int))))), ?_⟩
  refine ⟨_, rfl, _, rfl, trivial, _, _, rfl, rfl, _, rfl, _, rfl, _, _, rfl, rfl, _, _, rfl, rfl, (by show (0 : Int) < 7; first | decide | omega), _, _, rfl, rfl, ?_⟩
  refine Rd.finI q ?_
  exact (Cal.weeks_e _).symm
theorem sc_year_start : FnScope ["kind", "y"] ["kind", "y"] (defScope s_year_start) := ⟨rfl, rfl, rfl, by decide +kernel, rfl, by decide +kernel, by decide +kernel⟩
set_option maxHeartbeats 4000000 in
theorem ok_year_start (F : Dfn K mg "year_start" s_year_start) (C_gregorian_start : Ok P w K mg base 1 "gregorian_start" ["y"] sp_gregorian_start) (C_julian_start : Ok P w K mg base 1 "julian_start" ["y"] sp_julian_start) (C_hebrew_start : Ok P w K mg base 3 "hebrew_start" ["y"] sp_hebrew_start) (C_islamic_start : Ok P w K mg base 1 "islamic_start" ["y"] sp_islamic_start) (C_coptic_start : Ok P w K mg base 1 "coptic_start" ["y"] sp_coptic_start) (C_ethiopian_start : Ok P w K mg base 1 "ethiopian_start" ["y"] sp_ethiopian_start) (C_persian_start : Ok P w K mg base 1 "persian_start" ["y"] sp_persian_start) (C_weeks_start : Ok P w K mg base 2 "weeks_start" ["y"] sp_weeks_start) (M_GREGORIAN : ∃ t, mg "GREGORIAN" = some (Value.int (0) t)) (M_JULIAN : ∃ t, mg "JULIAN" = some (Value.int (1) t)) (M_HEBREW : ∃ t, mg "HEBREW" = some (Value.int (2) t)) (M_ISLAMIC : ∃ t, mg "ISLAMIC" = some (Value.int (3) t)) (M_COPTIC : ∃ t, mg "COPTIC" = some (Value.int (4) t)) (M_ETHIOPIAN : ∃ t, mg "ETHIOPIAN" = some (Value.int (5) t)) (M_PERSIAN : ∃ t, mg "PERSIAN" = some (Value.int (6) t)) : Ok P w K mg base 4 "year_start" ["kind", "y"] sp_year_start := by
  obtain ⟨f, fd, F, mF⟩ := F
  obtain ⟨f_gregorian_start, fd_gregorian_start, G_gregorian_start, b_gregorian_start, kp_gregorian_start, m_gregorian_start, _⟩ := C_gregorian_start
  obtain ⟨f_julian_start, fd_julian_start, G_julian_start, b_julian_start, kp_julian_start, m_julian_start, _⟩ := C_julian_start
  obtain ⟨f_hebrew_start, fd_hebrew_start, G_hebrew_start, b_hebrew_start, kp_hebrew_start, m_hebrew_start, _⟩ := C_hebrew_start
  obtain ⟨f_islamic_start, fd_islamic_start, G_islamic_start, b_islamic_start, kp_islamic_start, m_islamic_start, _⟩ := C_islamic_start
  obtain ⟨f_coptic_start, fd_coptic_start, G_coptic_start, b_coptic_start, kp_coptic_start, m_coptic_start, _⟩ := C_coptic_start
  obtain ⟨f_ethiopian_start, fd_ethiopian_start, G_ethiopian_start, b_ethiopian_start, kp_ethiopian_start, m_ethiopian_start, _⟩ := C_ethiopian_start
  obtain ⟨f_persian_start, fd_persian_start, G_persian_start, b_persian_start, kp_persian_start, m_persian_start, _⟩ := C_persian_start
  obtain ⟨f_weeks_start, fd_weeks_start, G_weeks_start, b_weeks_start, kp_weeks_start, m_weeks_start, _⟩ := C_weeks_start
  obtain ⟨t_GREGORIAN, m_GREGORIAN⟩ := M_GREGORIAN
  obtain ⟨t_JULIAN, m_JULIAN⟩ := M_JULIAN
  obtain ⟨t_HEBREW, m_HEBREW⟩ := M_HEBREW
  obtain ⟨t_ISLAMIC, m_ISLAMIC⟩ := M_ISLAMIC
  obtain ⟨t_COPTIC, m_COPTIC⟩ := M_COPTIC
  obtain ⟨t_ETHIOPIAN, m_ETHIOPIAN⟩ := M_ETHIOPIAN
  obtain ⟨t_PERSIAN, m_PERSIAN⟩ := M_PERSIAN
  refine ⟨f, fd, F.ok sc_year_start (fun vs H Q E h => ?_) (fun cdv A outer s H vs Q E hr h => ?_), F.binds (ps := ["kind", "y"]) (fun _ _ _ _ _ _ us hl => match us, hl with | [_, _], _ => rfl), F.kp, mF, Rd.fun_at F⟩
  · obtain ⟨v_kind, v_y, rfl, _⟩ := h
    rfl
  obtain ⟨v_kind, v_y, rfl, hp, q⟩ := h
  refine ⟨_, (pss_cons (ps_if (pt_cmpR op_eq (pv 0) (pe_glob (v := .int (0)) rfl m_GREGORIAN ⟨_, rfl⟩) (nomark _)) (pss_one (ps_ret (pe_call G_gregorian_start (hr.mono (by decide)) rfl m_gregorian_start kp_gregorian_start b_gregorian_start .nil pass0 (pa_cons (pv 1) pa_nil)))) pss_nil) (pss_cons (ps_if (pt_cmpR op_eq (pv 0) (pe_glob (v := .int (1)) rfl m_JULIAN ⟨_, rfl⟩) (nomark _)) (pss_one (ps_ret (pe_call G_julian_start (hr.mono (by decide)) rfl m_julian_start kp_julian_start b_julian_start .nil pass0 (pa_cons (pv 1) pa_nil)))) pss_nil) (pss_cons (ps_if (pt_cmpR op_eq (pv 0) (pe_glob (v := .int (2)) rfl m_HEBREW ⟨_, rfl⟩) (nomark _)) (pss_one (ps_ret (pe_call G_hebrew_start (hr.mono (by decide)) rfl m_hebrew_start kp_hebrew_start b_hebrew_start .nil pass0 (pa_cons (pv 1) pa_nil)))) pss_nil) (pss_cons (ps_if (pt_cmpR op_eq (pv 0) (pe_glob (v := .int (3)) rfl m_ISLAMIC ⟨_, rfl⟩) (nomark _)) (pss_one (ps_ret (pe_call G_islamic_start (hr.mono (by decide)) rfl m_islamic_start kp_islamic_start b_islamic_start .nil pass0 (pa_cons (pv 1) pa_nil)))) pss_nil) (pss_cons (ps_if (pt_cmpR op_eq (pv 0) (pe_glob (v := .int (4)) rfl m_COPTIC ⟨_, rfl⟩) (nomark _)) (pss_one (ps_ret (pe_call G_coptic_start (hr.mono (by decide)) rfl m_coptic_start kp_coptic_start b_coptic_start .nil pass0 (pa_cons (pv 1) pa_nil)))) pss_nil) (pss_cons (ps_if (pt_cmpR op_eq (pv 0) (pe_glob (v := .int (5)) rfl m_ETHIOPIAN ⟨_, rfl⟩) (nomark _)) (pss_one (ps_ret (pe_call G_ethiopian_start (hr.mono (by decide)) rfl m_ethiopian_start kp_ethiopian_start b_ethiopian_start .nil pass0 (pa_cons (pv 1) pa_nil)))) pss_nil) (pss_cons (ps_if (pt_cmpR op_eq (pv 0) (pe_glob (v := .int (6)) rfl m_PERSIAN ⟨_, rfl⟩) (nomark _)) (pss_one (ps_ret (pe_call G_persian_start (hr.mono (by decide)) rfl m_persian_start kp_persian_start b_persian_start .nil pass0 (pa_cons (pv 1) pa_nil)))) pss_nil) (pss_one (ps_ret (pe_call G_weeks_start (hr.mono (by decide)) rfl m_weeks_start kp_weeks_start b_weeks_start .nil pass0 (pa_cons (pv 1) pa_nil))))))))))), ?_⟩
  refine ⟨_, rfl, rfl, _, rfl, ?_⟩
  refine Rd.iteE (fun h1 => ?_) (fun h1 => ?_)
  · refine ⟨_, rfl, _, rfl, trivial, ?_⟩
    refine Rd.finI q ?_
    subst_vars
    rfl
  · refine ⟨_, rfl, rfl, _, rfl, ?_⟩
    refine Rd.iteE (fun h2 => ?_) (fun h2 => ?_)
    · refine ⟨_, rfl, _, rfl, trivial, ?_⟩
      refine Rd.finI q ?_
      subst_vars
      rfl
    · refine ⟨_, rfl, rfl, _, rfl, ?_⟩
      refine Rd.iteE (fun h3 => ?_) (fun h3 => ?_)
      · refine ⟨_, rfl, _, rfl, trivial, ?_⟩
        refine Rd.finI q ?_
        subst_vars
        rfl
      · refine ⟨_, rfl, rfl, _, rfl, ?_⟩
        refine Rd.iteE (fun h4 => ?_) (fun h4 => ?_)
        · refine ⟨_, rfl, _, rfl, trivial, ?_⟩
          refine Rd.finI q ?_
          subst_vars
          rfl
        · refine ⟨_, rfl, rfl, _, rfl, ?_⟩
          refine Rd.iteE (fun h5 => ?_) (fun h5 => ?_)
          · refine ⟨_, rfl, _, rfl, trivial, ?_⟩
            refine Rd.finI q ?_
            subst_vars
            rfl
          · refine ⟨_, rfl, rfl, _, rfl, ?_⟩
            refine Rd.iteE (fun h6 => ?_) (fun h6 => ?_)
            · refine ⟨_, rfl, _, rfl, trivial, ?_⟩
              refine Rd.finI q ?_
              subst_vars
              rfl
            · refine ⟨_, rfl, rfl, _, rfl, ?_⟩
              refine Rd.iteE (fun h7 => ?_) (fun h7 => ?_)
              · refine ⟨_, rfl, _, rfl, trivial, ?_⟩
                refine Rd.finI q ?_
                subst_vars
                rfl
              · refine ⟨_, rfl, _, rfl, trivial, ?_⟩
                refine Rd.finI q ?_
                unfold Cal.ys
                rw [if_neg (by omega)]
theorem sc_year_of : FnScope ["kind", "number", "mean", "y"] ["kind", "number"] (defScope s_year_of) := ⟨rfl, rfl, rfl, by decide +kernel, rfl, by decide +kernel, by decide +kernel⟩
set_option maxHeartbeats 4000000 in
theorem ok_year_of (F : Dfn K mg "year_of" s_year_of) (C_year_start : Ok P w K mg base 4 "year_start" ["kind", "y"] sp_year_start) (M_MEAN_YEARS : TupsAt K mg "MEAN_YEARS" [[146097, 400], [1461, 4], [35975351, 98496], [10631, 30], [1461, 4], [1461, 4], [1029983, 2820], [146097, 400]]) : Ok P w K mg base 5 "year_of" ["kind", "number"] sp_year_of := by
  obtain ⟨f, fd, F, mF⟩ := F
  obtain ⟨f_year_start, fd_year_start, G_year_start, b_year_start, kp_year_start, m_year_start, _⟩ := C_year_start
  obtain ⟨a_MEAN_YEARS, as_MEAN_YEARS, m_MEAN_YEARS, hs_MEAN_YEARS⟩ := M_MEAN_YEARS
  refine ⟨f, fd, F.ok sc_year_of (fun vs H Q E h => ?_) (fun cdv A outer s H vs Q E hr h => ?_), F.binds (ps := ["kind", "number"]) (fun _ _ _ _ _ _ us hl => match us, hl with | [_, _], _ => rfl), F.kp, mF, Rd.fun_at F⟩
  · obtain ⟨v_kind, v_number, rfl, _⟩ := h
    rfl
  obtain ⟨v_kind, v_number, rfl, hp, q⟩ := h
  refine ⟨_, (pss_cons (ps_set (i := 2) sc_year_of.nd rfl (Or.inl rfl) (pe_ix ix_tup (pe_glob (v := .ref a_MEAN_YEARS) rfl m_MEAN_YEARS rfl) (pv 0) (fun _ _ => rfl))) (pss_cons (ps_set (i := 3) sc_year_of.nd rfl (Or.inl rfl) (pe_op op_fdiv (pe_op op_mul (pe_op op_sub (pv 1) (pe_call G_year_start (hr.mono (by decide)) rfl m_year_start kp_year_start b_year_start .nil pass0 (pa_cons (pv 0) (pa_cons pe_int pa_nil)))) (pe_ix ix_tup (pv 2) pe_int (fun _ _ => rfl))) (pe_ix ix_tup (pv 2) pe_int (fun _ _ => rfl)))) (pss_cons (ps_while PassesOwn.never (pt_cmpR op_gt (pe_call G_year_start (hr.mono (by decide)) rfl m_year_start kp_year_start b_year_start .nil pass0 (pa_cons (pv 0) (pa_cons (pv 3) pa_nil))) (pv 1) (nomark _)) (pss_one (ps_aug (i := 3) sc_year_of.nd rfl (Or.inl rfl) pe_int iop_sub))) (pss_cons (ps_while PassesOwn.never (pt_cmpR op_le (pe_call G_year_start (hr.mono (by decide)) rfl m_year_start kp_year_start b_year_start .nil pass0 (pa_cons (pv 0) (pa_cons (pe_op op_add (pv 3) pe_int) pa_nil))) (pv 1) (nomark _)) (pss_one (ps_aug (i := 3) sc_year_of.nd rfl (Or.inl rfl) pe_int iop_add))) (pss_one (ps_ret (pv 3))))))), ?_⟩
  obtain ⟨hk0, hk7⟩ := hp
  have hmean := Cal.mean_in v_kind
  refine ⟨_, rfl, ?_⟩
  obtain ⟨u1, eu1, qu1⟩ := Rd.row_at hs_MEAN_YEARS (Cal.mean_at (by omega) (by omega))
  refine ⟨_, _, _, _, rfl, rfl, (hs_MEAN_YEARS.1 _), (Rd.at_row eu1 (by omega)), _, rfl, _, rfl, _, _, rfl, trivial, _, _, rfl, rfl, _, rfl, _, [(Kg24.mean v_kind.toNat).1, (Kg24.mean v_kind.toNat).2].map V.int, _, V.int ((Kg24.mean v_kind.toNat).2), rfl, rfl, (qu1 _), rfl, _, _, rfl, rfl, (.inr ⟨by omega, by omega⟩), _, rfl, _, [(Kg24.mean v_kind.toNat).1, (Kg24.mean v_kind.toNat).2].map V.int, _, V.int ((Kg24.mean v_kind.toNat).1), rfl, rfl, (qu1 _), rfl, _, _, rfl, rfl, ⟨by omega, by omega⟩, ?_⟩
  refine while_by (fun σ H' => ∃ (w_y : Int), σ = [some (.int v_kind), some (.int v_number), some (.ref u1), some (.int w_y)] ∧ Same H H' ∧ True) (fun σ _ => match σ with | [_, _, _, some (.int w_y)] => (w_y - Cal.yof v_kind v_number).toNat | _ => 0) ?_ ?_ ?_
  · exact ⟨_, rfl, by walk_at "same", trivial⟩
  · rintro σ H' ⟨w_y, rfl, gg, hinv⟩
    refine ⟨_, rfl, _, rfl, _, _, rfl, trivial, _, rfl, _, _, rfl, rfl, _, rfl, ?_⟩
    refine Rd.iteD (fun h2 => ?_) (fun h2 => ?_)
    · refine ⟨_, rfl, _, _, rfl, rfl, ?_⟩
      exact ⟨⟨_, rfl, by walk_at "same", trivial⟩, Cal.yof_down (by omega)⟩
    · refine while_by (fun σ H' => ∃ (w_y : Int), σ = [some (.int v_kind), some (.int v_number), some (.ref u1), some (.int w_y)] ∧ Same H H' ∧ Cal.ys v_kind w_y ≤ v_number) (fun σ _ => match σ with | [_, _, _, some (.int w_y)] => (Cal.yof v_kind v_number - w_y).toNat | _ => 0) ?_ ?_ ?_
      · exact ⟨_, rfl, by walk_at "same", by omega⟩
      · rintro σ H' ⟨w_y, rfl, gg, hinv⟩
        refine ⟨_, rfl, _, rfl, _, _, rfl, rfl, _, _, rfl, trivial, _, rfl, _, _, rfl, rfl, _, rfl, ?_⟩
        refine Rd.iteD (fun h3 => ?_) (fun h3 => ?_)
        · refine ⟨_, rfl, _, _, rfl, rfl, ?_⟩
          exact ⟨⟨_, rfl, by walk_at "same", by omega⟩, Cal.yof_up (by omega)⟩
        · refine ⟨_, rfl, ?_⟩
          refine Rd.finJ q (by walk_at "same") ?_
          exact Cal.yof_eq (by omega) (by omega)
      · intro σ H' Q1 Q2 hq hc
        obtain ⟨x0, x1, x2, x3, x4, x5, x6, x7, x8, x9, x10, x11, x12, x13, x14, x15, x16, x17, x18, x19, hz⟩ := hc
        exact ⟨x0, x1, x2, x3, x4, x5, x6, x7, x8, x9, x10, x11, x12, x13, x14, x15, x16, x17, x18, x19, hq _ _ hz⟩
  · intro σ H' Q1 Q2 hq hc
    obtain ⟨x0, x1, x2, x3, x4, x5, x6, x7, x8, x9, x10, x11, x12, x13, x14, x15, hz⟩ := hc
    exact ⟨x0, x1, x2, x3, x4, x5, x6, x7, x8, x9, x10, x11, x12, x13, x14, x15, hq _ _ hz⟩
theorem sc_hebrew_months : FnScope ["length", "second", "third", "leap"] ["length"] (defScope s_hebrew_months) := ⟨rfl, rfl, rfl, by decide +kernel, rfl, by decide +kernel, by decide +kernel⟩
set_option maxHeartbeats 4000000 in
theorem ok_hebrew_months (F : Dfn K mg "hebrew_months" s_hebrew_months) : Ok P w K mg base 1 "hebrew_months" ["length"] sp_hebrew_months := by
  obtain ⟨f, fd, F, mF⟩ := F
  refine ⟨f, fd, F.ok sc_hebrew_months (fun vs H Q E h => ?_) (fun cdv A outer s H vs Q E hr h => ?_), F.binds (ps := ["length"]) (fun _ _ _ _ _ _ us hl => match us, hl with | [_], _ => rfl), F.kp, mF, Rd.fun_at F⟩
  · obtain ⟨v_length, rfl, _⟩ := h
    rfl
  obtain ⟨v_length, rfl, hp, q⟩ := h
  refine ⟨_, (pss_cons (ps_set (i := 1) sc_hebrew_months.nd rfl (Or.inl rfl) (pe_ifExp (pt_cmpR op_eq (pe_op op_mod (pv 0) pe_int) pe_int (nomark _)) pe_int pe_int)) (pss_cons (ps_set (i := 2) sc_hebrew_months.nd rfl (Or.inl rfl) (pe_ifExp (pt_cmpR op_eq (pe_op op_mod (pv 0) pe_int) pe_int (nomark _)) pe_int pe_int)) (pss_cons (ps_set (i := 3) sc_hebrew_months.nd rfl (Or.inl rfl) (pe_ifExp (pt_cmpR op_gt (pv 0) pe_int (nomark _)) (pe_lst (pa_cons pe_int pa_nil)) (pe_lst pa_nil))) (pss_one (ps_ret (pe_op op_cat (pe_op op_cat (pe_lst (pa_cons pe_int (pa_cons (pv 1) (pa_cons (pv 2) (pa_cons pe_int (pa_cons pe_int pa_nil)))))) (pv 3)) (pe_lst (pa_cons pe_int (pa_cons pe_int (pa_cons pe_int (pa_cons pe_int (pa_cons pe_int (pa_cons pe_int (pa_cons pe_int pa_nil)))))))))))))), ?_⟩
  refine ⟨_, rfl, _, _, rfl, rfl, (by show (0 : Int) < 10; first | decide | omega), rfl, _, rfl, ?_⟩
  refine Rd.iteE (fun h1 => ?_) (fun h1 => ?_)
  · refine ⟨_, rfl, _, _, rfl, rfl, (by show (0 : Int) < 10; first | decide | omega), rfl, _, rfl, ?_⟩
    refine Rd.iteE (fun h2 => ?_) (fun h2 => ?_)
    · refine ⟨_, rfl, _, _, rfl, rfl, _, rfl, ?_⟩
      refine Rd.iteD (fun h3 => ?_) (fun h3 => ?_)
      · refine ⟨(by show 1 ≤ sizeLine; decide), fun p4 zp4 => ?_⟩
        refine ⟨_, rfl, _, rfl, (by show 5 ≤ sizeLine; decide), fun p5 zp5 => ?_⟩
        refine ⟨_, rfl, _, _, (([30, 30, 29, 29, 30] : List Int)).map V.int, (([30] : List Int)).map V.int, rfl, rfl, (by walk_at "look"), (by walk_at "look"), (by walk_at "sz"), fun p6 zp6 => ?_⟩
        rw [← List.map_append]
        refine ⟨(by show 7 ≤ sizeLine; decide), fun p7 zp7 => ?_⟩
        refine ⟨_, _, ((([30, 30, 29, 29, 30] : List Int) ++ ([30] : List Int))).map V.int, (([29, 30, 29, 30, 29, 30, 29] : List Int)).map V.int, rfl, rfl, (by walk_at "look"), (by walk_at "look"), (by walk_at "sz"), fun p8 zp8 => ?_⟩
        rw [← List.map_append]
        refine Rd.finL (xs := ((([30, 30, 29, 29, 30] : List Int) ++ ([30] : List Int)) ++ ([29, 30, 29, 30, 29, 30, 29] : List Int))) q (by walk_at "same") (by walk_at "look") ?_
        first | (exfalso; omega) | (rw [Cal.hebM]; simp [*])
      · refine ⟨(by show 0 ≤ sizeLine; decide), fun p4 zp4 => ?_⟩
        refine ⟨_, rfl, _, rfl, (by show 5 ≤ sizeLine; decide), fun p5 zp5 => ?_⟩
        refine ⟨_, rfl, _, _, (([30, 30, 29, 29, 30] : List Int)).map V.int, (([] : List Int)).map V.int, rfl, rfl, (by walk_at "look"), (by walk_at "look"), (by walk_at "sz"), fun p6 zp6 => ?_⟩
        rw [← List.map_append]
        refine ⟨(by show 7 ≤ sizeLine; decide), fun p7 zp7 => ?_⟩
        refine ⟨_, _, ((([30, 30, 29, 29, 30] : List Int) ++ ([] : List Int))).map V.int, (([29, 30, 29, 30, 29, 30, 29] : List Int)).map V.int, rfl, rfl, (by walk_at "look"), (by walk_at "look"), (by walk_at "sz"), fun p8 zp8 => ?_⟩
        rw [← List.map_append]
        refine Rd.finL (xs := ((([30, 30, 29, 29, 30] : List Int) ++ ([] : List Int)) ++ ([29, 30, 29, 30, 29, 30, 29] : List Int))) q (by walk_at "same") (by walk_at "look") ?_
        first | (exfalso; omega) | (rw [Cal.hebM]; simp [*])
    · refine ⟨_, rfl, _, _, rfl, rfl, _, rfl, ?_⟩
      refine Rd.iteD (fun h3 => ?_) (fun h3 => ?_)
      · refine ⟨(by show 1 ≤ sizeLine; decide), fun p4 zp4 => ?_⟩
        refine ⟨_, rfl, _, rfl, (by show 5 ≤ sizeLine; decide), fun p5 zp5 => ?_⟩
        refine ⟨_, rfl, _, _, (([30, 30, 30, 29, 30] : List Int)).map V.int, (([30] : List Int)).map V.int, rfl, rfl, (by walk_at "look"), (by walk_at "look"), (by walk_at "sz"), fun p6 zp6 => ?_⟩
        rw [← List.map_append]
        refine ⟨(by show 7 ≤ sizeLine; decide), fun p7 zp7 => ?_⟩
        refine ⟨_, _, ((([30, 30, 30, 29, 30] : List Int) ++ ([30] : List Int))).map V.int, (([29, 30, 29, 30, 29, 30, 29] : List Int)).map V.int, rfl, rfl, (by walk_at "look"), (by walk_at "look"), (by walk_at "sz"), fun p8 zp8 => ?_⟩
        rw [← List.map_append]
        refine Rd.finL (xs := ((([30, 30, 30, 29, 30] : List Int) ++ ([30] : List Int)) ++ ([29, 30, 29, 30, 29, 30, 29] : List Int))) q (by walk_at "same") (by walk_at "look") ?_
        first | (exfalso; omega) | (rw [Cal.hebM]; simp [*])
      · refine ⟨(by show 0 ≤ sizeLine; decide), fun p4 zp4 => ?_⟩
        refine ⟨_, rfl, _, rfl, (by show 5 ≤ sizeLine; decide), fun p5 zp5 => ?_⟩
        refine ⟨_, rfl, _, _, (([30, 30, 30, 29, 30] : List Int)).map V.int, (([] : List Int)).map V.int, rfl, rfl, (by walk_at "look"), (by walk_at "look"), (by walk_at "sz"), fun p6 zp6 => ?_⟩
        rw [← List.map_append]
        refine ⟨(by show 7 ≤ sizeLine; decide), fun p7 zp7 => ?_⟩
        refine ⟨_, _, ((([30, 30, 30, 29, 30] : List Int) ++ ([] : List Int))).map V.int, (([29, 30, 29, 30, 29, 30, 29] : List Int)).map V.int, rfl, rfl, (by walk_at "look"), (by walk_at "look"), (by walk_at "sz"), fun p8 zp8 => ?_⟩
        rw [← List.map_append]
        refine Rd.finL (xs := ((([30, 30, 30, 29, 30] : List Int) ++ ([] : List Int)) ++ ([29, 30, 29, 30, 29, 30, 29] : List Int))) q (by walk_at "same") (by walk_at "look") ?_
        first | (exfalso; omega) | (rw [Cal.hebM]; simp [*])
  · refine ⟨_, rfl, _, _, rfl, rfl, (by show (0 : Int) < 10; first | decide | omega), rfl, _, rfl, ?_⟩
    refine Rd.iteE (fun h2 => ?_) (fun h2 => ?_)
    · refine ⟨_, rfl, _, _, rfl, rfl, _, rfl, ?_⟩
      refine Rd.iteD (fun h3 => ?_) (fun h3 => ?_)
      · refine ⟨(by show 1 ≤ sizeLine; decide), fun p4 zp4 => ?_⟩
        refine ⟨_, rfl, _, rfl, (by show 5 ≤ sizeLine; decide), fun p5 zp5 => ?_⟩
        refine ⟨_, rfl, _, _, (([30, 29, 29, 29, 30] : List Int)).map V.int, (([30] : List Int)).map V.int, rfl, rfl, (by walk_at "look"), (by walk_at "look"), (by walk_at "sz"), fun p6 zp6 => ?_⟩
        rw [← List.map_append]
        refine ⟨(by show 7 ≤ sizeLine; decide), fun p7 zp7 => ?_⟩
        refine ⟨_, _, ((([30, 29, 29, 29, 30] : List Int) ++ ([30] : List Int))).map V.int, (([29, 30, 29, 30, 29, 30, 29] : List Int)).map V.int, rfl, rfl, (by walk_at "look"), (by walk_at "look"), (by walk_at "sz"), fun p8 zp8 => ?_⟩
        rw [← List.map_append]
        refine Rd.finL (xs := ((([30, 29, 29, 29, 30] : List Int) ++ ([30] : List Int)) ++ ([29, 30, 29, 30, 29, 30, 29] : List Int))) q (by walk_at "same") (by walk_at "look") ?_
        first | (exfalso; omega) | (rw [Cal.hebM]; simp [*])
      · refine ⟨(by show 0 ≤ sizeLine; decide), fun p4 zp4 => ?_⟩
        refine ⟨_, rfl, _, rfl, (by show 5 ≤ sizeLine; decide), fun p5 zp5 => ?_⟩
        refine ⟨_, rfl, _, _, (([30, 29, 29, 29, 30] : List Int)).map V.int, (([] : List Int)).map V.int, rfl, rfl, (by walk_at "look"), (by walk_at "look"), (by walk_at "sz"), fun p6 zp6 => ?_⟩
        rw [← List.map_append]
        refine ⟨(by show 7 ≤ sizeLine; decide), fun p7 zp7 => ?_⟩
        refine ⟨_, _, ((([30, 29, 29, 29, 30] : List Int) ++ ([] : List Int))).map V.int, (([29, 30, 29, 30, 29, 30, 29] : List Int)).map V.int, rfl, rfl, (by walk_at "look"), (by walk_at "look"), (by walk_at "sz"), fun p8 zp8 => ?_⟩
        rw [← List.map_append]
        refine Rd.finL (xs := ((([30, 29, 29, 29, 30] : List Int) ++ ([] : List Int)) ++ ([29, 30, 29, 30, 29, 30, 29] : List Int))) q (by walk_at "same") (by walk_at "look") ?_
        first | (exfalso; omega) | (rw [Cal.hebM]; simp [*])
    · refine ⟨_, rfl, _, _, rfl, rfl, _, rfl, ?_⟩
      refine Rd.iteD (fun h3 => ?_) (fun h3 => ?_)
      · refine ⟨(by show 1 ≤ sizeLine; decide), fun p4 zp4 => ?_⟩
        refine ⟨_, rfl, _, rfl, (by show 5 ≤ sizeLine; decide), fun p5 zp5 => ?_⟩
        refine ⟨_, rfl, _, _, (([30, 29, 30, 29, 30] : List Int)).map V.int, (([30] : List Int)).map V.int, rfl, rfl, (by walk_at "look"), (by walk_at "look"), (by walk_at "sz"), fun p6 zp6 => ?_⟩
        rw [← List.map_append]
        refine ⟨(by show 7 ≤ sizeLine; decide), fun p7 zp7 => ?_⟩
        refine ⟨_, _, ((([30, 29, 30, 29, 30] : List Int) ++ ([30] : List Int))).map V.int, (([29, 30, 29, 30, 29, 30, 29] : List Int)).map V.int, rfl, rfl, (by walk_at "look"), (by walk_at "look"), (by walk_at "sz"), fun p8 zp8 => ?_⟩
        rw [← List.map_append]
        refine Rd.finL (xs := ((([30, 29, 30, 29, 30] : List Int) ++ ([30] : List Int)) ++ ([29, 30, 29, 30, 29, 30, 29] : List Int))) q (by walk_at "same") (by walk_at "look") ?_
        first | (exfalso; omega) | (rw [Cal.hebM]; simp [*])
      · refine ⟨(by show 0 ≤ sizeLine; decide), fun p4 zp4 => ?_⟩
        refine ⟨_, rfl, _, rfl, (by show 5 ≤ sizeLine; decide), fun p5 zp5 => ?_⟩
        refine ⟨_, rfl, _, _, (([30, 29, 30, 29, 30] : List Int)).map V.int, (([] : List Int)).map V.int, rfl, rfl, (by walk_at "look"), (by walk_at "look"), (by walk_at "sz"), fun p6 zp6 => ?_⟩
        rw [← List.map_append]
        refine ⟨(by show 7 ≤ sizeLine; decide), fun p7 zp7 => ?_⟩
        refine ⟨_, _, ((([30, 29, 30, 29, 30] : List Int) ++ ([] : List Int))).map V.int, (([29, 30, 29, 30, 29, 30, 29] : List Int)).map V.int, rfl, rfl, (by walk_at "look"), (by walk_at "look"), (by walk_at "sz"), fun p8 zp8 => ?_⟩
        rw [← List.map_append]
        refine Rd.finL (xs := ((([30, 29, 30, 29, 30] : List Int) ++ ([] : List Int)) ++ ([29, 30, 29, 30, 29, 30, 29] : List Int))) q (by walk_at "same") (by walk_at "look") ?_
        first | (exfalso; omega) | (rw [Cal.hebM]; simp [*])
theorem sc_month_lengths : FnScope ["kind", "y", "length"] ["kind", "y"] (defScope s_month_lengths) := ⟨rfl, rfl, rfl, by decide +kernel, rfl, by decide +kernel, by decide +kernel⟩
set_option maxHeartbeats 4000000 in
theorem ok_month_lengths (F : Dfn K mg "month_lengths" s_month_lengths) (C_year_start : Ok P w K mg base 4 "year_start" ["kind", "y"] sp_year_start) (C_hebrew_months : Ok P w K mg base 1 "hebrew_months" ["length"] sp_hebrew_months) (M_GREGORIAN : ∃ t, mg "GREGORIAN" = some (Value.int (0) t)) (M_JULIAN : ∃ t, mg "JULIAN" = some (Value.int (1) t)) (M_HEBREW : ∃ t, mg "HEBREW" = some (Value.int (2) t)) (M_ISLAMIC : ∃ t, mg "ISLAMIC" = some (Value.int (3) t)) (M_COPTIC : ∃ t, mg "COPTIC" = some (Value.int (4) t)) (M_ETHIOPIAN : ∃ t, mg "ETHIOPIAN" = some (Value.int (5) t)) (M_PERSIAN : ∃ t, mg "PERSIAN" = some (Value.int (6) t)) : Ok P w K mg base 5 "month_lengths" ["kind", "y"] sp_month_lengths := by
  obtain ⟨f, fd, F, mF⟩ := F
  obtain ⟨f_year_start, fd_year_start, G_year_start, b_year_start, kp_year_start, m_year_start, _⟩ := C_year_start
  obtain ⟨f_hebrew_months, fd_hebrew_months, G_hebrew_months, b_hebrew_months, kp_hebrew_months, m_hebrew_months, _⟩ := C_hebrew_months
  obtain ⟨t_GREGORIAN, m_GREGORIAN⟩ := M_GREGORIAN
  obtain ⟨t_JULIAN, m_JULIAN⟩ := M_JULIAN
  obtain ⟨t_HEBREW, m_HEBREW⟩ := M_HEBREW
  obtain ⟨t_ISLAMIC, m_ISLAMIC⟩ := M_ISLAMIC
  obtain ⟨t_COPTIC, m_COPTIC⟩ := M_COPTIC
  obtain ⟨t_ETHIOPIAN, m_ETHIOPIAN⟩ := M_ETHIOPIAN
  obtain ⟨t_PERSIAN, m_PERSIAN⟩ := M_PERSIAN
  refine ⟨f, fd, F.ok sc_month_lengths (fun vs H Q E h => ?_) (fun cdv A outer s H vs Q E hr h => ?_), F.binds (ps := ["kind", "y"]) (fun _ _ _ _ _ _ us hl => match us, hl with | [_, _], _ => rfl), F.kp, mF, Rd.fun_at F⟩
  · obtain ⟨v_kind, v_y, rfl, _⟩ := h
    rfl
  obtain ⟨v_kind, v_y, rfl, hp, q⟩ := h
  refine ⟨_, (pss_cons (ps_set (i := 2) sc_month_lengths.nd rfl (Or.inl rfl) (pe_op op_sub (pe_call G_year_start (hr.mono (by decide)) rfl m_year_start kp_year_start b_year_start .nil pass0 (pa_cons (pv 0) (pa_cons (pe_op op_add (pv 1) pe_int) pa_nil))) (pe_call G_year_start (hr.mono (by decide)) rfl m_year_start kp_year_start b_year_start .nil pass0 (pa_cons (pv 0) (pa_cons (pv 1) pa_nil))))) (pss_cons (ps_if (PW.pt (pw_or (pt_cmpR op_eq (pv 0) (pe_glob (v := .int (0)) rfl m_GREGORIAN ⟨_, rfl⟩) (nomark _)) (pw_or1 (pt_cmpR op_eq (pv 0) (pe_glob (v := .int (1)) rfl m_JULIAN ⟨_, rfl⟩) (nomark _))))) (pss_one (ps_ret (pe_lst (pa_cons pe_int (pa_cons (pe_op op_sub (pv 2) pe_int) (pa_cons pe_int (pa_cons pe_int (pa_cons pe_int (pa_cons pe_int (pa_cons pe_int (pa_cons pe_int (pa_cons pe_int (pa_cons pe_int (pa_cons pe_int (pa_cons pe_int pa_nil))))))))))))))) pss_nil) (pss_cons (ps_if (pt_cmpR op_eq (pv 0) (pe_glob (v := .int (2)) rfl m_HEBREW ⟨_, rfl⟩) (nomark _)) (pss_one (ps_ret (pe_call G_hebrew_months (hr.mono (by decide)) rfl m_hebrew_months kp_hebrew_months b_hebrew_months .nil pass0 (pa_cons (pv 2) pa_nil)))) pss_nil) (pss_cons (ps_if (pt_cmpR op_eq (pv 0) (pe_glob (v := .int (3)) rfl m_ISLAMIC ⟨_, rfl⟩) (nomark _)) (pss_one (ps_ret (pe_op op_cat (pe_op op_rep (pe_lst (pa_cons pe_int (pa_cons pe_int pa_nil))) pe_int) (pe_lst (pa_cons pe_int (pa_cons (pe_op op_sub (pv 2) pe_int) pa_nil)))))) pss_nil) (pss_cons (ps_if (PW.pt (pw_or (pt_cmpR op_eq (pv 0) (pe_glob (v := .int (4)) rfl m_COPTIC ⟨_, rfl⟩) (nomark _)) (pw_or1 (pt_cmpR op_eq (pv 0) (pe_glob (v := .int (5)) rfl m_ETHIOPIAN ⟨_, rfl⟩) (nomark _))))) (pss_one (ps_ret (pe_op op_cat (pe_op op_rep (pe_lst (pa_cons pe_int pa_nil)) pe_int) (pe_lst (pa_cons (pe_op op_sub (pv 2) pe_int) pa_nil))))) pss_nil) (pss_cons (ps_if (pt_cmpR op_eq (pv 0) (pe_glob (v := .int (6)) rfl m_PERSIAN ⟨_, rfl⟩) (nomark _)) (pss_one (ps_ret (pe_op op_cat (pe_op op_cat (pe_op op_rep (pe_lst (pa_cons pe_int pa_nil)) pe_int) (pe_op op_rep (pe_lst (pa_cons pe_int pa_nil)) pe_int)) (pe_lst (pa_cons (pe_op op_sub (pv 2) pe_int) pa_nil))))) pss_nil) (pss_one (ps_ret (pe_op op_rep (pe_lst (pa_cons pe_int pa_nil)) (pe_op op_fdiv (pv 2) pe_int)))))))))), ?_⟩
  have hL := Cal.ys_fact v_kind v_y
  refine ⟨_, rfl, _, rfl, _, _, rfl, rfl, _, _, rfl, trivial, _, rfl, _, rfl, _, _, rfl, trivial, _, _, rfl, rfl, _, rfl, rfl, _, rfl, ?_⟩
  refine Rd.iteE (fun h1 => ?_) (fun h1 => ?_)
  · refine iteT ?_
    refine ⟨_, rfl, _, _, rfl, rfl, (by show 12 ≤ sizeLine; decide), fun p2 zp2 => ?_⟩
    refine Rd.finL (xs := ([31, (((Cal.ys v_kind ((v_y + 1))) - (Cal.ys v_kind v_y)) - 337), 31, 30, 31, 30, 31, 31, 30, 31, 30, 31] : List Int)) q (by walk_at "same") (by walk_at "look") ?_
    subst_vars
    rfl
  · refine ⟨_, rfl, rfl, _, rfl, ?_⟩
    refine Rd.iteE (fun h2 => ?_) (fun h2 => ?_)
    · refine ⟨_, rfl, _, _, rfl, rfl, (by show 12 ≤ sizeLine; decide), fun p3 zp3 => ?_⟩
      refine Rd.finL (xs := ([31, (((Cal.ys v_kind ((v_y + 1))) - (Cal.ys v_kind v_y)) - 337), 31, 30, 31, 30, 31, 31, 30, 31, 30, 31] : List Int)) q (by walk_at "same") (by walk_at "look") ?_
      subst_vars
      rfl
    · refine ⟨_, rfl, rfl, _, rfl, ?_⟩
      refine Rd.iteE (fun h3 => ?_) (fun h3 => ?_)
      · refine ⟨_, rfl, _, rfl, trivial, fun r4 Hr4 gr4 er4 => ?_⟩
        refine Rd.finL (xs := (Cal.hebMonths (((Cal.ys v_kind ((v_y + 1))) - (Cal.ys v_kind v_y))))) q (by walk_at "same") (by walk_at "look") ?_
        subst_vars
        rfl
      · refine ⟨_, rfl, rfl, _, rfl, ?_⟩
        refine Rd.iteE (fun h4 => ?_) (fun h4 => ?_)
        · refine ⟨(by show 2 ≤ sizeLine; decide), fun p5 zp5 => ?_⟩
          refine ⟨_, _, (([30, 29] : List Int)).map V.int, rfl, rfl, (by walk_at "look"), (by first | decide | omega), (by first | decide | omega), (by walk_at "sz"), fun p6 zp6 => ?_⟩
          rw [Rd.rep_map]
          refine ⟨_, rfl, _, _, rfl, rfl, (by show 2 ≤ sizeLine; decide), fun p7 zp7 => ?_⟩
          refine ⟨_, _, ((List.replicate (5 : Int).toNat ([30, 29] : List Int)).flatten).map V.int, (([30, (((Cal.ys v_kind ((v_y + 1))) - (Cal.ys v_kind v_y)) - 325)] : List Int)).map V.int, rfl, rfl, (by walk_at "look"), (by walk_at "look"), (by walk_at "sz"), fun p8 zp8 => ?_⟩
          rw [← List.map_append]
          refine Rd.finL (xs := ((List.replicate (5 : Int).toNat ([30, 29] : List Int)).flatten ++ ([30, (((Cal.ys v_kind ((v_y + 1))) - (Cal.ys v_kind v_y)) - 325)] : List Int))) q (by walk_at "same") (by walk_at "look") ?_
          subst_vars
          rfl
        · refine ⟨_, rfl, rfl, _, rfl, ?_⟩
          refine Rd.iteE (fun h5 => ?_) (fun h5 => ?_)
          · refine iteT ?_
            refine ⟨(by show 1 ≤ sizeLine; decide), fun p6 zp6 => ?_⟩
            refine ⟨_, _, (([30] : List Int)).map V.int, rfl, rfl, (by walk_at "look"), (by first | decide | omega), (by first | decide | omega), (by walk_at "sz"), fun p7 zp7 => ?_⟩
            rw [Rd.rep_map]
            refine ⟨_, rfl, _, _, rfl, rfl, (by show 1 ≤ sizeLine; decide), fun p8 zp8 => ?_⟩
            refine ⟨_, _, ((List.replicate (12 : Int).toNat ([30] : List Int)).flatten).map V.int, (([(((Cal.ys v_kind ((v_y + 1))) - (Cal.ys v_kind v_y)) - 360)] : List Int)).map V.int, rfl, rfl, (by walk_at "look"), (by walk_at "look"), (by walk_at "sz"), fun p9 zp9 => ?_⟩
            rw [← List.map_append]
            refine Rd.finL (xs := ((List.replicate (12 : Int).toNat ([30] : List Int)).flatten ++ ([(((Cal.ys v_kind ((v_y + 1))) - (Cal.ys v_kind v_y)) - 360)] : List Int))) q (by walk_at "same") (by walk_at "look") ?_
            subst_vars
            rfl
          · refine ⟨_, rfl, rfl, _, rfl, ?_⟩
            refine Rd.iteE (fun h6 => ?_) (fun h6 => ?_)
            · refine ⟨(by show 1 ≤ sizeLine; decide), fun p7 zp7 => ?_⟩
              refine ⟨_, _, (([30] : List Int)).map V.int, rfl, rfl, (by walk_at "look"), (by first | decide | omega), (by first | decide | omega), (by walk_at "sz"), fun p8 zp8 => ?_⟩
              rw [Rd.rep_map]
              refine ⟨_, rfl, _, _, rfl, rfl, (by show 1 ≤ sizeLine; decide), fun p9 zp9 => ?_⟩
              refine ⟨_, _, ((List.replicate (12 : Int).toNat ([30] : List Int)).flatten).map V.int, (([(((Cal.ys v_kind ((v_y + 1))) - (Cal.ys v_kind v_y)) - 360)] : List Int)).map V.int, rfl, rfl, (by walk_at "look"), (by walk_at "look"), (by walk_at "sz"), fun p10 zp10 => ?_⟩
              rw [← List.map_append]
              refine Rd.finL (xs := ((List.replicate (12 : Int).toNat ([30] : List Int)).flatten ++ ([(((Cal.ys v_kind ((v_y + 1))) - (Cal.ys v_kind v_y)) - 360)] : List Int))) q (by walk_at "same") (by walk_at "look") ?_
              subst_vars
              rfl
            · refine ⟨_, rfl, rfl, _, rfl, ?_⟩
              refine Rd.iteE (fun h7 => ?_) (fun h7 => ?_)
              · refine ⟨(by show 1 ≤ sizeLine; decide), fun p8 zp8 => ?_⟩
                refine ⟨_, _, (([31] : List Int)).map V.int, rfl, rfl, (by walk_at "look"), (by first | decide | omega), (by first | decide | omega), (by walk_at "sz"), fun p9 zp9 => ?_⟩
                rw [Rd.rep_map]
                refine ⟨(by show 1 ≤ sizeLine; decide), fun p10 zp10 => ?_⟩
                refine ⟨_, _, (([30] : List Int)).map V.int, rfl, rfl, (by walk_at "look"), (by first | decide | omega), (by first | decide | omega), (by walk_at "sz"), fun p11 zp11 => ?_⟩
                rw [Rd.rep_map]
                refine ⟨_, _, ((List.replicate (6 : Int).toNat ([31] : List Int)).flatten).map V.int, ((List.replicate (5 : Int).toNat ([30] : List Int)).flatten).map V.int, rfl, rfl, (by walk_at "look"), (by walk_at "look"), (by walk_at "sz"), fun p12 zp12 => ?_⟩
                rw [← List.map_append]
                refine ⟨_, rfl, _, _, rfl, rfl, (by show 1 ≤ sizeLine; decide), fun p13 zp13 => ?_⟩
                refine ⟨_, _, (((List.replicate (6 : Int).toNat ([31] : List Int)).flatten ++ (List.replicate (5 : Int).toNat ([30] : List Int)).flatten)).map V.int, (([(((Cal.ys v_kind ((v_y + 1))) - (Cal.ys v_kind v_y)) - 336)] : List Int)).map V.int, rfl, rfl, (by walk_at "look"), (by walk_at "look"), (by walk_at "sz"), fun p14 zp14 => ?_⟩
                rw [← List.map_append]
                refine Rd.finL (xs := (((List.replicate (6 : Int).toNat ([31] : List Int)).flatten ++ (List.replicate (5 : Int).toNat ([30] : List Int)).flatten) ++ ([(((Cal.ys v_kind ((v_y + 1))) - (Cal.ys v_kind v_y)) - 336)] : List Int))) q (by walk_at "same") (by walk_at "look") ?_
                subst_vars
                rfl
              · refine ⟨(by show 1 ≤ sizeLine; decide), fun p8 zp8 => ?_⟩
                refine ⟨_, rfl, _, _, rfl, rfl, ⟨by decide, by decide⟩, _, _, (([7] : List Int)).map V.int, rfl, rfl, (by walk_at "look"), (by first | decide | omega), (by first | decide | omega), (by walk_at "sz"), fun p9 zp9 => ?_⟩
                rw [Rd.rep_map]
                refine Rd.finL (xs := (List.replicate ((((Cal.ys v_kind ((v_y + 1))) - (Cal.ys v_kind v_y)) / 7) : Int).toNat ([7] : List Int)).flatten) q (by walk_at "same") (by walk_at "look") ?_
                rw [Cal.mons7 _ (by omega), Cal.rep_one]
theorem sc_day_of : FnScope ["kind", "y", "m", "d", "lengths"] ["kind", "y", "m", "d"] (defScope s_day_of) := ⟨rfl, rfl, rfl, by decide +kernel, rfl, by decide +kernel, by decide +kernel⟩
set_option maxHeartbeats 4000000 in
theorem ok_day_of (F : Dfn K mg "day_of" s_day_of) (C_month_lengths : Ok P w K mg base 5 "month_lengths" ["kind", "y"] sp_month_lengths) (C_year_start : Ok P w K mg base 4 "year_start" ["kind", "y"] sp_year_start) (Z_len : mg "len" = none) (Z_sum : mg "sum" = none) : Ok P w K mg base 6 "day_of" ["kind", "y", "m", "d"] sp_day_of := by
  obtain ⟨f, fd, F, mF⟩ := F
  obtain ⟨f_month_lengths, fd_month_lengths, G_month_lengths, b_month_lengths, kp_month_lengths, m_month_lengths, _⟩ := C_month_lengths
  obtain ⟨f_year_start, fd_year_start, G_year_start, b_year_start, kp_year_start, m_year_start, _⟩ := C_year_start
  have z_len := Z_len
  have z_sum := Z_sum
  refine ⟨f, fd, F.ok sc_day_of (fun vs H Q E h => ?_) (fun cdv A outer s H vs Q E hr h => ?_), F.binds (ps := ["kind", "y", "m", "d"]) (fun _ _ _ _ _ _ us hl => match us, hl with | [_, _, _, _], _ => rfl), F.kp, mF, Rd.fun_at F⟩
  · obtain ⟨v_kind, v_y, v_m, v_d, rfl, _⟩ := h
    rfl
  obtain ⟨v_kind, v_y, v_m, v_d, rfl, hp, q⟩ := h
  refine ⟨_, (pss_cons (ps_set (i := 4) sc_day_of.nd rfl (Or.inl rfl) (pe_call G_month_lengths (hr.mono (by decide)) rfl m_month_lengths kp_month_lengths b_month_lengths .nil pass0 (pa_cons (pv 0) (pa_cons (pv 1) pa_nil)))) (pss_cons (ps_if (PW.pt (pw_or (pt_cmpR op_lt (pv 2) pe_int (nomark _)) (pw_or (pt_cmpR op_gt (pv 2) (pe_callB call_len_seq rfl z_len PySem.boot_len (pa_cons (pv 4) pa_nil)) (nomark _)) (pw_or (pt_cmpR op_lt (pv 3) pe_int (nomark _)) (pw_or1 (pt_cmpR op_gt (pv 3) (pe_ix ix_list (pv 4) (pe_op op_sub (pv 2) pe_int) (fun _ _ => rfl)) (nomark _))))))) (pss_one (ps_ret pe_non)) pss_nil) (pss_one (ps_ret (pe_op op_sub (pe_op op_add (pe_op op_add (pe_call G_year_start (hr.mono (by decide)) rfl m_year_start kp_year_start b_year_start .nil pass0 (pa_cons (pv 0) (pa_cons (pv 1) pa_nil))) (pe_callB (cr_sum rfl) rfl z_sum Rd.boot_sum (pa_cons (pe_slice sl_list (pv 4) po_none (po_some (pe_op op_sub (pv 2) pe_int))) pa_nil))) (pv 3)) pe_int))))), ?_⟩
  refine ⟨_, rfl, _, rfl, _, _, rfl, trivial, fun r1 Hr1 gr1 er1 => ?_⟩
  refine ⟨_, rfl, _, _, rfl, rfl, _, rfl, ?_⟩
  refine Rd.iteD (fun h2 => ?_) (fun h2 => ?_)
  · refine iteT ?_
    refine Rd.finNo q (by walk_at "same") ?_
    exact Cal.dayO_none (by omega)
  · refine ⟨_, rfl, _, rfl, _, ((Cal.mons v_kind v_y)).map V.int, rfl, (.inl (by walk_at "sq")), ?_⟩
    rw [List.length_map]
    refine ⟨_, _, rfl, rfl, _, rfl, ?_⟩
    refine Rd.iteD (fun h3 => ?_) (fun h3 => ?_)
    · refine iteT ?_
      refine Rd.finNo q (by walk_at "same") ?_
      exact Cal.dayO_none (by omega)
    · refine ⟨_, rfl, _, _, rfl, rfl, _, rfl, ?_⟩
      refine Rd.iteD (fun h4 => ?_) (fun h4 => ?_)
      · refine iteT ?_
        refine Rd.finNo q (by walk_at "same") ?_
        exact Cal.dayO_none (by omega)
      · refine ⟨_, rfl, _, rfl, _, rfl, _, _, rfl, rfl, _, ((Cal.mons v_kind v_y)).map V.int, _, V.int ((Cal.mons v_kind v_y).getD ((v_m - 1) : Int).toNat 0), rfl, rfl, (by walk_at "sq"), Rd.at_get (by omega) (by omega), _, _, rfl, rfl, _, rfl, ?_⟩
        refine Rd.iteD (fun h5 => ?_) (fun h5 => ?_)
        · refine Rd.finNo q (by walk_at "same") ?_
          exact Cal.dayO_none (by omega)
        · refine ⟨_, rfl, _, rfl, _, _, rfl, trivial, _, rfl, _, rfl, _, _, rfl, rfl, _, rfl, _, ((Cal.mons v_kind v_y)).map V.int, rfl, (by walk_at "sq"), fun p6 zp6 => ?_⟩
          rw [Rd.cut_hi (by omega)]
          refine ⟨_, ((Cal.mons v_kind v_y).take ((v_m - 1)).toNat), rfl, (by walk_at "sq"), _, _, rfl, rfl, _, rfl, _, _, rfl, rfl, _, _, rfl, rfl, ?_⟩
          refine Rd.finSo q (by walk_at "same") ?_
          exact Cal.dayO_some (by omega) (by omega) (by omega) (by omega)
theorem sc_fits : FnScope ["form", "part", "sign", "byte"] ["form", "part"] (defScope s_fits) := ⟨rfl, rfl, rfl, by decide +kernel, rfl, by decide +kernel, by decide +kernel⟩
set_option maxHeartbeats 4000000 in
theorem ok_fits (F : Dfn K mg "fits" s_fits) (Z_len : mg "len" = none) (Z_zip : mg "zip" = none) (Z_ord : mg "ord" = none) : Ok P w K mg base 1 "fits" ["form", "part"] (sp_fits K) := by
  obtain ⟨f, fd, F, mF⟩ := F
  have z_len := Z_len
  have z_zip := Z_zip
  have z_ord := Z_ord
  refine ⟨f, fd, F.ok sc_fits (fun vs H Q E h => ?_) (fun cdv A outer s H vs Q E hr h => ?_), F.binds (ps := ["form", "part"]) (fun _ _ _ _ _ _ us hl => match us, hl with | [_, _], _ => rfl), F.kp, mF, Rd.fun_at F⟩
  · obtain ⟨v_form, r_part, v_part, rfl, _⟩ := h
    rfl
  obtain ⟨v_form, r_part, v_part, rfl, sq_part, hp, q⟩ := h
  refine ⟨_, (pss_cons (ps_if (pt_cmpR op_ne (pe_callB call_len_seq rfl z_len PySem.boot_len (pa_cons (pv 1) pa_nil)) (pe_callB call_len_str rfl z_len PySem.boot_len (pa_cons (pv 0) pa_nil)) (nomark _)) (pss_one (ps_ret pe_bl)) pss_nil) (pss_cons (ps_for PassesOwn.never rfl (Zt.pi_zipx rfl z_zip (pa_cons (pv 0) (pa_cons (pv 1) pa_nil))) (pg_tup rfl (pgs_cons (pg_name (i := 2) sc_fits.nd rfl (Or.inl rfl)) (pgs_cons (pg_name (i := 3) sc_fits.nd rfl (Or.inl rfl)) pgs_nil))) (pss_cons (ps_if (PW.pt (pw_and (pt_cmpR op_eq (pv 2) pe_str (nomark _)) (pw_and1 (PW.pt (pw_or (pt_cmpR op_lt (pv 3) (pe_callB call_ord rfl z_ord Rd.boot_ord (pa_cons pe_str pa_nil)) (nomark _)) (pw_or1 (pt_cmpR op_gt (pv 3) (pe_callB call_ord rfl z_ord Rd.boot_ord (pa_cons pe_str pa_nil)) (nomark _)))))))) (pss_one (ps_ret pe_bl)) pss_nil) (pss_one (ps_if (PW.pt (pw_and (pt_cmpR op_ne (pv 2) pe_str (nomark _)) (pw_and1 (pt_cmpR op_ne (pv 3) (pe_callB call_ord rfl z_ord Rd.boot_ord (pa_cons (pv 2) pa_nil)) (nomark _))))) (pss_one (ps_ret pe_bl)) pss_nil)))) (pss_one (ps_ret pe_bl)))), ?_⟩
  refine ⟨_, rfl, _, v_part.map V.int, rfl, (.inl (by walk_at "sq")), ?_⟩
  rw [List.length_map]
  refine ⟨_, rfl, _, rfl, (Rd.small (Nat.le_trans hp (by decide))), rfl, _, rfl, ?_⟩
  refine Rd.iteNE (fun h1 => ?_) (fun h1 => ?_)
  · refine Rd.finC q (by walk_at "same") ?_
    exact Cal.fitS_short (by assumption)
  · refine ⟨_, rfl, _, rfl, ?_⟩
    refine ⟨_, _, v_part.map V.int, rfl, (by walk_at "sq"), ?_⟩
    refine Zt.for_zipx (fun i σ H' => ∃ (o_sign : Option V) (o_byte : Option V), σ = [some (.str v_form), some (.ref r_part), o_sign, o_byte] ∧ Same H H' ∧ Cal.fitC (v_form.cps.toList.take i) (v_part.take i) = true) ?_ ?_ ?_ ?_
    · exact ⟨_, _, rfl, by walk_at "same", rfl⟩
    · rintro i σ H' ⟨o_sign, o_byte, rfl, gg, _⟩
      walk_at "sq"
    · rintro i c x T σ H' hc hx zT ⟨o_sign, o_byte, rfl, gg, hinv⟩
      obtain ⟨w_byte, rfl, hv⟩ := Rd.item hx
      refine ⟨_, _, rfl, SqT.of upd_same, rfl, _, _, rfl, _, _, rfl, rfl, ?_⟩
      refine ⟨_, rfl, rfl, _, rfl, ?_⟩
      refine Rd.iteS (fun h2 => ?_) (fun h2 => ?_)
      · refine ⟨_, rfl, _, rfl, (by decide +kernel), _, _, rfl, rfl, _, rfl, ?_⟩
        refine Rd.iteD (fun h3 => ?_) (fun h3 => ?_)
        · refine iteT ?_
          refine Rd.finC q (by walk_at "same") ?_
          first | contradiction | exact Cal.fitS_bad2 hc hv (Cal.bad_lo (by assumption) (by assumption)) | exact Cal.fitS_bad2 hc hv (Cal.bad_hi (by assumption) (by assumption)) | exact Cal.fitS_bad2 hc hv (Cal.bad_ne (by assumption) (by assumption))
        · refine ⟨_, rfl, _, rfl, (by decide +kernel), _, _, rfl, rfl, _, rfl, ?_⟩
          refine Rd.iteD (fun h4 => ?_) (fun h4 => ?_)
          · refine Rd.finC q (by walk_at "same") ?_
            first | contradiction | exact Cal.fitS_bad2 hc hv (Cal.bad_lo (by assumption) (by assumption)) | exact Cal.fitS_bad2 hc hv (Cal.bad_hi (by assumption) (by assumption)) | exact Cal.fitS_bad2 hc hv (Cal.bad_ne (by assumption) (by assumption))
          · refine ⟨_, rfl, rfl, _, rfl, ?_⟩
            refine Rd.iteNS (fun h5 => ?_) (fun h5 => ?_)
            · refine ⟨_, rfl, _, rfl, _, rfl, rfl, rfl, _, rfl, ?_⟩
              refine Rd.iteNE (fun h6 => ?_) (fun h6 => ?_)
              · refine Rd.finC q (by walk_at "same") ?_
                first | contradiction | exact Cal.fitS_bad2 hc hv (Cal.bad_lo (by assumption) (by assumption)) | exact Cal.fitS_bad2 hc hv (Cal.bad_hi (by assumption) (by assumption)) | exact Cal.fitS_bad2 hc hv (Cal.bad_ne (by assumption) (by assumption))
              · exact ⟨_, _, rfl, by walk_at "same", (by first | contradiction | exact Cal.fit_turn hinv hc hv (Cal.good_d (by assumption) (by assumption) (by assumption)) | exact Cal.fit_turn hinv hc hv (Cal.good_e (by assumption) (by assumption)))⟩
            · refine iteF ?_
              exact ⟨_, _, rfl, by walk_at "same", (by first | contradiction | exact Cal.fit_turn hinv hc hv (Cal.good_d (by assumption) (by assumption) (by assumption)) | exact Cal.fit_turn hinv hc hv (Cal.good_e (by assumption) (by assumption)))⟩
      · refine iteF ?_
        refine ⟨_, rfl, rfl, _, rfl, ?_⟩
        refine Rd.iteNS (fun h3 => ?_) (fun h3 => ?_)
        · refine ⟨_, rfl, _, rfl, _, rfl, rfl, rfl, _, rfl, ?_⟩
          refine Rd.iteNE (fun h4 => ?_) (fun h4 => ?_)
          · refine Rd.finC q (by walk_at "same") ?_
            first | contradiction | exact Cal.fitS_bad2 hc hv (Cal.bad_lo (by assumption) (by assumption)) | exact Cal.fitS_bad2 hc hv (Cal.bad_hi (by assumption) (by assumption)) | exact Cal.fitS_bad2 hc hv (Cal.bad_ne (by assumption) (by assumption))
          · exact ⟨_, _, rfl, by walk_at "same", (by first | contradiction | exact Cal.fit_turn hinv hc hv (Cal.good_d (by assumption) (by assumption) (by assumption)) | exact Cal.fit_turn hinv hc hv (Cal.good_e (by assumption) (by assumption)))⟩
        · refine iteF ?_
          exact ⟨_, _, rfl, by walk_at "same", (by first | contradiction | exact Cal.fit_turn hinv hc hv (Cal.good_d (by assumption) (by assumption) (by assumption)) | exact Cal.fit_turn hinv hc hv (Cal.good_e (by assumption) (by assumption)))⟩
    · rintro i σ H' hend ⟨o_sign, o_byte, rfl, gg, hinv⟩
      refine Rd.finC q (by walk_at "same") ?_
      exact Cal.fit_end (by assumption) hend hinv
theorem sc_number_in : FnScope ["digits", "number", "byte"] ["digits"] (defScope s_number_in) := ⟨rfl, rfl, rfl, by decide +kernel, rfl, by decide +kernel, by decide +kernel⟩
set_option maxHeartbeats 4000000 in
theorem ok_number_in (F : Dfn K mg "number_in" s_number_in) (Z_ord : mg "ord" = none) : Ok P w K mg base 1 "number_in" ["digits"] (sp_number_in K) := by
  obtain ⟨f, fd, F, mF⟩ := F
  have z_ord := Z_ord
  refine ⟨f, fd, F.ok sc_number_in (fun vs H Q E h => ?_) (fun cdv A outer s H vs Q E hr h => ?_), F.binds (ps := ["digits"]) (fun _ _ _ _ _ _ us hl => match us, hl with | [_], _ => rfl), F.kp, mF, Rd.fun_at F⟩
  · obtain ⟨r_digits, v_digits, rfl, _⟩ := h
    rfl
  obtain ⟨r_digits, v_digits, rfl, sq_digits, hp, q⟩ := h
  refine ⟨_, (pss_cons (ps_set (i := 1) sc_number_in.nd rfl (Or.inl rfl) pe_int) (pss_cons (ps_for PassesOwn.never rfl (pi_list (pv 0)) (pg_name (i := 2) sc_number_in.nd rfl (Or.inl rfl)) (pss_one (ps_set (i := 1) sc_number_in.nd rfl (Or.inl rfl) (pe_op op_sub (pe_op op_add (pe_op op_mul pe_int (pv 1)) (pv 2)) (pe_callB call_ord rfl z_ord Rd.boot_ord (pa_cons pe_str pa_nil)))))) (pss_one (ps_ret (pv 1))))), ?_⟩
  refine ⟨_, rfl, ?_⟩
  refine ⟨_, rfl, ⟨_, (show SqL _ _ _ (v_digits.map V.int) from by walk_at "sq")⟩, ?_⟩
  refine for_list (xs := v_digits.map V.int) (fun i σ H' => ∃ (w_number : Int) (o_byte : Option V), σ = [some (.ref r_digits), some (.int w_number), o_byte] ∧ Same H H' ∧ w_number = Cal.numI (v_digits.take i)) ?_ ?_ ?_ ?_
  · exact ⟨_, _, rfl, by walk_at "same", rfl⟩
  · rintro i σ H' hi ⟨w_number, o_byte, rfl, gg, _⟩
    walk_at "sq"
  · rintro i x σ H' hx ⟨w_number, o_byte, rfl, gg, hinv⟩
    obtain ⟨w_byte, rfl, hv⟩ := Rd.item hx
    refine ⟨_, rfl, _, _, rfl, rfl, (.inl ⟨by decide, by decide⟩), _, rfl, _, _, rfl, rfl, _, rfl, (by decide +kernel), _, _, rfl, rfl, ?_⟩
    exact ⟨_, _, rfl, by walk_at "same", Cal.num_turn hinv hv⟩
  · rintro σ H' ⟨w_number, o_byte, rfl, gg, hinv⟩
    rw [List.length_map] at hinv
    refine ⟨_, rfl, ?_⟩
    refine Rd.finJ q (by walk_at "same") ?_
    rw [hinv, List.take_length]
theorem sc_year_in : FnScope ["part", "count", "number"] ["part"] (defScope s_year_in) := ⟨rfl, rfl, rfl, by decide +kernel, rfl, by decide +kernel, by decide +kernel⟩
set_option maxHeartbeats 4000000 in
theorem ok_year_in (F : Dfn K mg "year_in" s_year_in) (C_fits : Ok P w K mg base 1 "fits" ["form", "part"] (sp_fits K)) (C_number_in : Ok P w K mg base 1 "number_in" ["digits"] (sp_number_in K)) (Z_len : mg "len" = none) (Z_ord : mg "ord" = none) : Ok P w K mg base 2 "year_in" ["part"] (sp_year_in K) := by
  obtain ⟨f, fd, F, mF⟩ := F
  obtain ⟨f_fits, fd_fits, G_fits, b_fits, kp_fits, m_fits, _⟩ := C_fits
  obtain ⟨f_number_in, fd_number_in, G_number_in, b_number_in, kp_number_in, m_number_in, _⟩ := C_number_in
  have z_len := Z_len
  have z_ord := Z_ord
  refine ⟨f, fd, F.ok sc_year_in (fun vs H Q E h => ?_) (fun cdv A outer s H vs Q E hr h => ?_), F.binds (ps := ["part"]) (fun _ _ _ _ _ _ us hl => match us, hl with | [_], _ => rfl), F.kp, mF, Rd.fun_at F⟩
  · obtain ⟨r_part, v_part, rfl, _⟩ := h
    rfl
  obtain ⟨r_part, v_part, rfl, sq_part, hp, q⟩ := h
  refine ⟨_, (pss_cons (ps_if (pt_val (pe_call G_fits (hr.mono (by decide)) rfl m_fits kp_fits b_fits .nil pass0 (pa_cons pe_str (pa_cons (pv 0) pa_nil)))) (pss_one (ps_ret (pe_call G_number_in (hr.mono (by decide)) rfl m_number_in kp_number_in b_number_in .nil pass0 (pa_cons (pv 0) pa_nil)))) pss_nil) (pss_cons (ps_set (i := 1) sc_year_in.nd rfl (Or.inl rfl) (pe_op op_sub (pe_callB call_len_seq rfl z_len PySem.boot_len (pa_cons (pv 0) pa_nil)) pe_int)) (pss_cons (ps_if (PW.pt (pw_or (pt_cmpR op_lt (pv 1) pe_int (nomark _)) (pw_or (pt_cmpR op_gt (pv 1) pe_int (nomark _)) (pw_or1 (PW.pt (pw_and (pt_cmpR op_gt (pv 1) pe_int (nomark _)) (pw_and1 (pt_cmpR op_eq (pe_ix ix_list (pv 0) pe_int (fun _ _ => rfl)) (pe_callB call_ord rfl z_ord Rd.boot_ord (pa_cons pe_str pa_nil)) (nomark _))))))))) (pss_one (ps_ret pe_non)) pss_nil) (pss_cons (ps_set (i := 2) sc_year_in.nd rfl (Or.inl rfl) (pe_call G_number_in (hr.mono (by decide)) rfl m_number_in kp_number_in b_number_in .nil pass0 (pa_cons (pe_slice sl_list (pv 0) (po_some pe_int) po_none) pa_nil))) (pss_cons (ps_if (PW.pt (pw_and (pt_val (pe_call G_fits (hr.mono (by decide)) rfl m_fits kp_fits b_fits .nil pass0 (pa_cons (pe_op op_add_str pe_str (pe_op Tx.op_repS pe_str (pv 1))) (pa_cons (pv 0) pa_nil)))) (pw_and1 (pt_cmpR op_gt (pv 2) pe_int (nomark _))))) (pss_one (ps_ret (pv 2))) pss_nil) (pss_cons (ps_if (PW.pt (pw_and (pt_val (pe_call G_fits (hr.mono (by decide)) rfl m_fits kp_fits b_fits .nil pass0 (pa_cons (pe_op op_add_str pe_str (pe_op Tx.op_repS pe_str (pv 1))) (pa_cons (pv 0) pa_nil)))) (pw_and1 (pt_cmpR op_gt (pv 2) pe_int (nomark _))))) (pss_one (ps_ret (pe_un un_neg (pv 2)))) pss_nil) (pss_one (ps_ret pe_non)))))))), ?_⟩
  refine ⟨_, rfl, _, _, v_part, rfl, (by walk_at "sq"), (by first | (show (Str.ofString "9999").length ≤ 100; decide +kernel) | exact Nat.le_trans (Cal.len_app (n := 1) (by decide +kernel) (Cal.nine_len (by omega) (by omega))) (by decide)), fun H1 gH1 => ?_⟩
  refine ⟨_, rfl, ?_⟩
  refine ite2 (fun h2 => ?_) (fun h2 => ?_)
  · refine ⟨_, rfl, _, v_part, rfl, (by walk_at "sq"), trivial, fun H3 gH3 => ?_⟩
    refine Rd.finSo q (by walk_at "same") ?_
    exact Cal.yr_4 (by assumption)
  · refine ⟨_, rfl, _, v_part.map V.int, rfl, (.inl (by walk_at "sq")), ?_⟩
    rw [List.length_map]
    refine ⟨_, _, rfl, rfl, _, rfl, _, _, rfl, rfl, _, rfl, ?_⟩
    refine Rd.iteD (fun h3 => ?_) (fun h3 => ?_)
    · refine iteT ?_
      refine Rd.finNo q (by walk_at "same") ?_
      exact Cal.yr_no (by assumption) (.inl (by assumption))
    · refine ⟨_, rfl, _, _, rfl, rfl, _, rfl, ?_⟩
      refine Rd.iteD (fun h4 => ?_) (fun h4 => ?_)
      · refine iteT ?_
        refine Rd.finNo q (by walk_at "same") ?_
        exact Cal.yr_no (by assumption) (.inr (.inl (by assumption)))
      · refine ⟨_, rfl, _, _, rfl, rfl, _, rfl, ?_⟩
        refine Rd.iteD (fun h5 => ?_) (fun h5 => ?_)
        · refine ⟨_, rfl, _, v_part.map V.int, _, V.int (v_part.getD (1 : Int).toNat 0), rfl, rfl, (by walk_at "sq"), Rd.at_get (by omega) (by omega), _, rfl, (by decide +kernel), rfl, _, rfl, ?_⟩
          refine Rd.iteE (fun h6 => ?_) (fun h6 => ?_)
          · refine Rd.finNo q (by walk_at "same") ?_
            exact Cal.yr_no (by assumption) (.inr (.inr ⟨by assumption, by assumption⟩))
          · refine ⟨_, rfl, _, rfl, _, v_part.map V.int, rfl, (by walk_at "sq"), fun p7 zp7 => ?_⟩
            rw [Rd.cut_lo (by omega)]
            refine ⟨_, ((v_part.drop (1 : Int).toNat)), rfl, (by walk_at "sq"), trivial, fun H8 gH8 => ?_⟩
            refine ⟨_, rfl, _, _, rfl, rfl, (Cal.nine_ok (by omega) (by omega)), _, _, rfl, rfl, (Cal.len_cat (show (Str.ofString "+").length ≤ 1 by decide +kernel) (Cal.nine_len (by omega) (by omega)) (by decide)), _, rfl, _, _, v_part, rfl, (by walk_at "sq"), (by first | (show (Str.ofString "9999").length ≤ 100; decide +kernel) | exact Nat.le_trans (Cal.len_app (n := 1) (by decide +kernel) (Cal.nine_len (by omega) (by omega))) (by decide)), fun H9 gH9 => ?_⟩
            refine ⟨_, rfl, ?_⟩
            refine ite2 (fun h10 => ?_) (fun h10 => ?_)
            · refine ⟨_, rfl, _, _, rfl, rfl, _, rfl, ?_⟩
              refine Rd.iteD (fun h11 => ?_) (fun h11 => ?_)
              · refine ⟨_, rfl, ?_⟩
                refine Rd.finSo q (by walk_at "same") ?_
                rw [Cal.yr_rest (by assumption) (by assumption) (by assumption) (by first | exact .inl (by assumption) | exact .inr (by assumption))]
                first | rw [if_pos ⟨by assumption, by assumption⟩] | rw [if_neg (fun g => absurd g.1 (by assumption)), if_pos ⟨by assumption, by assumption⟩] | rw [if_neg (fun g => absurd g.2 (by assumption)), if_pos ⟨by assumption, by assumption⟩] | rw [if_neg (fun g => absurd g.1 (by assumption)), if_neg (fun g => absurd g.1 (by assumption))] | rw [if_neg (fun g => absurd g.1 (by assumption)), if_neg (fun g => absurd g.2 (by assumption))] | rw [if_neg (fun g => absurd g.2 (by assumption)), if_neg (fun g => absurd g.1 (by assumption))] | rw [if_neg (fun g => absurd g.2 (by assumption)), if_neg (fun g => absurd g.2 (by assumption))]
              · refine ⟨_, rfl, _, _, rfl, rfl, (Cal.nine_ok (by omega) (by omega)), _, _, rfl, rfl, (Cal.len_cat (show (Str.ofString "-").length ≤ 1 by decide +kernel) (Cal.nine_len (by omega) (by omega)) (by decide)), _, rfl, _, _, v_part, rfl, (by walk_at "sq"), (by first | (show (Str.ofString "9999").length ≤ 100; decide +kernel) | exact Nat.le_trans (Cal.len_app (n := 1) (by decide +kernel) (Cal.nine_len (by omega) (by omega))) (by decide)), fun H12 gH12 => ?_⟩
                refine ⟨_, rfl, ?_⟩
                refine ite2 (fun h13 => ?_) (fun h13 => ?_)
                · refine ⟨_, rfl, _, _, rfl, rfl, _, rfl, ?_⟩
                  refine Rd.iteD (fun h14 => ?_) (fun h14 => ?_)
                  · refine ⟨_, rfl, _, rfl, ?_⟩
                    refine Rd.finSo q (by walk_at "same") ?_
                    rw [Cal.yr_rest (by assumption) (by assumption) (by assumption) (by first | exact .inl (by assumption) | exact .inr (by assumption))]
                    first | rw [if_pos ⟨by assumption, by assumption⟩] | rw [if_neg (fun g => absurd g.1 (by assumption)), if_pos ⟨by assumption, by assumption⟩] | rw [if_neg (fun g => absurd g.2 (by assumption)), if_pos ⟨by assumption, by assumption⟩] | rw [if_neg (fun g => absurd g.1 (by assumption)), if_neg (fun g => absurd g.1 (by assumption))] | rw [if_neg (fun g => absurd g.1 (by assumption)), if_neg (fun g => absurd g.2 (by assumption))] | rw [if_neg (fun g => absurd g.2 (by assumption)), if_neg (fun g => absurd g.1 (by assumption))] | rw [if_neg (fun g => absurd g.2 (by assumption)), if_neg (fun g => absurd g.2 (by assumption))]
                  · refine Rd.finNo q (by walk_at "same") ?_
                    rw [Cal.yr_rest (by assumption) (by assumption) (by assumption) (by first | exact .inl (by assumption) | exact .inr (by assumption))]
                    first | rw [if_pos ⟨by assumption, by assumption⟩] | rw [if_neg (fun g => absurd g.1 (by assumption)), if_pos ⟨by assumption, by assumption⟩] | rw [if_neg (fun g => absurd g.2 (by assumption)), if_pos ⟨by assumption, by assumption⟩] | rw [if_neg (fun g => absurd g.1 (by assumption)), if_neg (fun g => absurd g.1 (by assumption))] | rw [if_neg (fun g => absurd g.1 (by assumption)), if_neg (fun g => absurd g.2 (by assumption))] | rw [if_neg (fun g => absurd g.2 (by assumption)), if_neg (fun g => absurd g.1 (by assumption))] | rw [if_neg (fun g => absurd g.2 (by assumption)), if_neg (fun g => absurd g.2 (by assumption))]
                · refine iteF ?_
                  refine Rd.finNo q (by walk_at "same") ?_
                  rw [Cal.yr_rest (by assumption) (by assumption) (by assumption) (by first | exact .inl (by assumption) | exact .inr (by assumption))]
                  first | rw [if_pos ⟨by assumption, by assumption⟩] | rw [if_neg (fun g => absurd g.1 (by assumption)), if_pos ⟨by assumption, by assumption⟩] | rw [if_neg (fun g => absurd g.2 (by assumption)), if_pos ⟨by assumption, by assumption⟩] | rw [if_neg (fun g => absurd g.1 (by assumption)), if_neg (fun g => absurd g.1 (by assumption))] | rw [if_neg (fun g => absurd g.1 (by assumption)), if_neg (fun g => absurd g.2 (by assumption))] | rw [if_neg (fun g => absurd g.2 (by assumption)), if_neg (fun g => absurd g.1 (by assumption))] | rw [if_neg (fun g => absurd g.2 (by assumption)), if_neg (fun g => absurd g.2 (by assumption))]
            · refine iteF ?_
              refine ⟨_, rfl, _, _, rfl, rfl, (Cal.nine_ok (by omega) (by omega)), _, _, rfl, rfl, (Cal.len_cat (show (Str.ofString "-").length ≤ 1 by decide +kernel) (Cal.nine_len (by omega) (by omega)) (by decide)), _, rfl, _, _, v_part, rfl, (by walk_at "sq"), (by first | (show (Str.ofString "9999").length ≤ 100; decide +kernel) | exact Nat.le_trans (Cal.len_app (n := 1) (by decide +kernel) (Cal.nine_len (by omega) (by omega))) (by decide)), fun H11 gH11 => ?_⟩
              refine ⟨_, rfl, ?_⟩
              refine ite2 (fun h12 => ?_) (fun h12 => ?_)
              · refine ⟨_, rfl, _, _, rfl, rfl, _, rfl, ?_⟩
                refine Rd.iteD (fun h13 => ?_) (fun h13 => ?_)
                · refine ⟨_, rfl, _, rfl, ?_⟩
                  refine Rd.finSo q (by walk_at "same") ?_
                  rw [Cal.yr_rest (by assumption) (by assumption) (by assumption) (by first | exact .inl (by assumption) | exact .inr (by assumption))]
                  first | rw [if_pos ⟨by assumption, by assumption⟩] | rw [if_neg (fun g => absurd g.1 (by assumption)), if_pos ⟨by assumption, by assumption⟩] | rw [if_neg (fun g => absurd g.2 (by assumption)), if_pos ⟨by assumption, by assumption⟩] | rw [if_neg (fun g => absurd g.1 (by assumption)), if_neg (fun g => absurd g.1 (by assumption))] | rw [if_neg (fun g => absurd g.1 (by assumption)), if_neg (fun g => absurd g.2 (by assumption))] | rw [if_neg (fun g => absurd g.2 (by assumption)), if_neg (fun g => absurd g.1 (by assumption))] | rw [if_neg (fun g => absurd g.2 (by assumption)), if_neg (fun g => absurd g.2 (by assumption))]
                · refine Rd.finNo q (by walk_at "same") ?_
                  rw [Cal.yr_rest (by assumption) (by assumption) (by assumption) (by first | exact .inl (by assumption) | exact .inr (by assumption))]
                  first | rw [if_pos ⟨by assumption, by assumption⟩] | rw [if_neg (fun g => absurd g.1 (by assumption)), if_pos ⟨by assumption, by assumption⟩] | rw [if_neg (fun g => absurd g.2 (by assumption)), if_pos ⟨by assumption, by assumption⟩] | rw [if_neg (fun g => absurd g.1 (by assumption)), if_neg (fun g => absurd g.1 (by assumption))] | rw [if_neg (fun g => absurd g.1 (by assumption)), if_neg (fun g => absurd g.2 (by assumption))] | rw [if_neg (fun g => absurd g.2 (by assumption)), if_neg (fun g => absurd g.1 (by assumption))] | rw [if_neg (fun g => absurd g.2 (by assumption)), if_neg (fun g => absurd g.2 (by assumption))]
              · refine iteF ?_
                refine Rd.finNo q (by walk_at "same") ?_
                rw [Cal.yr_rest (by assumption) (by assumption) (by assumption) (by first | exact .inl (by assumption) | exact .inr (by assumption))]
                first | rw [if_pos ⟨by assumption, by assumption⟩] | rw [if_neg (fun g => absurd g.1 (by assumption)), if_pos ⟨by assumption, by assumption⟩] | rw [if_neg (fun g => absurd g.2 (by assumption)), if_pos ⟨by assumption, by assumption⟩] | rw [if_neg (fun g => absurd g.1 (by assumption)), if_neg (fun g => absurd g.1 (by assumption))] | rw [if_neg (fun g => absurd g.1 (by assumption)), if_neg (fun g => absurd g.2 (by assumption))] | rw [if_neg (fun g => absurd g.2 (by assumption)), if_neg (fun g => absurd g.1 (by assumption))] | rw [if_neg (fun g => absurd g.2 (by assumption)), if_neg (fun g => absurd g.2 (by assumption))]
        · refine iteF ?_
          refine ⟨_, rfl, _, rfl, _, v_part.map V.int, rfl, (by walk_at "sq"), fun p6 zp6 => ?_⟩
          rw [Rd.cut_lo (by omega)]
          refine ⟨_, ((v_part.drop (1 : Int).toNat)), rfl, (by walk_at "sq"), trivial, fun H7 gH7 => ?_⟩
          refine ⟨_, rfl, _, _, rfl, rfl, (Cal.nine_ok (by omega) (by omega)), _, _, rfl, rfl, (Cal.len_cat (show (Str.ofString "+").length ≤ 1 by decide +kernel) (Cal.nine_len (by omega) (by omega)) (by decide)), _, rfl, _, _, v_part, rfl, (by walk_at "sq"), (by first | (show (Str.ofString "9999").length ≤ 100; decide +kernel) | exact Nat.le_trans (Cal.len_app (n := 1) (by decide +kernel) (Cal.nine_len (by omega) (by omega))) (by decide)), fun H8 gH8 => ?_⟩
          refine ⟨_, rfl, ?_⟩
          refine ite2 (fun h9 => ?_) (fun h9 => ?_)
          · refine ⟨_, rfl, _, _, rfl, rfl, _, rfl, ?_⟩
            refine Rd.iteD (fun h10 => ?_) (fun h10 => ?_)
            · refine ⟨_, rfl, ?_⟩
              refine Rd.finSo q (by walk_at "same") ?_
              rw [Cal.yr_rest (by assumption) (by assumption) (by assumption) (by first | exact .inl (by assumption) | exact .inr (by assumption))]
              first | rw [if_pos ⟨by assumption, by assumption⟩] | rw [if_neg (fun g => absurd g.1 (by assumption)), if_pos ⟨by assumption, by assumption⟩] | rw [if_neg (fun g => absurd g.2 (by assumption)), if_pos ⟨by assumption, by assumption⟩] | rw [if_neg (fun g => absurd g.1 (by assumption)), if_neg (fun g => absurd g.1 (by assumption))] | rw [if_neg (fun g => absurd g.1 (by assumption)), if_neg (fun g => absurd g.2 (by assumption))] | rw [if_neg (fun g => absurd g.2 (by assumption)), if_neg (fun g => absurd g.1 (by assumption))] | rw [if_neg (fun g => absurd g.2 (by assumption)), if_neg (fun g => absurd g.2 (by assumption))]
            · refine ⟨_, rfl, _, _, rfl, rfl, (Cal.nine_ok (by omega) (by omega)), _, _, rfl, rfl, (Cal.len_cat (show (Str.ofString "-").length ≤ 1 by decide +kernel) (Cal.nine_len (by omega) (by omega)) (by decide)), _, rfl, _, _, v_part, rfl, (by walk_at "sq"), (by first | (show (Str.ofString "9999").length ≤ 100; decide +kernel) | exact Nat.le_trans (Cal.len_app (n := 1) (by decide +kernel) (Cal.nine_len (by omega) (by omega))) (by decide)), fun H11 gH11 => ?_⟩
              refine ⟨_, rfl, ?_⟩
              refine ite2 (fun h12 => ?_) (fun h12 => ?_)
              · refine ⟨_, rfl, _, _, rfl, rfl, _, rfl, ?_⟩
                refine Rd.iteD (fun h13 => ?_) (fun h13 => ?_)
                · refine ⟨_, rfl, _, rfl, ?_⟩
                  refine Rd.finSo q (by walk_at "same") ?_
                  rw [Cal.yr_rest (by assumption) (by assumption) (by assumption) (by first | exact .inl (by assumption) | exact .inr (by assumption))]
                  first | rw [if_pos ⟨by assumption, by assumption⟩] | rw [if_neg (fun g => absurd g.1 (by assumption)), if_pos ⟨by assumption, by assumption⟩] | rw [if_neg (fun g => absurd g.2 (by assumption)), if_pos ⟨by assumption, by assumption⟩] | rw [if_neg (fun g => absurd g.1 (by assumption)), if_neg (fun g => absurd g.1 (by assumption))] | rw [if_neg (fun g => absurd g.1 (by assumption)), if_neg (fun g => absurd g.2 (by assumption))] | rw [if_neg (fun g => absurd g.2 (by assumption)), if_neg (fun g => absurd g.1 (by assumption))] | rw [if_neg (fun g => absurd g.2 (by assumption)), if_neg (fun g => absurd g.2 (by assumption))]
                · refine Rd.finNo q (by walk_at "same") ?_
                  rw [Cal.yr_rest (by assumption) (by assumption) (by assumption) (by first | exact .inl (by assumption) | exact .inr (by assumption))]
                  first | rw [if_pos ⟨by assumption, by assumption⟩] | rw [if_neg (fun g => absurd g.1 (by assumption)), if_pos ⟨by assumption, by assumption⟩] | rw [if_neg (fun g => absurd g.2 (by assumption)), if_pos ⟨by assumption, by assumption⟩] | rw [if_neg (fun g => absurd g.1 (by assumption)), if_neg (fun g => absurd g.1 (by assumption))] | rw [if_neg (fun g => absurd g.1 (by assumption)), if_neg (fun g => absurd g.2 (by assumption))] | rw [if_neg (fun g => absurd g.2 (by assumption)), if_neg (fun g => absurd g.1 (by assumption))] | rw [if_neg (fun g => absurd g.2 (by assumption)), if_neg (fun g => absurd g.2 (by assumption))]
              · refine iteF ?_
                refine Rd.finNo q (by walk_at "same") ?_
                rw [Cal.yr_rest (by assumption) (by assumption) (by assumption) (by first | exact .inl (by assumption) | exact .inr (by assumption))]
                first | rw [if_pos ⟨by assumption, by assumption⟩] | rw [if_neg (fun g => absurd g.1 (by assumption)), if_pos ⟨by assumption, by assumption⟩] | rw [if_neg (fun g => absurd g.2 (by assumption)), if_pos ⟨by assumption, by assumption⟩] | rw [if_neg (fun g => absurd g.1 (by assumption)), if_neg (fun g => absurd g.1 (by assumption))] | rw [if_neg (fun g => absurd g.1 (by assumption)), if_neg (fun g => absurd g.2 (by assumption))] | rw [if_neg (fun g => absurd g.2 (by assumption)), if_neg (fun g => absurd g.1 (by assumption))] | rw [if_neg (fun g => absurd g.2 (by assumption)), if_neg (fun g => absurd g.2 (by assumption))]
          · refine iteF ?_
            refine ⟨_, rfl, _, _, rfl, rfl, (Cal.nine_ok (by omega) (by omega)), _, _, rfl, rfl, (Cal.len_cat (show (Str.ofString "-").length ≤ 1 by decide +kernel) (Cal.nine_len (by omega) (by omega)) (by decide)), _, rfl, _, _, v_part, rfl, (by walk_at "sq"), (by first | (show (Str.ofString "9999").length ≤ 100; decide +kernel) | exact Nat.le_trans (Cal.len_app (n := 1) (by decide +kernel) (Cal.nine_len (by omega) (by omega))) (by decide)), fun H10 gH10 => ?_⟩
            refine ⟨_, rfl, ?_⟩
            refine ite2 (fun h11 => ?_) (fun h11 => ?_)
            · refine ⟨_, rfl, _, _, rfl, rfl, _, rfl, ?_⟩
              refine Rd.iteD (fun h12 => ?_) (fun h12 => ?_)
              · refine ⟨_, rfl, _, rfl, ?_⟩
                refine Rd.finSo q (by walk_at "same") ?_
                rw [Cal.yr_rest (by assumption) (by assumption) (by assumption) (by first | exact .inl (by assumption) | exact .inr (by assumption))]
                first | rw [if_pos ⟨by assumption, by assumption⟩] | rw [if_neg (fun g => absurd g.1 (by assumption)), if_pos ⟨by assumption, by assumption⟩] | rw [if_neg (fun g => absurd g.2 (by assumption)), if_pos ⟨by assumption, by assumption⟩] | rw [if_neg (fun g => absurd g.1 (by assumption)), if_neg (fun g => absurd g.1 (by assumption))] | rw [if_neg (fun g => absurd g.1 (by assumption)), if_neg (fun g => absurd g.2 (by assumption))] | rw [if_neg (fun g => absurd g.2 (by assumption)), if_neg (fun g => absurd g.1 (by assumption))] | rw [if_neg (fun g => absurd g.2 (by assumption)), if_neg (fun g => absurd g.2 (by assumption))]
              · refine Rd.finNo q (by walk_at "same") ?_
                rw [Cal.yr_rest (by assumption) (by assumption) (by assumption) (by first | exact .inl (by assumption) | exact .inr (by assumption))]
                first | rw [if_pos ⟨by assumption, by assumption⟩] | rw [if_neg (fun g => absurd g.1 (by assumption)), if_pos ⟨by assumption, by assumption⟩] | rw [if_neg (fun g => absurd g.2 (by assumption)), if_pos ⟨by assumption, by assumption⟩] | rw [if_neg (fun g => absurd g.1 (by assumption)), if_neg (fun g => absurd g.1 (by assumption))] | rw [if_neg (fun g => absurd g.1 (by assumption)), if_neg (fun g => absurd g.2 (by assumption))] | rw [if_neg (fun g => absurd g.2 (by assumption)), if_neg (fun g => absurd g.1 (by assumption))] | rw [if_neg (fun g => absurd g.2 (by assumption)), if_neg (fun g => absurd g.2 (by assumption))]
            · refine iteF ?_
              refine Rd.finNo q (by walk_at "same") ?_
              rw [Cal.yr_rest (by assumption) (by assumption) (by assumption) (by first | exact .inl (by assumption) | exact .inr (by assumption))]
              first | rw [if_pos ⟨by assumption, by assumption⟩] | rw [if_neg (fun g => absurd g.1 (by assumption)), if_pos ⟨by assumption, by assumption⟩] | rw [if_neg (fun g => absurd g.2 (by assumption)), if_pos ⟨by assumption, by assumption⟩] | rw [if_neg (fun g => absurd g.1 (by assumption)), if_neg (fun g => absurd g.1 (by assumption))] | rw [if_neg (fun g => absurd g.1 (by assumption)), if_neg (fun g => absurd g.2 (by assumption))] | rw [if_neg (fun g => absurd g.2 (by assumption)), if_neg (fun g => absurd g.1 (by assumption))] | rw [if_neg (fun g => absurd g.2 (by assumption)), if_neg (fun g => absurd g.2 (by assumption))]
theorem sc_day_in : FnScope ["style", "y", "part", "number"] ["style", "y", "part"] (defScope s_day_in) := ⟨rfl, rfl, rfl, by decide +kernel, rfl, by decide +kernel, by decide +kernel⟩
set_option maxHeartbeats 4000000 in
theorem ok_day_in (F : Dfn K mg "day_in" s_day_in) (C_day_of : Ok P w K mg base 6 "day_of" ["kind", "y", "m", "d"] sp_day_of) (C_number_in : Ok P w K mg base 1 "number_in" ["digits"] (sp_number_in K)) (C_year_start : Ok P w K mg base 4 "year_start" ["kind", "y"] sp_year_start) (C_year_of : Ok P w K mg base 5 "year_of" ["kind", "number"] sp_year_of) (M_MONTH_STYLE : ∃ t, mg "MONTH_STYLE" = some (Value.int (0) t)) (M_GREGORIAN : ∃ t, mg "GREGORIAN" = some (Value.int (0) t)) (M_WEEK_STYLE : ∃ t, mg "WEEK_STYLE" = some (Value.int (2) t)) (M_WEEKS : ∃ t, mg "WEEKS" = some (Value.int (7) t)) : Ok P w K mg base 7 "day_in" ["style", "y", "part"] (sp_day_in K) := by
  obtain ⟨f, fd, F, mF⟩ := F
  obtain ⟨f_day_of, fd_day_of, G_day_of, b_day_of, kp_day_of, m_day_of, _⟩ := C_day_of
  obtain ⟨f_number_in, fd_number_in, G_number_in, b_number_in, kp_number_in, m_number_in, _⟩ := C_number_in
  obtain ⟨f_year_start, fd_year_start, G_year_start, b_year_start, kp_year_start, m_year_start, _⟩ := C_year_start
  obtain ⟨f_year_of, fd_year_of, G_year_of, b_year_of, kp_year_of, m_year_of, _⟩ := C_year_of
  obtain ⟨t_MONTH_STYLE, m_MONTH_STYLE⟩ := M_MONTH_STYLE
  obtain ⟨t_GREGORIAN, m_GREGORIAN⟩ := M_GREGORIAN
  obtain ⟨t_WEEK_STYLE, m_WEEK_STYLE⟩ := M_WEEK_STYLE
  obtain ⟨t_WEEKS, m_WEEKS⟩ := M_WEEKS
  refine ⟨f, fd, F.ok sc_day_in (fun vs H Q E h => ?_) (fun cdv A outer s H vs Q E hr h => ?_), F.binds (ps := ["style", "y", "part"]) (fun _ _ _ _ _ _ us hl => match us, hl with | [_, _, _], _ => rfl), F.kp, mF, Rd.fun_at F⟩
  · obtain ⟨v_style, v_y, r_part, v_part, rfl, _⟩ := h
    rfl
  obtain ⟨v_style, v_y, r_part, v_part, rfl, sq_part, hp, q⟩ := h
  refine ⟨_, (pss_cons (ps_if (pt_cmpR op_eq (pv 0) (pe_glob (v := .int (0)) rfl m_MONTH_STYLE ⟨_, rfl⟩) (nomark _)) (pss_one (ps_ret (pe_call G_day_of (hr.mono (by decide)) rfl m_day_of kp_day_of b_day_of .nil pass0 (pa_cons (pe_glob (v := .int (0)) rfl m_GREGORIAN ⟨_, rfl⟩) (pa_cons (pv 1) (pa_cons (pe_call G_number_in (hr.mono (by decide)) rfl m_number_in kp_number_in b_number_in .nil pass0 (pa_cons (pe_slice sl_list (pv 2) (po_some pe_int) (po_some pe_int)) pa_nil)) (pa_cons (pe_call G_number_in (hr.mono (by decide)) rfl m_number_in kp_number_in b_number_in .nil pass0 (pa_cons (pe_slice sl_list (pv 2) (po_some pe_int) po_none) pa_nil)) pa_nil))))))) pss_nil) (pss_cons (ps_if (pt_cmpR op_eq (pv 0) (pe_glob (v := .int (2)) rfl m_WEEK_STYLE ⟨_, rfl⟩) (nomark _)) (pss_one (ps_ret (pe_call G_day_of (hr.mono (by decide)) rfl m_day_of kp_day_of b_day_of .nil pass0 (pa_cons (pe_glob (v := .int (7)) rfl m_WEEKS ⟨_, rfl⟩) (pa_cons (pv 1) (pa_cons (pe_call G_number_in (hr.mono (by decide)) rfl m_number_in kp_number_in b_number_in .nil pass0 (pa_cons (pe_slice sl_list (pv 2) (po_some pe_int) (po_some pe_int)) pa_nil)) (pa_cons (pe_call G_number_in (hr.mono (by decide)) rfl m_number_in kp_number_in b_number_in .nil pass0 (pa_cons (pe_slice sl_list (pv 2) (po_some pe_int) po_none) pa_nil)) pa_nil))))))) pss_nil) (pss_cons (ps_set (i := 3) sc_day_in.nd rfl (Or.inl rfl) (pe_op op_sub (pe_op op_add (pe_call G_year_start (hr.mono (by decide)) rfl m_year_start kp_year_start b_year_start .nil pass0 (pa_cons (pe_glob (v := .int (0)) rfl m_GREGORIAN ⟨_, rfl⟩) (pa_cons (pv 1) pa_nil))) (pe_call G_number_in (hr.mono (by decide)) rfl m_number_in kp_number_in b_number_in .nil pass0 (pa_cons (pe_slice sl_list (pv 2) (po_some pe_int) po_none) pa_nil))) pe_int)) (pss_one (ps_ret (pe_ifExp (pt_cmpR op_eq (pe_call G_year_of (hr.mono (by decide)) rfl m_year_of kp_year_of b_year_of .nil pass0 (pa_cons (pe_glob (v := .int (0)) rfl m_GREGORIAN ⟨_, rfl⟩) (pa_cons (pv 3) pa_nil))) (pv 1) (nomark _)) (pv 3) pe_non)))))), ?_⟩
  refine ⟨_, rfl, rfl, _, rfl, ?_⟩
  refine Rd.iteE (fun h1 => ?_) (fun h1 => ?_)
  · refine ⟨_, rfl, _, rfl, _, rfl, _, rfl, _, v_part.map V.int, rfl, (by walk_at "sq"), fun p2 zp2 => ?_⟩
    rw [Rd.cut_mid (by omega) (by omega)]
    refine ⟨_, (((v_part.take (3 : Int).toNat).drop (1 : Int).toNat)), rfl, (by walk_at "sq"), trivial, fun H3 gH3 => ?_⟩
    refine ⟨_, rfl, _, rfl, _, v_part.map V.int, rfl, (by walk_at "sq"), fun p4 zp4 => ?_⟩
    rw [Rd.cut_lo (by omega)]
    refine ⟨_, ((v_part.drop (4 : Int).toNat)), rfl, (by walk_at "sq"), trivial, fun H5 gH5 => ?_⟩
    refine ⟨_, _, _, _, rfl, trivial, fun H6 gH6 => ?_⟩
    rcases ex7 : (Cal.dayO ((0)) v_y ((Cal.numI (((v_part.take (3 : Int).toNat).drop (1 : Int).toNat)))) ((Cal.numI ((v_part.drop (4 : Int).toNat))))) with _ | x7
    · show _
      refine Rd.finNo q (by walk_at "same") ?_
      first | exact Cal.dyI_0 (by assumption) (by assumption) | exact Cal.dyI_2 (by assumption) (by assumption) (by assumption) | exact Cal.dyI_1 (by assumption) (by assumption) (by assumption) | exact Cal.dyI_n (by assumption) (by assumption) (by assumption)
    · show _
      refine Rd.finSo q (by walk_at "same") ?_
      first | exact Cal.dyI_0 (by assumption) (by assumption) | exact Cal.dyI_2 (by assumption) (by assumption) (by assumption) | exact Cal.dyI_1 (by assumption) (by assumption) (by assumption) | exact Cal.dyI_n (by assumption) (by assumption) (by assumption)
  · refine ⟨_, rfl, rfl, _, rfl, ?_⟩
    refine Rd.iteE (fun h2 => ?_) (fun h2 => ?_)
    · refine ⟨_, rfl, _, rfl, _, rfl, _, rfl, _, v_part.map V.int, rfl, (by walk_at "sq"), fun p3 zp3 => ?_⟩
      rw [Rd.cut_mid (by omega) (by omega)]
      refine ⟨_, (((v_part.take (4 : Int).toNat).drop (2 : Int).toNat)), rfl, (by walk_at "sq"), trivial, fun H4 gH4 => ?_⟩
      refine ⟨_, rfl, _, rfl, _, v_part.map V.int, rfl, (by walk_at "sq"), fun p5 zp5 => ?_⟩
      rw [Rd.cut_lo (by omega)]
      refine ⟨_, ((v_part.drop (5 : Int).toNat)), rfl, (by walk_at "sq"), trivial, fun H6 gH6 => ?_⟩
      refine ⟨_, _, _, _, rfl, trivial, fun H7 gH7 => ?_⟩
      rcases ex8 : (Cal.dayO ((7)) v_y ((Cal.numI (((v_part.take (4 : Int).toNat).drop (2 : Int).toNat)))) ((Cal.numI ((v_part.drop (5 : Int).toNat))))) with _ | x8
      · show _
        refine Rd.finNo q (by walk_at "same") ?_
        first | exact Cal.dyI_0 (by assumption) (by assumption) | exact Cal.dyI_2 (by assumption) (by assumption) (by assumption) | exact Cal.dyI_1 (by assumption) (by assumption) (by assumption) | exact Cal.dyI_n (by assumption) (by assumption) (by assumption)
      · show _
        refine Rd.finSo q (by walk_at "same") ?_
        first | exact Cal.dyI_0 (by assumption) (by assumption) | exact Cal.dyI_2 (by assumption) (by assumption) (by assumption) | exact Cal.dyI_1 (by assumption) (by assumption) (by assumption) | exact Cal.dyI_n (by assumption) (by assumption) (by assumption)
    · refine ⟨_, rfl, _, _, rfl, trivial, _, rfl, _, rfl, _, v_part.map V.int, rfl, (by walk_at "sq"), fun p3 zp3 => ?_⟩
      rw [Rd.cut_lo (by omega)]
      refine ⟨_, ((v_part.drop (1 : Int).toNat)), rfl, (by walk_at "sq"), trivial, fun H4 gH4 => ?_⟩
      refine ⟨_, _, rfl, rfl, _, _, rfl, rfl, _, rfl, _, _, rfl, ⟨by decide, by decide⟩, fun H5 gH5 => ?_⟩
      refine ⟨_, rfl, rfl, _, rfl, ?_⟩
      refine Rd.iteE (fun h6 => ?_) (fun h6 => ?_)
      · refine ⟨_, rfl, ?_⟩
        refine Rd.finSo q (by walk_at "same") ?_
        first | exact Cal.dyI_0 (by assumption) (by assumption) | exact Cal.dyI_2 (by assumption) (by assumption) (by assumption) | exact Cal.dyI_1 (by assumption) (by assumption) (by assumption) | exact Cal.dyI_n (by assumption) (by assumption) (by assumption)
      · refine Rd.finNo q (by walk_at "same") ?_
        first | exact Cal.dyI_0 (by assumption) (by assumption) | exact Cal.dyI_2 (by assumption) (by assumption) (by assumption) | exact Cal.dyI_1 (by assumption) (by assumption) (by assumption) | exact Cal.dyI_n (by assumption) (by assumption) (by assumption)
theorem sc_read : FnScope ["text", "style", "form", "part", "y", "found"] ["text"] (defScope s_read) := ⟨rfl, rfl, rfl, by decide +kernel, rfl, by decide +kernel, by decide +kernel⟩
set_option maxHeartbeats 4000000 in
theorem ok_read (F : Dfn K mg "read" s_read) (C_fits : Ok P w K mg base 1 "fits" ["form", "part"] (sp_fits K)) (C_year_in : Ok P w K mg base 2 "year_in" ["part"] (sp_year_in K)) (C_day_in : Ok P w K mg base 7 "day_in" ["style", "y", "part"] (sp_day_in K)) (C_is_day : Ok P w K mg base 1 "is_day" ["number"] sp_is_day) (Z_enumerate : mg "enumerate" = none) (Z_len : mg "len" = none) (M_FORMS : ∃ a, mg "FORMS" = some (.ref a) ∧ ∀ H : Hp, SqT K H a (([Str.ofString "-99-99", Str.ofString "-999", Str.ofString "-W99-9"] : List Str).map V.str)) (M_REFUSAL : ∃ t, mg "REFUSAL" = some (Value.int (-1) t)) : Ok P w K mg base 8 "read" ["text"] (sp_read K) := by
  obtain ⟨f, fd, F, mF⟩ := F
  obtain ⟨f_fits, fd_fits, G_fits, b_fits, kp_fits, m_fits, _⟩ := C_fits
  obtain ⟨f_year_in, fd_year_in, G_year_in, b_year_in, kp_year_in, m_year_in, _⟩ := C_year_in
  obtain ⟨f_day_in, fd_day_in, G_day_in, b_day_in, kp_day_in, m_day_in, _⟩ := C_day_in
  obtain ⟨f_is_day, fd_is_day, G_is_day, b_is_day, kp_is_day, m_is_day, _⟩ := C_is_day
  have z_enumerate := Z_enumerate
  have z_len := Z_len
  obtain ⟨a_FORMS, m_FORMS, hs_FORMS⟩ := M_FORMS
  obtain ⟨t_REFUSAL, m_REFUSAL⟩ := M_REFUSAL
  refine ⟨f, fd, F.ok sc_read (fun vs H Q E h => ?_) (fun cdv A outer s H vs Q E hr h => ?_), F.binds (ps := ["text"]) (fun _ _ _ _ _ _ us hl => match us, hl with | [_], _ => rfl), F.kp, mF, Rd.fun_at F⟩
  · obtain ⟨r_text, v_text, rfl, _⟩ := h
    rfl
  obtain ⟨r_text, v_text, rfl, sq_text, hp, q⟩ := h
  refine ⟨_, (pss_cons (ps_for PassesOwn.never rfl (Zt.pi_enumx rfl z_enumerate (pa_cons (pe_glob (v := .ref a_FORMS) rfl m_FORMS rfl) pa_nil)) (pg_tup rfl (pgs_cons (pg_name (i := 1) sc_read.nd rfl (Or.inl rfl)) (pgs_cons (pg_name (i := 2) sc_read.nd rfl (Or.inl rfl)) pgs_nil))) (pss_cons (ps_set (i := 3) sc_read.nd rfl (Or.inl rfl) (pe_slice sl_list (pv 0) (po_some (pe_un un_neg (pe_callB call_len_str rfl z_len PySem.boot_len (pa_cons (pv 2) pa_nil)))) po_none)) (pss_one (ps_if (pt_val (pe_call G_fits (hr.mono (by decide)) rfl m_fits kp_fits b_fits .nil pass0 (pa_cons (pv 2) (pa_cons (pv 3) pa_nil)))) (pss_cons (ps_set (i := 4) sc_read.nd rfl (Or.inl rfl) (pe_call G_year_in (hr.mono (by decide)) rfl m_year_in kp_year_in b_year_in .nil pass0 (pa_cons (pe_slice sl_list (pv 0) po_none (po_some (pe_un un_neg (pe_callB call_len_str rfl z_len PySem.boot_len (pa_cons (pv 2) pa_nil))))) pa_nil))) (pss_cons (ps_set (i := 5) sc_read.nd rfl (Or.inl rfl) (pe_ifExp (pt_cmpR op_isN (pv 4) pe_non (nomark _)) pe_non (pe_call G_day_in (hr.mono (by decide)) rfl m_day_in kp_day_in b_day_in .nil pass0 (pa_cons (pv 1) (pa_cons (pv 4) (pa_cons (pv 3) pa_nil)))))) (pss_one (ps_if (PW.pt (pw_and (pt_cmpR op_notN (pv 5) pe_non (nomark _)) (pw_and1 (pt_val (pe_call G_is_day (hr.mono (by decide)) rfl m_is_day kp_is_day b_is_day .nil pass0 (pa_cons (pv 5) pa_nil)))))) (pss_one (ps_ret (pe_lst (pa_cons pe_int (pa_cons (pv 5) pa_nil))))) pss_nil)))) pss_nil)))) (pss_one (ps_ret (pe_lst (pa_cons (pe_glob (v := .int (-1)) rfl m_REFUSAL ⟨_, rfl⟩) pa_nil))))), ?_⟩
  refine ⟨_, _, rfl, (hs_FORMS _), ?_⟩
  refine Zt.for_enumx (fun i σ H' => ∃ (o_style : Option V) (o_form : Option V) (o_part : Option V) (o_y : Option V) (o_found : Option V), σ = [some (.ref r_text), o_style, o_form, o_part, o_y, o_found] ∧ Same H H' ∧ ∀ j, j < i → ∀ d, Cal.att j v_text = some d → ¬ Cal.isd d = true) ?_ ?_ ?_ ?_
  · exact ⟨_, _, _, _, _, rfl, by walk_at "same", (fun _ h => absurd h (Nat.not_lt_zero _))⟩
  · rintro i σ H' ⟨o_style, o_form, o_part, o_y, o_found, rfl, gg, _⟩
    exact hs_FORMS _
  · rintro i x T σ H' hx zT ⟨o_style, o_form, o_part, o_y, o_found, rfl, gg, hinv⟩
    obtain ⟨w_form, rfl, hv⟩ := Rd.itemS hx
    obtain ⟨hf, hi3⟩ := Cal.forms_at hv
    refine ⟨_, _, rfl, SqT.of upd_same, rfl, _, _, rfl, _, _, rfl, rfl, ?_⟩
    refine ⟨_, rfl, _, rfl, _, rfl, (Rd.small (Nat.le_trans (Cal.frm_len hf) (by decide))), _, rfl, _, rfl, _, v_text.map V.int, rfl, (by walk_at "sq"), fun p1 zp1 => ?_⟩
    rw [Rd.cut_lo_neg (Cal.frm_pos hf)]
    refine ⟨_, rfl, _, rfl, _, _, ((v_text.drop (v_text.length - (((w_form.length : Nat) : Int)).toNat))), rfl, (by walk_at "sq"), (Nat.le_trans (Cal.frm_len hf) (by decide)), fun H2 gH2 => ?_⟩
    refine ⟨_, rfl, ?_⟩
    refine ite2 (fun h3 => ?_) (fun h3 => ?_)
    · refine ⟨_, rfl, _, rfl, _, rfl, (Rd.small (Nat.le_trans (Cal.frm_len hf) (by decide))), _, rfl, _, rfl, _, v_text.map V.int, rfl, (by walk_at "sq"), fun p4 zp4 => ?_⟩
      rw [Rd.cut_hi_neg (Cal.frm_pos hf)]
      refine ⟨_, ((v_text.take (v_text.length - (((w_form.length : Nat) : Int)).toNat))), rfl, (by walk_at "sq"), trivial, fun H5 gH5 => ?_⟩
      rcases ex6 : (Cal.yrI ((v_text.take (v_text.length - (((w_form.length : Nat) : Int)).toNat)))) with _ | x6
      · show _
        refine ⟨_, rfl, rfl, _, rfl, ?_⟩
        refine Rd.ifT (by first | rfl | decide | simp) ?_
        refine ⟨_, rfl, rfl, _, rfl, ?_⟩
        refine Rd.ifF (by first | rfl | decide | simp) ?_
        refine iteF ?_
        exact ⟨_, _, _, _, _, rfl, by walk_at "same", Cal.att_on hinv (Cal.att_n2 hf (by assumption) (by assumption))⟩
      · show _
        refine ⟨_, rfl, rfl, _, rfl, ?_⟩
        refine Rd.ifF (by first | rfl | decide | simp) ?_
        refine ⟨_, rfl, _, rfl, _, rfl, _, _, _, ((v_text.drop (v_text.length - (((w_form.length : Nat) : Int)).toNat))), rfl, (by walk_at "sq"), trivial, fun H7 gH7 => ?_⟩
        rcases ex8 : (Cal.dyI (((i : Nat) : Int)) x6 ((v_text.drop (v_text.length - (((w_form.length : Nat) : Int)).toNat)))) with _ | x8
        · show _
          refine ⟨_, rfl, rfl, _, rfl, ?_⟩
          refine Rd.ifF (by first | rfl | decide | simp) ?_
          refine iteF ?_
          exact ⟨_, _, _, _, _, rfl, by walk_at "same", Cal.att_on hinv (Cal.att_n3 hf (by assumption) (by assumption) (by assumption))⟩
        · show _
          refine ⟨_, rfl, rfl, _, rfl, ?_⟩
          refine Rd.ifT (by first | rfl | decide | simp) ?_
          refine ⟨_, rfl, _, rfl, trivial, _, rfl, ?_⟩
          refine ite2 (fun h9 => ?_) (fun h9 => ?_)
          · refine ⟨_, rfl, (by show 2 ≤ sizeLine; decide), fun p10 zp10 => ?_⟩
            refine Rd.finL (xs := ([0, x8] : List Int)) q (by walk_at "same") (by walk_at "look") ?_
            exact Cal.reA_yes hp hi3 (Cal.att_yes hf (by assumption) (by assumption) (by assumption)) (by assumption)
          · exact ⟨_, _, _, _, _, rfl, by walk_at "same", Cal.att_off hinv (Cal.att_yes hf (by assumption) (by assumption) (by assumption)) (by assumption)⟩
    · exact ⟨_, _, _, _, _, rfl, by walk_at "same", Cal.att_on hinv (Cal.att_n1 hf (by assumption))⟩
  · rintro σ H' ⟨o_style, o_form, o_part, o_y, o_found, rfl, gg, hinv⟩
    refine ⟨(by show 1 ≤ sizeLine; decide), fun p1 zp1 => ?_⟩
    refine Rd.finL (xs := ([(-1)] : List Int)) q (by walk_at "same") (by walk_at "look") ?_
    exact Cal.reA_no hp hinv
end
set_option maxHeartbeats 4000000 in
theorem all_mk {r : OpenSpec} {w : World} {K : PySem.W.Frag} {h : Heap} {mg : Str → Option Value} {fa : Addr} (X : K.In h) (G : h.Ns mainGlobals mg) (hfa : mg "read" = some (.ref fa))
    {f_is_day : Addr} {od_is_day an_is_day : Option Addr} {sl_is_day : Array (Option Value)} {oc_is_day kV_is_day dc_is_day pm_is_day cd_is_day ct_is_day : Value}
    {f_gregorian_start : Addr} {od_gregorian_start an_gregorian_start : Option Addr} {sl_gregorian_start : Array (Option Value)} {oc_gregorian_start kV_gregorian_start dc_gregorian_start pm_gregorian_start cd_gregorian_start ct_gregorian_start : Value}
    {f_julian_start : Addr} {od_julian_start an_julian_start : Option Addr} {sl_julian_start : Array (Option Value)} {oc_julian_start kV_julian_start dc_julian_start pm_julian_start cd_julian_start ct_julian_start : Value}
    {f_hebrew_months_before : Addr} {od_hebrew_months_before an_hebrew_months_before : Option Addr} {sl_hebrew_months_before : Array (Option Value)} {oc_hebrew_months_before kV_hebrew_months_before dc_hebrew_months_before pm_hebrew_months_before cd_hebrew_months_before ct_hebrew_months_before : Value}
    {f_hebrew_elapsed : Addr} {od_hebrew_elapsed an_hebrew_elapsed : Option Addr} {sl_hebrew_elapsed : Array (Option Value)} {oc_hebrew_elapsed kV_hebrew_elapsed dc_hebrew_elapsed pm_hebrew_elapsed cd_hebrew_elapsed ct_hebrew_elapsed : Value}
    {f_hebrew_start : Addr} {od_hebrew_start an_hebrew_start : Option Addr} {sl_hebrew_start : Array (Option Value)} {oc_hebrew_start kV_hebrew_start dc_hebrew_start pm_hebrew_start cd_hebrew_start ct_hebrew_start : Value}
    {f_islamic_start : Addr} {od_islamic_start an_islamic_start : Option Addr} {sl_islamic_start : Array (Option Value)} {oc_islamic_start kV_islamic_start dc_islamic_start pm_islamic_start cd_islamic_start ct_islamic_start : Value}
    {f_coptic_start : Addr} {od_coptic_start an_coptic_start : Option Addr} {sl_coptic_start : Array (Option Value)} {oc_coptic_start kV_coptic_start dc_coptic_start pm_coptic_start cd_coptic_start ct_coptic_start : Value}
    {f_ethiopian_start : Addr} {od_ethiopian_start an_ethiopian_start : Option Addr} {sl_ethiopian_start : Array (Option Value)} {oc_ethiopian_start kV_ethiopian_start dc_ethiopian_start pm_ethiopian_start cd_ethiopian_start ct_ethiopian_start : Value}
    {f_persian_start : Addr} {od_persian_start an_persian_start : Option Addr} {sl_persian_start : Array (Option Value)} {oc_persian_start kV_persian_start dc_persian_start pm_persian_start cd_persian_start ct_persian_start : Value}
    {f_weeks_start : Addr} {od_weeks_start an_weeks_start : Option Addr} {sl_weeks_start : Array (Option Value)} {oc_weeks_start kV_weeks_start dc_weeks_start pm_weeks_start cd_weeks_start ct_weeks_start : Value}
    {f_year_start : Addr} {od_year_start an_year_start : Option Addr} {sl_year_start : Array (Option Value)} {oc_year_start kV_year_start dc_year_start pm_year_start cd_year_start ct_year_start : Value}
    {f_year_of : Addr} {od_year_of an_year_of : Option Addr} {sl_year_of : Array (Option Value)} {oc_year_of kV_year_of dc_year_of pm_year_of cd_year_of ct_year_of : Value}
    {f_hebrew_months : Addr} {od_hebrew_months an_hebrew_months : Option Addr} {sl_hebrew_months : Array (Option Value)} {oc_hebrew_months kV_hebrew_months dc_hebrew_months pm_hebrew_months cd_hebrew_months ct_hebrew_months : Value}
    {f_month_lengths : Addr} {od_month_lengths an_month_lengths : Option Addr} {sl_month_lengths : Array (Option Value)} {oc_month_lengths kV_month_lengths dc_month_lengths pm_month_lengths cd_month_lengths ct_month_lengths : Value}
    {f_day_of : Addr} {od_day_of an_day_of : Option Addr} {sl_day_of : Array (Option Value)} {oc_day_of kV_day_of dc_day_of pm_day_of cd_day_of ct_day_of : Value}
    {f_fits : Addr} {od_fits an_fits : Option Addr} {sl_fits : Array (Option Value)} {oc_fits kV_fits dc_fits pm_fits cd_fits ct_fits : Value}
    {f_number_in : Addr} {od_number_in an_number_in : Option Addr} {sl_number_in : Array (Option Value)} {oc_number_in kV_number_in dc_number_in pm_number_in cd_number_in ct_number_in : Value}
    {f_year_in : Addr} {od_year_in an_year_in : Option Addr} {sl_year_in : Array (Option Value)} {oc_year_in kV_year_in dc_year_in pm_year_in cd_year_in ct_year_in : Value}
    {f_day_in : Addr} {od_day_in an_day_in : Option Addr} {sl_day_in : Array (Option Value)} {oc_day_in kV_day_in dc_day_in pm_day_in cd_day_in ct_day_in : Value}
    {f_read : Addr} {od_read an_read : Option Addr} {sl_read : Array (Option Value)} {oc_read kV_read dc_read pm_read cd_read ct_read : Value}
    {t_LOWEST_DAY : Tok}
    {t_HIGHEST_DAY : Tok}
    {t_GREGORIAN : Tok}
    {t_JULIAN : Tok}
    {t_HEBREW : Tok}
    {t_ISLAMIC : Tok}
    {t_COPTIC : Tok}
    {t_ETHIOPIAN : Tok}
    {t_PERSIAN : Tok}
    {ta_MEAN_YEARS : Addr} {to_MEAN_YEARS : Option Addr} {tn_MEAN_YEARS : Nat} {tsl_MEAN_YEARS : Array (Option Value)}
    {u_MEAN_YEARS0 : Addr} {uo_MEAN_YEARS0 : Option Addr} {un_MEAN_YEARS0 : Nat} {usl_MEAN_YEARS0 : Array (Option Value)} {ut_MEAN_YEARS0_0 : Tok} {ut_MEAN_YEARS0_1 : Tok} {u_MEAN_YEARS1 : Addr} {uo_MEAN_YEARS1 : Option Addr} {un_MEAN_YEARS1 : Nat} {usl_MEAN_YEARS1 : Array (Option Value)} {ut_MEAN_YEARS1_0 : Tok} {ut_MEAN_YEARS1_1 : Tok} {u_MEAN_YEARS2 : Addr} {uo_MEAN_YEARS2 : Option Addr} {un_MEAN_YEARS2 : Nat} {usl_MEAN_YEARS2 : Array (Option Value)} {ut_MEAN_YEARS2_0 : Tok} {ut_MEAN_YEARS2_1 : Tok} {u_MEAN_YEARS3 : Addr} {uo_MEAN_YEARS3 : Option Addr} {un_MEAN_YEARS3 : Nat} {usl_MEAN_YEARS3 : Array (Option Value)} {ut_MEAN_YEARS3_0 : Tok} {ut_MEAN_YEARS3_1 : Tok} {u_MEAN_YEARS4 : Addr} {uo_MEAN_YEARS4 : Option Addr} {un_MEAN_YEARS4 : Nat} {usl_MEAN_YEARS4 : Array (Option Value)} {ut_MEAN_YEARS4_0 : Tok} {ut_MEAN_YEARS4_1 : Tok} {u_MEAN_YEARS5 : Addr} {uo_MEAN_YEARS5 : Option Addr} {un_MEAN_YEARS5 : Nat} {usl_MEAN_YEARS5 : Array (Option Value)} {ut_MEAN_YEARS5_0 : Tok} {ut_MEAN_YEARS5_1 : Tok} {u_MEAN_YEARS6 : Addr} {uo_MEAN_YEARS6 : Option Addr} {un_MEAN_YEARS6 : Nat} {usl_MEAN_YEARS6 : Array (Option Value)} {ut_MEAN_YEARS6_0 : Tok} {ut_MEAN_YEARS6_1 : Tok} {u_MEAN_YEARS7 : Addr} {uo_MEAN_YEARS7 : Option Addr} {un_MEAN_YEARS7 : Nat} {usl_MEAN_YEARS7 : Array (Option Value)} {ut_MEAN_YEARS7_0 : Tok} {ut_MEAN_YEARS7_1 : Tok}
    {t_MONTH_STYLE : Tok}
    {t_WEEK_STYLE : Tok}
    {t_WEEKS : Tok}
    {ta_FORMS : Addr} {to_FORMS : Option Addr} {tn_FORMS : Nat} {tsl_FORMS : Array (Option Value)} {ut_FORMS0 : Tok} {ut_FORMS1 : Tok} {ut_FORMS2 : Tok}
    {t_REFUSAL : Tok}
    (a_is_day : PySem.W.nsIn K mainGlobals "is_day" = some (some (.ref f_is_day))) (l_is_day : K.lookup f_is_day = some ⟨oc_is_day, od_is_day, .func (PySem.W.fnOf "is_day" "is_day" (defArgs s_is_day) (defBody s_is_day) (defScope s_is_day) .none kV_is_day dc_is_day pm_is_day an_is_day cd_is_day ct_is_day), sl_is_day⟩) (c_is_day : PySem.W.codeIn K cd_is_day "is_day" = true) (k_is_day : PySem.W.keepIn K (.ref f_is_day) = true)
    (a_gregorian_start : PySem.W.nsIn K mainGlobals "gregorian_start" = some (some (.ref f_gregorian_start))) (l_gregorian_start : K.lookup f_gregorian_start = some ⟨oc_gregorian_start, od_gregorian_start, .func (PySem.W.fnOf "gregorian_start" "gregorian_start" (defArgs s_gregorian_start) (defBody s_gregorian_start) (defScope s_gregorian_start) .none kV_gregorian_start dc_gregorian_start pm_gregorian_start an_gregorian_start cd_gregorian_start ct_gregorian_start), sl_gregorian_start⟩) (c_gregorian_start : PySem.W.codeIn K cd_gregorian_start "gregorian_start" = true) (k_gregorian_start : PySem.W.keepIn K (.ref f_gregorian_start) = true)
    (a_julian_start : PySem.W.nsIn K mainGlobals "julian_start" = some (some (.ref f_julian_start))) (l_julian_start : K.lookup f_julian_start = some ⟨oc_julian_start, od_julian_start, .func (PySem.W.fnOf "julian_start" "julian_start" (defArgs s_julian_start) (defBody s_julian_start) (defScope s_julian_start) .none kV_julian_start dc_julian_start pm_julian_start an_julian_start cd_julian_start ct_julian_start), sl_julian_start⟩) (c_julian_start : PySem.W.codeIn K cd_julian_start "julian_start" = true) (k_julian_start : PySem.W.keepIn K (.ref f_julian_start) = true)
    (a_hebrew_months_before : PySem.W.nsIn K mainGlobals "hebrew_months_before" = some (some (.ref f_hebrew_months_before))) (l_hebrew_months_before : K.lookup f_hebrew_months_before = some ⟨oc_hebrew_months_before, od_hebrew_months_before, .func (PySem.W.fnOf "hebrew_months_before" "hebrew_months_before" (defArgs s_hebrew_months_before) (defBody s_hebrew_months_before) (defScope s_hebrew_months_before) .none kV_hebrew_months_before dc_hebrew_months_before pm_hebrew_months_before an_hebrew_months_before cd_hebrew_months_before ct_hebrew_months_before), sl_hebrew_months_before⟩) (c_hebrew_months_before : PySem.W.codeIn K cd_hebrew_months_before "hebrew_months_before" = true) (k_hebrew_months_before : PySem.W.keepIn K (.ref f_hebrew_months_before) = true)
    (a_hebrew_elapsed : PySem.W.nsIn K mainGlobals "hebrew_elapsed" = some (some (.ref f_hebrew_elapsed))) (l_hebrew_elapsed : K.lookup f_hebrew_elapsed = some ⟨oc_hebrew_elapsed, od_hebrew_elapsed, .func (PySem.W.fnOf "hebrew_elapsed" "hebrew_elapsed" (defArgs s_hebrew_elapsed) (defBody s_hebrew_elapsed) (defScope s_hebrew_elapsed) .none kV_hebrew_elapsed dc_hebrew_elapsed pm_hebrew_elapsed an_hebrew_elapsed cd_hebrew_elapsed ct_hebrew_elapsed), sl_hebrew_elapsed⟩) (c_hebrew_elapsed : PySem.W.codeIn K cd_hebrew_elapsed "hebrew_elapsed" = true) (k_hebrew_elapsed : PySem.W.keepIn K (.ref f_hebrew_elapsed) = true)
    (a_hebrew_start : PySem.W.nsIn K mainGlobals "hebrew_start" = some (some (.ref f_hebrew_start))) (l_hebrew_start : K.lookup f_hebrew_start = some ⟨oc_hebrew_start, od_hebrew_start, .func (PySem.W.fnOf "hebrew_start" "hebrew_start" (defArgs s_hebrew_start) (defBody s_hebrew_start) (defScope s_hebrew_start) .none kV_hebrew_start dc_hebrew_start pm_hebrew_start an_hebrew_start cd_hebrew_start ct_hebrew_start), sl_hebrew_start⟩) (c_hebrew_start : PySem.W.codeIn K cd_hebrew_start "hebrew_start" = true) (k_hebrew_start : PySem.W.keepIn K (.ref f_hebrew_start) = true)
    (a_islamic_start : PySem.W.nsIn K mainGlobals "islamic_start" = some (some (.ref f_islamic_start))) (l_islamic_start : K.lookup f_islamic_start = some ⟨oc_islamic_start, od_islamic_start, .func (PySem.W.fnOf "islamic_start" "islamic_start" (defArgs s_islamic_start) (defBody s_islamic_start) (defScope s_islamic_start) .none kV_islamic_start dc_islamic_start pm_islamic_start an_islamic_start cd_islamic_start ct_islamic_start), sl_islamic_start⟩) (c_islamic_start : PySem.W.codeIn K cd_islamic_start "islamic_start" = true) (k_islamic_start : PySem.W.keepIn K (.ref f_islamic_start) = true)
    (a_coptic_start : PySem.W.nsIn K mainGlobals "coptic_start" = some (some (.ref f_coptic_start))) (l_coptic_start : K.lookup f_coptic_start = some ⟨oc_coptic_start, od_coptic_start, .func (PySem.W.fnOf "coptic_start" "coptic_start" (defArgs s_coptic_start) (defBody s_coptic_start) (defScope s_coptic_start) .none kV_coptic_start dc_coptic_start pm_coptic_start an_coptic_start cd_coptic_start ct_coptic_start), sl_coptic_start⟩) (c_coptic_start : PySem.W.codeIn K cd_coptic_start "coptic_start" = true) (k_coptic_start : PySem.W.keepIn K (.ref f_coptic_start) = true)
    (a_ethiopian_start : PySem.W.nsIn K mainGlobals "ethiopian_start" = some (some (.ref f_ethiopian_start))) (l_ethiopian_start : K.lookup f_ethiopian_start = some ⟨oc_ethiopian_start, od_ethiopian_start, .func (PySem.W.fnOf "ethiopian_start" "ethiopian_start" (defArgs s_ethiopian_start) (defBody s_ethiopian_start) (defScope s_ethiopian_start) .none kV_ethiopian_start dc_ethiopian_start pm_ethiopian_start an_ethiopian_start cd_ethiopian_start ct_ethiopian_start), sl_ethiopian_start⟩) (c_ethiopian_start : PySem.W.codeIn K cd_ethiopian_start "ethiopian_start" = true) (k_ethiopian_start : PySem.W.keepIn K (.ref f_ethiopian_start) = true)
    (a_persian_start : PySem.W.nsIn K mainGlobals "persian_start" = some (some (.ref f_persian_start))) (l_persian_start : K.lookup f_persian_start = some ⟨oc_persian_start, od_persian_start, .func (PySem.W.fnOf "persian_start" "persian_start" (defArgs s_persian_start) (defBody s_persian_start) (defScope s_persian_start) .none kV_persian_start dc_persian_start pm_persian_start an_persian_start cd_persian_start ct_persian_start), sl_persian_start⟩) (c_persian_start : PySem.W.codeIn K cd_persian_start "persian_start" = true) (k_persian_start : PySem.W.keepIn K (.ref f_persian_start) = true)
    (a_weeks_start : PySem.W.nsIn K mainGlobals "weeks_start" = some (some (.ref f_weeks_start))) (l_weeks_start : K.lookup f_weeks_start = some ⟨oc_weeks_start, od_weeks_start, .func (PySem.W.fnOf "weeks_start" "weeks_start" (defArgs s_weeks_start) (defBody s_weeks_start) (defScope s_weeks_start) .none kV_weeks_start dc_weeks_start pm_weeks_start an_weeks_start cd_weeks_start ct_weeks_start), sl_weeks_start⟩) (c_weeks_start : PySem.W.codeIn K cd_weeks_start "weeks_start" = true) (k_weeks_start : PySem.W.keepIn K (.ref f_weeks_start) = true)
    (a_year_start : PySem.W.nsIn K mainGlobals "year_start" = some (some (.ref f_year_start))) (l_year_start : K.lookup f_year_start = some ⟨oc_year_start, od_year_start, .func (PySem.W.fnOf "year_start" "year_start" (defArgs s_year_start) (defBody s_year_start) (defScope s_year_start) .none kV_year_start dc_year_start pm_year_start an_year_start cd_year_start ct_year_start), sl_year_start⟩) (c_year_start : PySem.W.codeIn K cd_year_start "year_start" = true) (k_year_start : PySem.W.keepIn K (.ref f_year_start) = true)
    (a_year_of : PySem.W.nsIn K mainGlobals "year_of" = some (some (.ref f_year_of))) (l_year_of : K.lookup f_year_of = some ⟨oc_year_of, od_year_of, .func (PySem.W.fnOf "year_of" "year_of" (defArgs s_year_of) (defBody s_year_of) (defScope s_year_of) .none kV_year_of dc_year_of pm_year_of an_year_of cd_year_of ct_year_of), sl_year_of⟩) (c_year_of : PySem.W.codeIn K cd_year_of "year_of" = true) (k_year_of : PySem.W.keepIn K (.ref f_year_of) = true)
    (a_hebrew_months : PySem.W.nsIn K mainGlobals "hebrew_months" = some (some (.ref f_hebrew_months))) (l_hebrew_months : K.lookup f_hebrew_months = some ⟨oc_hebrew_months, od_hebrew_months, .func (PySem.W.fnOf "hebrew_months" "hebrew_months" (defArgs s_hebrew_months) (defBody s_hebrew_months) (defScope s_hebrew_months) .none kV_hebrew_months dc_hebrew_months pm_hebrew_months an_hebrew_months cd_hebrew_months ct_hebrew_months), sl_hebrew_months⟩) (c_hebrew_months : PySem.W.codeIn K cd_hebrew_months "hebrew_months" = true) (k_hebrew_months : PySem.W.keepIn K (.ref f_hebrew_months) = true)
    (a_month_lengths : PySem.W.nsIn K mainGlobals "month_lengths" = some (some (.ref f_month_lengths))) (l_month_lengths : K.lookup f_month_lengths = some ⟨oc_month_lengths, od_month_lengths, .func (PySem.W.fnOf "month_lengths" "month_lengths" (defArgs s_month_lengths) (defBody s_month_lengths) (defScope s_month_lengths) .none kV_month_lengths dc_month_lengths pm_month_lengths an_month_lengths cd_month_lengths ct_month_lengths), sl_month_lengths⟩) (c_month_lengths : PySem.W.codeIn K cd_month_lengths "month_lengths" = true) (k_month_lengths : PySem.W.keepIn K (.ref f_month_lengths) = true)
    (a_day_of : PySem.W.nsIn K mainGlobals "day_of" = some (some (.ref f_day_of))) (l_day_of : K.lookup f_day_of = some ⟨oc_day_of, od_day_of, .func (PySem.W.fnOf "day_of" "day_of" (defArgs s_day_of) (defBody s_day_of) (defScope s_day_of) .none kV_day_of dc_day_of pm_day_of an_day_of cd_day_of ct_day_of), sl_day_of⟩) (c_day_of : PySem.W.codeIn K cd_day_of "day_of" = true) (k_day_of : PySem.W.keepIn K (.ref f_day_of) = true)
    (a_fits : PySem.W.nsIn K mainGlobals "fits" = some (some (.ref f_fits))) (l_fits : K.lookup f_fits = some ⟨oc_fits, od_fits, .func (PySem.W.fnOf "fits" "fits" (defArgs s_fits) (defBody s_fits) (defScope s_fits) .none kV_fits dc_fits pm_fits an_fits cd_fits ct_fits), sl_fits⟩) (c_fits : PySem.W.codeIn K cd_fits "fits" = true) (k_fits : PySem.W.keepIn K (.ref f_fits) = true)
    (a_number_in : PySem.W.nsIn K mainGlobals "number_in" = some (some (.ref f_number_in))) (l_number_in : K.lookup f_number_in = some ⟨oc_number_in, od_number_in, .func (PySem.W.fnOf "number_in" "number_in" (defArgs s_number_in) (defBody s_number_in) (defScope s_number_in) .none kV_number_in dc_number_in pm_number_in an_number_in cd_number_in ct_number_in), sl_number_in⟩) (c_number_in : PySem.W.codeIn K cd_number_in "number_in" = true) (k_number_in : PySem.W.keepIn K (.ref f_number_in) = true)
    (a_year_in : PySem.W.nsIn K mainGlobals "year_in" = some (some (.ref f_year_in))) (l_year_in : K.lookup f_year_in = some ⟨oc_year_in, od_year_in, .func (PySem.W.fnOf "year_in" "year_in" (defArgs s_year_in) (defBody s_year_in) (defScope s_year_in) .none kV_year_in dc_year_in pm_year_in an_year_in cd_year_in ct_year_in), sl_year_in⟩) (c_year_in : PySem.W.codeIn K cd_year_in "year_in" = true) (k_year_in : PySem.W.keepIn K (.ref f_year_in) = true)
    (a_day_in : PySem.W.nsIn K mainGlobals "day_in" = some (some (.ref f_day_in))) (l_day_in : K.lookup f_day_in = some ⟨oc_day_in, od_day_in, .func (PySem.W.fnOf "day_in" "day_in" (defArgs s_day_in) (defBody s_day_in) (defScope s_day_in) .none kV_day_in dc_day_in pm_day_in an_day_in cd_day_in ct_day_in), sl_day_in⟩) (c_day_in : PySem.W.codeIn K cd_day_in "day_in" = true) (k_day_in : PySem.W.keepIn K (.ref f_day_in) = true)
    (a_read : PySem.W.nsIn K mainGlobals "read" = some (some (.ref f_read))) (l_read : K.lookup f_read = some ⟨oc_read, od_read, .func (PySem.W.fnOf "read" "read" (defArgs s_read) (defBody s_read) (defScope s_read) .none kV_read dc_read pm_read an_read cd_read ct_read), sl_read⟩) (c_read : PySem.W.codeIn K cd_read "read" = true) (k_read : PySem.W.keepIn K (.ref f_read) = true)
    (g_LOWEST_DAY : PySem.W.nsIn K mainGlobals "LOWEST_DAY" = some (some (Value.int (-700000000000) t_LOWEST_DAY)))
    (g_HIGHEST_DAY : PySem.W.nsIn K mainGlobals "HIGHEST_DAY" = some (some (Value.int (700000000000) t_HIGHEST_DAY)))
    (g_GREGORIAN : PySem.W.nsIn K mainGlobals "GREGORIAN" = some (some (Value.int (0) t_GREGORIAN)))
    (g_JULIAN : PySem.W.nsIn K mainGlobals "JULIAN" = some (some (Value.int (1) t_JULIAN)))
    (g_HEBREW : PySem.W.nsIn K mainGlobals "HEBREW" = some (some (Value.int (2) t_HEBREW)))
    (g_ISLAMIC : PySem.W.nsIn K mainGlobals "ISLAMIC" = some (some (Value.int (3) t_ISLAMIC)))
    (g_COPTIC : PySem.W.nsIn K mainGlobals "COPTIC" = some (some (Value.int (4) t_COPTIC)))
    (g_ETHIOPIAN : PySem.W.nsIn K mainGlobals "ETHIOPIAN" = some (some (Value.int (5) t_ETHIOPIAN)))
    (g_PERSIAN : PySem.W.nsIn K mainGlobals "PERSIAN" = some (some (Value.int (6) t_PERSIAN)))
    (g_MEAN_YEARS : PySem.W.nsIn K mainGlobals "MEAN_YEARS" = some (some (.ref ta_MEAN_YEARS))) (gl_MEAN_YEARS : K.lookup ta_MEAN_YEARS = some ⟨.type "tuple", to_MEAN_YEARS, .seq #[.ref u_MEAN_YEARS0, .ref u_MEAN_YEARS1, .ref u_MEAN_YEARS2, .ref u_MEAN_YEARS3, .ref u_MEAN_YEARS4, .ref u_MEAN_YEARS5, .ref u_MEAN_YEARS6, .ref u_MEAN_YEARS7] tn_MEAN_YEARS, tsl_MEAN_YEARS⟩)
    (gu_MEAN_YEARS0 : K.lookup u_MEAN_YEARS0 = some ⟨.type "tuple", uo_MEAN_YEARS0, .seq #[.int (146097) ut_MEAN_YEARS0_0, .int (400) ut_MEAN_YEARS0_1] un_MEAN_YEARS0, usl_MEAN_YEARS0⟩)
    (gu_MEAN_YEARS1 : K.lookup u_MEAN_YEARS1 = some ⟨.type "tuple", uo_MEAN_YEARS1, .seq #[.int (1461) ut_MEAN_YEARS1_0, .int (4) ut_MEAN_YEARS1_1] un_MEAN_YEARS1, usl_MEAN_YEARS1⟩)
    (gu_MEAN_YEARS2 : K.lookup u_MEAN_YEARS2 = some ⟨.type "tuple", uo_MEAN_YEARS2, .seq #[.int (35975351) ut_MEAN_YEARS2_0, .int (98496) ut_MEAN_YEARS2_1] un_MEAN_YEARS2, usl_MEAN_YEARS2⟩)
    (gu_MEAN_YEARS3 : K.lookup u_MEAN_YEARS3 = some ⟨.type "tuple", uo_MEAN_YEARS3, .seq #[.int (10631) ut_MEAN_YEARS3_0, .int (30) ut_MEAN_YEARS3_1] un_MEAN_YEARS3, usl_MEAN_YEARS3⟩)
    (gu_MEAN_YEARS4 : K.lookup u_MEAN_YEARS4 = some ⟨.type "tuple", uo_MEAN_YEARS4, .seq #[.int (1461) ut_MEAN_YEARS4_0, .int (4) ut_MEAN_YEARS4_1] un_MEAN_YEARS4, usl_MEAN_YEARS4⟩)
    (gu_MEAN_YEARS5 : K.lookup u_MEAN_YEARS5 = some ⟨.type "tuple", uo_MEAN_YEARS5, .seq #[.int (1461) ut_MEAN_YEARS5_0, .int (4) ut_MEAN_YEARS5_1] un_MEAN_YEARS5, usl_MEAN_YEARS5⟩)
    (gu_MEAN_YEARS6 : K.lookup u_MEAN_YEARS6 = some ⟨.type "tuple", uo_MEAN_YEARS6, .seq #[.int (1029983) ut_MEAN_YEARS6_0, .int (2820) ut_MEAN_YEARS6_1] un_MEAN_YEARS6, usl_MEAN_YEARS6⟩)
    (gu_MEAN_YEARS7 : K.lookup u_MEAN_YEARS7 = some ⟨.type "tuple", uo_MEAN_YEARS7, .seq #[.int (146097) ut_MEAN_YEARS7_0, .int (400) ut_MEAN_YEARS7_1] un_MEAN_YEARS7, usl_MEAN_YEARS7⟩)
    (g_MONTH_STYLE : PySem.W.nsIn K mainGlobals "MONTH_STYLE" = some (some (Value.int (0) t_MONTH_STYLE)))
    (g_WEEK_STYLE : PySem.W.nsIn K mainGlobals "WEEK_STYLE" = some (some (Value.int (2) t_WEEK_STYLE)))
    (g_WEEKS : PySem.W.nsIn K mainGlobals "WEEKS" = some (some (Value.int (7) t_WEEKS)))
    (g_FORMS : PySem.W.nsIn K mainGlobals "FORMS" = some (some (.ref ta_FORMS))) (gl_FORMS : K.lookup ta_FORMS = some ⟨.type "tuple", to_FORMS, .seq #[.str "-99-99" ut_FORMS0, .str "-999" ut_FORMS1, .str "-W99-9" ut_FORMS2] tn_FORMS, tsl_FORMS⟩)
    (g_REFUSAL : PySem.W.nsIn K mainGlobals "REFUSAL" = some (some (Value.int (-1) t_REFUSAL)))
    (zz_len : PySem.W.nsIn K mainGlobals "len" = some none)
    (zz_sum : PySem.W.nsIn K mainGlobals "sum" = some none)
    (zz_zip : PySem.W.nsIn K mainGlobals "zip" = some none)
    (zz_ord : PySem.W.nsIn K mainGlobals "ord" = some none)
    (zz_enumerate : PySem.W.nsIn K mainGlobals "enumerate" = some none)
    : ∃ fd : FuncData, Binds K fd ["text"] [] ∧ ∀ base : Heap, K.In base → base.Ns mainGlobals mg → FnOk r.prog w K mg base CX0 8 fa fd ["text"] (sp_read K) := by
  have F_is_day : Dfn K mg "is_day" s_is_day := ⟨_, _, fun_mk (st := s_is_day) l_is_day c_is_day k_is_day, PySem.W.mg_of X G a_is_day⟩
  have F_gregorian_start : Dfn K mg "gregorian_start" s_gregorian_start := ⟨_, _, fun_mk (st := s_gregorian_start) l_gregorian_start c_gregorian_start k_gregorian_start, PySem.W.mg_of X G a_gregorian_start⟩
  have F_julian_start : Dfn K mg "julian_start" s_julian_start := ⟨_, _, fun_mk (st := s_julian_start) l_julian_start c_julian_start k_julian_start, PySem.W.mg_of X G a_julian_start⟩
  have F_hebrew_months_before : Dfn K mg "hebrew_months_before" s_hebrew_months_before := ⟨_, _, fun_mk (st := s_hebrew_months_before) l_hebrew_months_before c_hebrew_months_before k_hebrew_months_before, PySem.W.mg_of X G a_hebrew_months_before⟩
  have F_hebrew_elapsed : Dfn K mg "hebrew_elapsed" s_hebrew_elapsed := ⟨_, _, fun_mk (st := s_hebrew_elapsed) l_hebrew_elapsed c_hebrew_elapsed k_hebrew_elapsed, PySem.W.mg_of X G a_hebrew_elapsed⟩
  have F_hebrew_start : Dfn K mg "hebrew_start" s_hebrew_start := ⟨_, _, fun_mk (st := s_hebrew_start) l_hebrew_start c_hebrew_start k_hebrew_start, PySem.W.mg_of X G a_hebrew_start⟩
  have F_islamic_start : Dfn K mg "islamic_start" s_islamic_start := ⟨_, _, fun_mk (st := s_islamic_start) l_islamic_start c_islamic_start k_islamic_start, PySem.W.mg_of X G a_islamic_start⟩
  have F_coptic_start : Dfn K mg "coptic_start" s_coptic_start := ⟨_, _, fun_mk (st := s_coptic_start) l_coptic_start c_coptic_start k_coptic_start, PySem.W.mg_of X G a_coptic_start⟩
  have F_ethiopian_start : Dfn K mg "ethiopian_start" s_ethiopian_start := ⟨_, _, fun_mk (st := s_ethiopian_start) l_ethiopian_start c_ethiopian_start k_ethiopian_start, PySem.W.mg_of X G a_ethiopian_start⟩
  have F_persian_start : Dfn K mg "persian_start" s_persian_start := ⟨_, _, fun_mk (st := s_persian_start) l_persian_start c_persian_start k_persian_start, PySem.W.mg_of X G a_persian_start⟩
  have F_weeks_start : Dfn K mg "weeks_start" s_weeks_start := ⟨_, _, fun_mk (st := s_weeks_start) l_weeks_start c_weeks_start k_weeks_start, PySem.W.mg_of X G a_weeks_start⟩
  have F_year_start : Dfn K mg "year_start" s_year_start := ⟨_, _, fun_mk (st := s_year_start) l_year_start c_year_start k_year_start, PySem.W.mg_of X G a_year_start⟩
  have F_year_of : Dfn K mg "year_of" s_year_of := ⟨_, _, fun_mk (st := s_year_of) l_year_of c_year_of k_year_of, PySem.W.mg_of X G a_year_of⟩
  have F_hebrew_months : Dfn K mg "hebrew_months" s_hebrew_months := ⟨_, _, fun_mk (st := s_hebrew_months) l_hebrew_months c_hebrew_months k_hebrew_months, PySem.W.mg_of X G a_hebrew_months⟩
  have F_month_lengths : Dfn K mg "month_lengths" s_month_lengths := ⟨_, _, fun_mk (st := s_month_lengths) l_month_lengths c_month_lengths k_month_lengths, PySem.W.mg_of X G a_month_lengths⟩
  have F_day_of : Dfn K mg "day_of" s_day_of := ⟨_, _, fun_mk (st := s_day_of) l_day_of c_day_of k_day_of, PySem.W.mg_of X G a_day_of⟩
  have F_fits : Dfn K mg "fits" s_fits := ⟨_, _, fun_mk (st := s_fits) l_fits c_fits k_fits, PySem.W.mg_of X G a_fits⟩
  have F_number_in : Dfn K mg "number_in" s_number_in := ⟨_, _, fun_mk (st := s_number_in) l_number_in c_number_in k_number_in, PySem.W.mg_of X G a_number_in⟩
  have F_year_in : Dfn K mg "year_in" s_year_in := ⟨_, _, fun_mk (st := s_year_in) l_year_in c_year_in k_year_in, PySem.W.mg_of X G a_year_in⟩
  have F_day_in : Dfn K mg "day_in" s_day_in := ⟨_, _, fun_mk (st := s_day_in) l_day_in c_day_in k_day_in, PySem.W.mg_of X G a_day_in⟩
  have F_read : Dfn K mg "read" s_read := ⟨_, _, fun_mk (st := s_read) l_read c_read k_read, PySem.W.mg_of X G a_read⟩
  have M_LOWEST_DAY : ∃ t, mg "LOWEST_DAY" = some (Value.int (-700000000000) t) := ⟨_, PySem.W.mg_of X G g_LOWEST_DAY⟩
  have M_HIGHEST_DAY : ∃ t, mg "HIGHEST_DAY" = some (Value.int (700000000000) t) := ⟨_, PySem.W.mg_of X G g_HIGHEST_DAY⟩
  have M_GREGORIAN : ∃ t, mg "GREGORIAN" = some (Value.int (0) t) := ⟨_, PySem.W.mg_of X G g_GREGORIAN⟩
  have M_JULIAN : ∃ t, mg "JULIAN" = some (Value.int (1) t) := ⟨_, PySem.W.mg_of X G g_JULIAN⟩
  have M_HEBREW : ∃ t, mg "HEBREW" = some (Value.int (2) t) := ⟨_, PySem.W.mg_of X G g_HEBREW⟩
  have M_ISLAMIC : ∃ t, mg "ISLAMIC" = some (Value.int (3) t) := ⟨_, PySem.W.mg_of X G g_ISLAMIC⟩
  have M_COPTIC : ∃ t, mg "COPTIC" = some (Value.int (4) t) := ⟨_, PySem.W.mg_of X G g_COPTIC⟩
  have M_ETHIOPIAN : ∃ t, mg "ETHIOPIAN" = some (Value.int (5) t) := ⟨_, PySem.W.mg_of X G g_ETHIOPIAN⟩
  have M_PERSIAN : ∃ t, mg "PERSIAN" = some (Value.int (6) t) := ⟨_, PySem.W.mg_of X G g_PERSIAN⟩
  have M_MEAN_YEARS : TupsAt K mg "MEAN_YEARS" [[146097, 400], [1461, 4], [35975351, 98496], [10631, 30], [1461, 4], [1461, 4], [1029983, 2820], [146097, 400]] := Rd.tups_at (PySem.W.mg_of X G g_MEAN_YEARS) gl_MEAN_YEARS (us := [u_MEAN_YEARS0, u_MEAN_YEARS1, u_MEAN_YEARS2, u_MEAN_YEARS3, u_MEAN_YEARS4, u_MEAN_YEARS5, u_MEAN_YEARS6, u_MEAN_YEARS7]) (by show 8 ≤ sizeLine; decide) (.cons ⟨_, _, _, gu_MEAN_YEARS0, rfl, rfl, by show 2 ≤ sizeLine; decide, .cons ⟨_, rfl⟩ (.cons ⟨_, rfl⟩ (.nil))⟩ (.cons ⟨_, _, _, gu_MEAN_YEARS1, rfl, rfl, by show 2 ≤ sizeLine; decide, .cons ⟨_, rfl⟩ (.cons ⟨_, rfl⟩ (.nil))⟩ (.cons ⟨_, _, _, gu_MEAN_YEARS2, rfl, rfl, by show 2 ≤ sizeLine; decide, .cons ⟨_, rfl⟩ (.cons ⟨_, rfl⟩ (.nil))⟩ (.cons ⟨_, _, _, gu_MEAN_YEARS3, rfl, rfl, by show 2 ≤ sizeLine; decide, .cons ⟨_, rfl⟩ (.cons ⟨_, rfl⟩ (.nil))⟩ (.cons ⟨_, _, _, gu_MEAN_YEARS4, rfl, rfl, by show 2 ≤ sizeLine; decide, .cons ⟨_, rfl⟩ (.cons ⟨_, rfl⟩ (.nil))⟩ (.cons ⟨_, _, _, gu_MEAN_YEARS5, rfl, rfl, by show 2 ≤ sizeLine; decide, .cons ⟨_, rfl⟩ (.cons ⟨_, rfl⟩ (.nil))⟩ (.cons ⟨_, _, _, gu_MEAN_YEARS6, rfl, rfl, by show 2 ≤ sizeLine; decide, .cons ⟨_, rfl⟩ (.cons ⟨_, rfl⟩ (.nil))⟩ (.cons ⟨_, _, _, gu_MEAN_YEARS7, rfl, rfl, by show 2 ≤ sizeLine; decide, .cons ⟨_, rfl⟩ (.cons ⟨_, rfl⟩ (.nil))⟩ (.nil)))))))))
  have M_MONTH_STYLE : ∃ t, mg "MONTH_STYLE" = some (Value.int (0) t) := ⟨_, PySem.W.mg_of X G g_MONTH_STYLE⟩
  have M_WEEK_STYLE : ∃ t, mg "WEEK_STYLE" = some (Value.int (2) t) := ⟨_, PySem.W.mg_of X G g_WEEK_STYLE⟩
  have M_WEEKS : ∃ t, mg "WEEKS" = some (Value.int (7) t) := ⟨_, PySem.W.mg_of X G g_WEEKS⟩
  have M_FORMS : ∃ a, mg "FORMS" = some (.ref a) ∧ ∀ H : Hp, SqT K H a (([Str.ofString "-99-99", Str.ofString "-999", Str.ofString "-W99-9"] : List Str).map V.str) := ⟨_, PySem.W.mg_of X G g_FORMS, fun H => .inr ⟨_, _, _, gl_FORMS, rfl, rfl, by show 3 ≤ sizeLine; decide, .cons ⟨_, rfl⟩ (.cons ⟨_, rfl⟩ (.cons ⟨_, rfl⟩ (.nil)))⟩⟩
  have M_REFUSAL : ∃ t, mg "REFUSAL" = some (Value.int (-1) t) := ⟨_, PySem.W.mg_of X G g_REFUSAL⟩
  have Z_len := PySem.W.mg_none_of X G zz_len
  have Z_sum := PySem.W.mg_none_of X G zz_sum
  have Z_zip := PySem.W.mg_none_of X G zz_zip
  have Z_ord := PySem.W.mg_none_of X G zz_ord
  have Z_enumerate := PySem.W.mg_none_of X G zz_enumerate
  have main : ∀ base : Heap, Ok r.prog w K mg base 8 "read" ["text"] (sp_read K) := fun base => by
    have C_is_day := ok_is_day (P := r.prog) (w := w) (base := base) F_is_day M_LOWEST_DAY M_HIGHEST_DAY
    have C_gregorian_start := ok_gregorian_start (P := r.prog) (w := w) (base := base) F_gregorian_start
    have C_julian_start := ok_julian_start (P := r.prog) (w := w) (base := base) F_julian_start
    have C_hebrew_months_before := ok_hebrew_months_before (P := r.prog) (w := w) (base := base) F_hebrew_months_before
    have C_hebrew_elapsed := ok_hebrew_elapsed (P := r.prog) (w := w) (base := base) F_hebrew_elapsed C_hebrew_months_before
    have C_hebrew_start := ok_hebrew_start (P := r.prog) (w := w) (base := base) F_hebrew_start C_hebrew_elapsed
    have C_islamic_start := ok_islamic_start (P := r.prog) (w := w) (base := base) F_islamic_start
    have C_coptic_start := ok_coptic_start (P := r.prog) (w := w) (base := base) F_coptic_start
    have C_ethiopian_start := ok_ethiopian_start (P := r.prog) (w := w) (base := base) F_ethiopian_start
    have C_persian_start := ok_persian_start (P := r.prog) (w := w) (base := base) F_persian_start
    have C_weeks_start := ok_weeks_start (P := r.prog) (w := w) (base := base) F_weeks_start C_gregorian_start
    have C_year_start := ok_year_start (P := r.prog) (w := w) (base := base) F_year_start C_gregorian_start C_julian_start C_hebrew_start C_islamic_start C_coptic_start C_ethiopian_start C_persian_start C_weeks_start M_GREGORIAN M_JULIAN M_HEBREW M_ISLAMIC M_COPTIC M_ETHIOPIAN M_PERSIAN
    have C_year_of := ok_year_of (P := r.prog) (w := w) (base := base) F_year_of C_year_start M_MEAN_YEARS
    have C_hebrew_months := ok_hebrew_months (P := r.prog) (w := w) (base := base) F_hebrew_months
    have C_month_lengths := ok_month_lengths (P := r.prog) (w := w) (base := base) F_month_lengths C_year_start C_hebrew_months M_GREGORIAN M_JULIAN M_HEBREW M_ISLAMIC M_COPTIC M_ETHIOPIAN M_PERSIAN
    have C_day_of := ok_day_of (P := r.prog) (w := w) (base := base) F_day_of C_month_lengths C_year_start Z_len Z_sum
    have C_fits := ok_fits (P := r.prog) (w := w) (base := base) F_fits Z_len Z_zip Z_ord
    have C_number_in := ok_number_in (P := r.prog) (w := w) (base := base) F_number_in Z_ord
    have C_year_in := ok_year_in (P := r.prog) (w := w) (base := base) F_year_in C_fits C_number_in Z_len Z_ord
    have C_day_in := ok_day_in (P := r.prog) (w := w) (base := base) F_day_in C_day_of C_number_in C_year_start C_year_of M_MONTH_STYLE M_GREGORIAN M_WEEK_STYLE M_WEEKS
    have C_read := ok_read (P := r.prog) (w := w) (base := base) F_read C_fits C_year_in C_day_in C_is_day Z_enumerate Z_len M_FORMS M_REFUSAL
    exact C_read
  exact Rd.fixed h hfa main
end Walk
open PySem PySem.W PyProof.Rows
set_option maxRecDepth 100000 in
set_option maxHeartbeats 0 in
theorem PySem.Challenge.cw_eightcalendars_s10_read_holds : PySem.Challenge.rw_eightcalendars_s10_read.Holds := by
  w_on; k_headS; (case hw => exact ⟨[.list []], by decide +kernel, by decide +kernel⟩)
  k_fillS
  refine Sa.walk_list (r := PySem.Challenge.rw_eightcalendars_s10_read) (k := 8) (x := "text") (sp := Walk.sp_read) rfl rfl ⟨rfl, by decide, by decide⟩ (fun w h Y => PySem.W.kIn_of Y) ?F ?L ?S
  case F =>
    intro w mg fa h KX G hmg
    refine' Walk.all_mk KX G hmg ?a_is_day ?l_is_day ?c_is_day ?k_is_day ?a_gregorian_start ?l_gregorian_start ?c_gregorian_start ?k_gregorian_start ?a_julian_start ?l_julian_start ?c_julian_start ?k_julian_start ?a_hebrew_months_before ?l_hebrew_months_before ?c_hebrew_months_before ?k_hebrew_months_before ?a_hebrew_elapsed ?l_hebrew_elapsed ?c_hebrew_elapsed ?k_hebrew_elapsed ?a_hebrew_start ?l_hebrew_start ?c_hebrew_start ?k_hebrew_start ?a_islamic_start ?l_islamic_start ?c_islamic_start ?k_islamic_start ?a_coptic_start ?l_coptic_start ?c_coptic_start ?k_coptic_start ?a_ethiopian_start ?l_ethiopian_start ?c_ethiopian_start ?k_ethiopian_start ?a_persian_start ?l_persian_start ?c_persian_start ?k_persian_start ?a_weeks_start ?l_weeks_start ?c_weeks_start ?k_weeks_start ?a_year_start ?l_year_start ?c_year_start ?k_year_start ?a_year_of ?l_year_of ?c_year_of ?k_year_of ?a_hebrew_months ?l_hebrew_months ?c_hebrew_months ?k_hebrew_months ?a_month_lengths ?l_month_lengths ?c_month_lengths ?k_month_lengths ?a_day_of ?l_day_of ?c_day_of ?k_day_of ?a_fits ?l_fits ?c_fits ?k_fits ?a_number_in ?l_number_in ?c_number_in ?k_number_in ?a_year_in ?l_year_in ?c_year_in ?k_year_in ?a_day_in ?l_day_in ?c_day_in ?k_day_in ?a_read ?l_read ?c_read ?k_read ?g_LOWEST_DAY ?g_HIGHEST_DAY ?g_GREGORIAN ?g_JULIAN ?g_HEBREW ?g_ISLAMIC ?g_COPTIC ?g_ETHIOPIAN ?g_PERSIAN ?g_MEAN_YEARS ?gl_MEAN_YEARS ?gu_MEAN_YEARS0 ?gu_MEAN_YEARS1 ?gu_MEAN_YEARS2 ?gu_MEAN_YEARS3 ?gu_MEAN_YEARS4 ?gu_MEAN_YEARS5 ?gu_MEAN_YEARS6 ?gu_MEAN_YEARS7 ?g_MONTH_STYLE ?g_WEEK_STYLE ?g_WEEKS ?g_FORMS ?gl_FORMS ?g_REFUSAL ?zz_len ?zz_sum ?zz_zip ?zz_ord ?zz_enumerate
    (case a_is_day => k_is)
    (case l_is_day => k_is)
    (case c_is_day => k_is)
    (case k_is_day => k_is)
    (case a_gregorian_start => k_is)
    (case l_gregorian_start => k_is)
    (case c_gregorian_start => k_is)
    (case k_gregorian_start => k_is)
    (case a_julian_start => k_is)
    (case l_julian_start => k_is)
    (case c_julian_start => k_is)
    (case k_julian_start => k_is)
    (case a_hebrew_months_before => k_is)
    (case l_hebrew_months_before => k_is)
    (case c_hebrew_months_before => k_is)
    (case k_hebrew_months_before => k_is)
    (case a_hebrew_elapsed => k_is)
    (case l_hebrew_elapsed => k_is)
    (case c_hebrew_elapsed => k_is)
    (case k_hebrew_elapsed => k_is)
    (case a_hebrew_start => k_is)
    (case l_hebrew_start => k_is)
    (case c_hebrew_start => k_is)
    (case k_hebrew_start => k_is)
    (case a_islamic_start => k_is)
    (case l_islamic_start => k_is)
    (case c_islamic_start => k_is)
    (case k_islamic_start => k_is)
    (case a_coptic_start => k_is)
    (case l_coptic_start => k_is)
    (case c_coptic_start => k_is)
    (case k_coptic_start => k_is)
    (case a_ethiopian_start => k_is)
    (case l_ethiopian_start => k_is)
    (case c_ethiopian_start => k_is)
    (case k_ethiopian_start => k_is)
    (case a_persian_start => k_is)
    (case l_persian_start => k_is)
    (case c_persian_start => k_is)
    (case k_persian_start => k_is)
    (case a_weeks_start => k_is)
    (case l_weeks_start => k_is)
    (case c_weeks_start => k_is)
    (case k_weeks_start => k_is)
    (case a_year_start => k_is)
    (case l_year_start => k_is)
    (case c_year_start => k_is)
    (case k_year_start => k_is)
    (case a_year_of => k_is)
    (case l_year_of => k_is)
    (case c_year_of => k_is)
    (case k_year_of => k_is)
    (case a_hebrew_months => k_is)
    (case l_hebrew_months => k_is)
    (case c_hebrew_months => k_is)
    (case k_hebrew_months => k_is)
    (case a_month_lengths => k_is)
    (case l_month_lengths => k_is)
    (case c_month_lengths => k_is)
    (case k_month_lengths => k_is)
    (case a_day_of => k_is)
    (case l_day_of => k_is)
    (case c_day_of => k_is)
    (case k_day_of => k_is)
    (case a_fits => k_is)
    (case l_fits => k_is)
    (case c_fits => k_is)
    (case k_fits => k_is)
    (case a_number_in => k_is)
    (case l_number_in => k_is)
    (case c_number_in => k_is)
    (case k_number_in => k_is)
    (case a_year_in => k_is)
    (case l_year_in => k_is)
    (case c_year_in => k_is)
    (case k_year_in => k_is)
    (case a_day_in => k_is)
    (case l_day_in => k_is)
    (case c_day_in => k_is)
    (case k_day_in => k_is)
    (case a_read => k_is)
    (case l_read => k_is)
    (case c_read => k_is)
    (case k_read => k_is)
    (case g_LOWEST_DAY => k_is)
    (case g_HIGHEST_DAY => k_is)
    (case g_GREGORIAN => k_is)
    (case g_JULIAN => k_is)
    (case g_HEBREW => k_is)
    (case g_ISLAMIC => k_is)
    (case g_COPTIC => k_is)
    (case g_ETHIOPIAN => k_is)
    (case g_PERSIAN => k_is)
    (case g_MEAN_YEARS => k_is)
    (case gl_MEAN_YEARS => k_is)
    (case gu_MEAN_YEARS0 => k_is)
    (case gu_MEAN_YEARS1 => k_is)
    (case gu_MEAN_YEARS2 => k_is)
    (case gu_MEAN_YEARS3 => k_is)
    (case gu_MEAN_YEARS4 => k_is)
    (case gu_MEAN_YEARS5 => k_is)
    (case gu_MEAN_YEARS6 => k_is)
    (case gu_MEAN_YEARS7 => k_is)
    (case g_MONTH_STYLE => k_is)
    (case g_WEEK_STYLE => k_is)
    (case g_WEEKS => k_is)
    (case g_FORMS => k_is)
    (case gl_FORMS => k_is)
    (case g_REFUSAL => k_is)
    (case zz_len => k_is)
    (case zz_sum => k_is)
    (case zz_zip => k_is)
    (case zz_ord => k_is)
    (case zz_enumerate => k_is)
  case S =>
    intro ns K a hpre H hsq
    obtain ⟨h1, _⟩ := Sa.dec_cons (os_pre_isSome hpre)
    obtain ⟨e1, hl, hb⟩ := Sa.dec_list h1
    refine ⟨a, ns, rfl, hsq, hb, fun r H' _ hr => ⟨r, _, rfl, hr, os_post (Sa.dec_put e1 rfl) ?_⟩⟩
    exact Sa.same_ints (Cal.read_told hl).symm
  case L =>
    intro ns hpre
    obtain ⟨h1, _⟩ := Sa.dec_cons (os_pre_isSome hpre)
    have hl := (Sa.dec_list h1).2.1
    have := sizeLine_eq
    omega
#print axioms PySem.Challenge.cw_eightcalendars_s10_read_holds
