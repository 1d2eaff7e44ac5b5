import PyProof.Rows.All
import Wide.All
import OpenK.AllK
import Wide.FinOn
import HandS.ForMost
import HandS.IsInst
import HandS.TupAny
import HandS.Walk
import HandS.Rev
import KE.GoesMore
import HandS.Conv
import HandS.Style
import HandS.Wide
import HandS.More
import HandS.SortKw
import KE.DataMinMax
import KE.GoesEnumKw
import HandS.Strs
import HandS.Codes
import HandS.TupSets
import HandS.SetFor
import KE.KSortTupG
import HandS.Deep
import PySem.Challenge.RW_takenth_k09_whole_each_taker_is_free_of
set_option Elab.async false
set_option linter.all false
set_option maxRecDepth 100000
set_option maxHeartbeats 4000000
namespace TK
/-- who takes piece n (from 1 on) -/
def whoF : List (Int × Int) → Int → Option Nat
  | [], _ => none
  | (e, c) :: r, n => if (c + n) % e = 0 then some 0 else (whoF r (n - (c + n) / e)).map (· + 1)
/-- how many each one takes of n, the left over last -/
def takenF : List (Int × Int) → Int → List Int
  | [], n => [n]
  | (e, c) :: r, n => (c + n) / e :: takenF r (n - (c + n) / e)
/-- what each has counted behind n pieces -/
def cntF : List (Int × Int) → Int → List Int
  | [], _ => []
  | (e, c) :: r, n => (c + n) % e :: cntF r (n - (c + n) / e)
/-- how many of n pieces come to place i -/
def comeF : List (Int × Int) → Nat → Int → Int
  | _, 0, n => n
  | [], _ + 1, n => n
  | (e, c) :: r, i + 1, n => comeF r i (n - (c + n) / e)
theorem come_zero (r : List (Int × Int)) (n : Int) : comeF r 0 n = n := by cases r <;> rfl
def okT (ec : Int × Int) : Prop := 2 ≤ ec.1 ∧ ec.1 ≤ 1000 ∧ 0 ≤ ec.2 ∧ ec.2 ≤ ec.1 - 1

theorem div_step0 {a e : Int} (he : 0 < e) (h : (a + 1) % e = 0) : (a + 1) / e = a / e + 1 := by
  have h1 := Int.mul_ediv_add_emod (a + 1) e
  have h2 := Int.mul_ediv_add_emod a e
  have h3 := Int.emod_nonneg a (Int.ne_of_gt he)
  have h4 := Int.emod_lt_of_pos a he
  rw [h] at h1
  have h5 : e * ((a + 1) / e) = e * (a / e) + (a % e + 1) := by omega
  have h6 : e * ((a + 1) / e - a / e) = a % e + 1 := by rw [Int.mul_sub]; omega
  have h7 : (a + 1) / e - a / e = 1 := by
    have p : 0 < (a + 1) / e - a / e := by
      rcases Int.lt_or_le 0 ((a + 1) / e - a / e) with h | h
      · exact h
      · have := Int.mul_nonpos_of_nonneg_of_nonpos (Int.le_of_lt he) h
        omega
    rcases Int.lt_or_le 1 ((a + 1) / e - a / e) with h | h
    · have : e * 2 ≤ e * ((a + 1) / e - a / e) := Int.mul_le_mul_of_nonneg_left (by omega) (Int.le_of_lt he)
      omega
    · omega
  omega
theorem div_stepN {a e : Int} (he : 0 < e) (h : (a + 1) % e ≠ 0) : (a + 1) / e = a / e := by
  have h1 := Int.mul_ediv_add_emod (a + 1) e
  have h2 := Int.mul_ediv_add_emod a e
  have h3 := Int.emod_nonneg a (Int.ne_of_gt he)
  have h4 := Int.emod_lt_of_pos a he
  have h3' := Int.emod_nonneg (a + 1) (Int.ne_of_gt he)
  have h4' := Int.emod_lt_of_pos (a + 1) he
  have h6 : e * ((a + 1) / e - a / e) = a % e + 1 - (a + 1) % e := by rw [Int.mul_sub]; omega
  have h7 : (a + 1) / e - a / e = 0 := by
    rcases Int.lt_or_le 0 ((a + 1) / e - a / e) with h | h
    · have : e * 1 ≤ e * ((a + 1) / e - a / e) := Int.mul_le_mul_of_nonneg_left (by omega) (Int.le_of_lt he)
      omega
    · rcases Int.lt_or_le ((a + 1) / e - a / e) 0 with h | h
      · have : e * ((a + 1) / e - a / e) ≤ e * (-1) := Int.mul_le_mul_of_nonneg_left (by omega) (Int.le_of_lt he)
        omega
      · omega
  omega
theorem mod_step (a e : Int) : (a % e + 1) % e = (a + 1) % e := by
  rw [Int.add_emod, Int.emod_emod_of_dvd _ (Int.dvd_refl e), ← Int.add_emod]

theorem len_takenF : ∀ (r : List (Int × Int)) (n : Int), (takenF r n).length = r.length + 1
  | [], _ => rfl
  | (e, c) :: r, n => by simp [takenF, len_takenF r]
theorem len_cntF : ∀ (r : List (Int × Int)) (n : Int), (cntF r n).length = r.length
  | [], _ => rfl
  | (e, c) :: r, n => by simp [cntF, len_cntF r]
theorem whoF_lt : ∀ (r : List (Int × Int)) (n : Int) (j : Nat), whoF r n = some j → j < r.length
  | [], _, _, h => by simp [whoF] at h
  | (e, c) :: r, n, j, h => by
    unfold whoF at h
    split at h
    · have := Option.some.inj h
      simp; omega
    · cases q : whoF r (n - (c + n) / e) with
      | none => rw [q] at h; simp at h
      | some k =>
        rw [q] at h
        have := whoF_lt r _ k q
        simp at h
        simp; omega
theorem come_succ : ∀ (r : List (Int × Int)) (n : Int) (i : Nat) (e c : Int), r[i]? = some (e, c) → comeF r (i + 1) n = comeF r i n - (c + comeF r i n) / e
  | [], _, _, _, _, h => by simp at h
  | (e, c) :: r, n, 0, e', c', h => by
    simp at h
    obtain ⟨rfl, rfl⟩ := h
    simp [comeF]
  | (e, c) :: r, n, i + 1, e', c', h => by
    have := come_succ r (n - (c + n) / e) i e' c' (by simpa using h)
    simpa [comeF] using this
theorem taken_get : ∀ (r : List (Int × Int)) (n : Int) (i : Nat) (e c : Int), r[i]? = some (e, c) → (takenF r n)[i]? = some ((c + comeF r i n) / e)
  | [], _, _, _, _, h => by simp at h
  | (e, c) :: r, n, 0, e', c', h => by
    simp at h
    obtain ⟨rfl, rfl⟩ := h
    simp [takenF, comeF]
  | (e, c) :: r, n, i + 1, e', c', h => by
    have := taken_get r (n - (c + n) / e) i e' c' (by simpa using h)
    simpa [takenF, comeF] using this
theorem taken_last : ∀ (r : List (Int × Int)) (n : Int), (takenF r n)[r.length]? = some (comeF r r.length n)
  | [], _ => by simp [takenF, comeF]
  | (e, c) :: r, n => by
    have := taken_last r (n - (c + n) / e)
    simpa [takenF, comeF] using this
/-- the place i is reached by piece n + 1 -/
def reach (r : List (Int × Int)) (n : Int) (i : Nat) : Prop := ∀ j, whoF r n = some j → i ≤ j
theorem come_step : ∀ (r : List (Int × Int)) (n : Int) (i : Nat), (∀ ec ∈ r, okT ec) → i ≤ r.length → reach r (n + 1) i → comeF r i (n + 1) = comeF r i n + 1
  | _, _, 0, _, _, _ => by simp [comeF]
  | [], _, i + 1, _, hi, _ => by simp at hi
  | (e, c) :: r, n, i + 1, ok, hi, h => by
    have he : (0 : Int) < e := by have := ok (e, c) (by simp); unfold okT at this; simp at this; omega
    have ea : c + (n + 1) = c + n + 1 := by omega
    by_cases q : (c + (n + 1)) % e = 0
    · have : i + 1 ≤ 0 := h 0 (by simp [whoF, q])
      omega
    · have e1 : (c + (n + 1)) / e = (c + n) / e := by rw [ea] at q ⊢; exact div_stepN he q
      unfold comeF
      rw [e1]
      have := come_step r (n - (c + n) / e) i (fun x hx => ok x (by simp [hx])) (by simp at hi; omega) (fun j hj => by
        have := h (j + 1) (by
          unfold whoF
          rw [if_neg q, e1, show n + 1 - (c + n) / e = n - (c + n) / e + 1 by omega, hj]
          rfl)
        omega)
      rw [← this]
      congr 1
      omega
theorem cnt_get : ∀ (r : List (Int × Int)) (n : Int) (i : Nat) (e c : Int), r[i]? = some (e, c) → (cntF r n)[i]? = some ((c + comeF r i n) % e)
  | [], _, _, _, _, h => by simp at h
  | (e, c) :: r, n, 0, e', c', h => by
    simp at h
    obtain ⟨rfl, rfl⟩ := h
    simp [cntF, comeF]
  | (e, c) :: r, n, i + 1, e', c', h => by
    have := cnt_get r (n - (c + n) / e) i e' c' (by simpa using h)
    simpa [cntF, comeF] using this
theorem who_at : ∀ (r : List (Int × Int)) (n : Int) (i : Nat) (e c : Int), r[i]? = some (e, c) → reach r n i → (whoF r n = some i ↔ (c + comeF r i n) % e = 0)
  | [], _, _, _, _, h, _ => by simp at h
  | (e, c) :: r, n, 0, e', c', h, hr => by
    simp at h
    obtain ⟨rfl, rfl⟩ := h
    simp [whoF, comeF]
  | (e, c) :: r, n, i + 1, e', c', h, hr => by
    have q : (c + n) % e ≠ 0 := fun q => by
      have := hr 0 (by simp [whoF, q])
      omega
    have := who_at r (n - (c + n) / e) i e' c' (by simpa using h) (fun j hj => by
      have := hr (j + 1) (by unfold whoF; rw [if_neg q, hj]; rfl)
      omega)
    unfold whoF comeF
    rw [if_neg q, ← this]
    cases whoF r (n - (c + n) / e) with
    | none => simp
    | some k => simp
theorem reach_succ {r : List (Int × Int)} {n : Int} {i : Nat} (h : reach r n i) (h2 : whoF r n ≠ some i) : reach r n (i + 1) := fun j hj => by
  have := h j hj
  rcases Nat.lt_or_ge i j with q | q
  · omega
  · have e : j = i := by omega
    subst e
    exact absurd hj h2
/-- behind the taker of piece n + 1 nothing is counted -/
theorem cnt_same : ∀ (r : List (Int × Int)) (n : Int) (i j : Nat), (∀ ec ∈ r, okT ec) → whoF r (n + 1) = some j → j < i → (cntF r (n + 1))[i]? = (cntF r n)[i]?
  | [], _, _, _, _, h, _ => by simp [whoF] at h
  | (e, c) :: r, n, 0, j, _, _, h => by omega
  | (e, c) :: r, n, i + 1, j, ok, h, hj => by
    have he : (0 : Int) < e := by have := ok (e, c) (by simp); unfold okT at this; simp at this; omega
    have ea : c + (n + 1) = c + n + 1 := by omega
    unfold whoF at h
    by_cases q : (c + (n + 1)) % e = 0
    · have e1 : (c + (n + 1)) / e = (c + n) / e + 1 := by rw [ea] at q ⊢; exact div_step0 he q
      unfold cntF
      rw [e1, show n + 1 - ((c + n) / e + 1) = n - (c + n) / e by omega]
      simp
    · have e1 : (c + (n + 1)) / e = (c + n) / e := by rw [ea] at q ⊢; exact div_stepN he q
      rw [if_neg q, e1, show n + 1 - (c + n) / e = n - (c + n) / e + 1 by omega] at h
      cases k : whoF r (n - (c + n) / e + 1) with
      | none => rw [k] at h; simp at h
      | some j' =>
        rw [k] at h
        simp at h
        have := cnt_same r (n - (c + n) / e) i j' (fun x hx => ok x (by simp [hx])) k (by omega)
        unfold cntF
        rw [e1, show n + 1 - (c + n) / e = n - (c + n) / e + 1 by omega]
        simpa using this
/-- the index that is counted up by who takes piece n: the last one where it is left over -/
def slot (r : List (Int × Int)) : Option Nat → Nat
  | none => r.length
  | some j => j
theorem taken_step : ∀ (r : List (Int × Int)) (n : Int) (i : Nat) (v : Int), (∀ ec ∈ r, okT ec) → (takenF r n)[i]? = some v →
    (takenF r (n + 1))[i]? = some (v + if i = slot r (whoF r (n + 1)) then 1 else 0)
  | [], n, i, v, _, h => by
    cases i with
    | zero => simp [takenF, whoF, slot] at h ⊢; omega
    | succ i => simp [takenF] at h
  | (e, c) :: r, n, i, v, ok, h => by
    have he : (0 : Int) < e := by have := ok (e, c) (by simp); unfold okT at this; simp at this; omega
    have ea : c + (n + 1) = c + n + 1 := by omega
    by_cases q : (c + (n + 1)) % e = 0
    · have e1 : (c + (n + 1)) / e = (c + n) / e + 1 := by rw [ea] at q ⊢; exact div_step0 he q
      unfold takenF at h ⊢
      rw [e1, show n + 1 - ((c + n) / e + 1) = n - (c + n) / e by omega]
      have hw : whoF ((e, c) :: r) (n + 1) = some 0 := by simp [whoF, q]
      rw [hw]
      cases i with
      | zero => simp [slot] at h ⊢; omega
      | succ i => simp [slot] at h ⊢; exact h
    · have e1 : (c + (n + 1)) / e = (c + n) / e := by rw [ea] at q ⊢; exact div_stepN he q
      have hw : whoF ((e, c) :: r) (n + 1) = (whoF r (n - (c + n) / e + 1)).map (· + 1) := by
        conv => lhs; unfold whoF
        rw [if_neg q, e1, show n + 1 - (c + n) / e = n - (c + n) / e + 1 by omega]
      have hs : slot ((e, c) :: r) (whoF ((e, c) :: r) (n + 1)) = slot r (whoF r (n - (c + n) / e + 1)) + 1 := by
        rw [hw]
        cases whoF r (n - (c + n) / e + 1) <;> simp [slot]
      rw [hs]
      unfold takenF at h ⊢
      rw [e1, show n + 1 - (c + n) / e = n - (c + n) / e + 1 by omega]
      cases i with
      | zero => simp at h ⊢; omega
      | succ i =>
        have := taken_step r (n - (c + n) / e) i v (fun x hx => ok x (by simp [hx])) (by simpa using h)
        simpa using this
theorem taken_zero : ∀ (r : List (Int × Int)), (∀ ec ∈ r, okT ec) → takenF r 0 = List.replicate (r.length + 1) 0
  | [], _ => rfl
  | (e, c) :: r, ok => by
    have h := ok (e, c) (by simp)
    unfold okT at h
    simp at h
    have e0 : (c + 0) / e = 0 := by rw [Int.add_zero]; exact Int.ediv_eq_zero_of_lt h.2.2.1 (by omega)
    unfold takenF
    rw [e0, show (0 : Int) - 0 = 0 by omega, taken_zero r fun x hx => ok x (by simp [hx])]
    rfl
theorem cnt_zero : ∀ (r : List (Int × Int)), (∀ ec ∈ r, okT ec) → cntF r 0 = r.map (·.2)
  | [], _ => rfl
  | (e, c) :: r, ok => by
    have h := ok (e, c) (by simp)
    unfold okT at h
    simp at h
    have e0 : (c + 0) / e = 0 := by rw [Int.add_zero]; exact Int.ediv_eq_zero_of_lt h.2.2.1 (by omega)
    unfold cntF
    rw [e0, show (0 : Int) - 0 = 0 by omega, cnt_zero r fun x hx => ok x (by simp [hx])]
    simp
    exact Int.emod_eq_of_lt h.2.2.1 (by omega)
/-- who takes the first m pieces -/
def seenF (r : List (Int × Int)) (m : Nat) : List (Option Nat) := (List.range m).map fun (k : Nat) => whoF r ((k : Int) + 1)
theorem seen_succ (r : List (Int × Int)) (m : Nat) : seenF r (m + 1) = seenF r m ++ [whoF r ((m : Int) + 1)] := by
  unfold seenF
  rw [List.range_succ, List.map_append]
  rfl
theorem len_seenF (r : List (Int × Int)) (m : Nat) : (seenF r m).length = m := by simp [seenF]
theorem slot_inj {r : List (Int × Int)} {n : Int} {i : Nat} {o : Option Nat} (ho : ∀ j, o = some j → j < r.length) : i = slot r (whoF r n) ∧ i = slot r o → whoF r n = o := by
  intro ⟨h1, h2⟩
  cases q : whoF r n with
  | none =>
    rw [q] at h1
    cases o with
    | none => rfl
    | some j =>
      have := ho j rfl
      simp [slot] at h1 h2
      omega
  | some k =>
    have := whoF_lt r n k q
    rw [q] at h1
    cases o with
    | none => simp [slot] at h1 h2; omega
    | some j => simp [slot] at h1 h2; congr 1; omega
/-- counted among the pieces seen: what takenF tells -/
theorem taken_count (r : List (Int × Int)) (ok : ∀ ec ∈ r, okT ec) (o : Option Nat) (ho : ∀ j, o = some j → j < r.length) :
    ∀ m : Nat, (takenF r (m : Int))[slot r o]? = some (((seenF r m).countP fun x => decide (x = o) : Nat) : Int)
  | 0 => by
    rw [show ((0 : Nat) : Int) = 0 from rfl, taken_zero r ok, List.getElem?_replicate]
    rw [if_pos]
    · simp [seenF]
    · cases o with
      | none => simp [slot]
      | some j => have := ho j rfl; simp [slot]; omega
  | m + 1 => by
    have ih := taken_count r ok o ho m
    have := taken_step r (m : Int) (slot r o) _ ok ih
    rw [show ((m + 1 : Nat) : Int) = (m : Int) + 1 by omega, this, seen_succ, List.countP_append]
    by_cases q : whoF r ((m : Int) + 1) = o
    · rw [if_pos (by rw [q])]
      simp [q]
    · rw [if_neg (fun z => q (slot_inj ho ⟨z, rfl⟩))]
      simp [q]
end TK

namespace TK
/-- which piece is the m-th that passes all of the row -/
def passF : List (Int × Int) → Int → Int
  | [], m => m
  | (e, c) :: r, m => passF r m + (c + passF r m - 1) / (e - 1)
theorem pass_one {e c m : Int} (he : 2 ≤ e) (p : Int) (hp : p = m + (c + m - 1) / (e - 1)) : (c + p) / e = p - m ∧ (c + p) % e ≠ 0 := by
  have d1 := Int.mul_ediv_add_emod (c + m - 1) (e - 1)
  have d2 := Int.emod_nonneg (c + m - 1) (show e - 1 ≠ 0 by omega)
  have d3 := Int.emod_lt_of_pos (c + m - 1) (show 0 < e - 1 by omega)
  have hq : (c + m - 1) / (e - 1) = p - m := by omega
  rw [hq] at d1
  have key : c + p = e * (p - m) + ((c + m - 1) % (e - 1) + 1) := by
    rw [Int.sub_mul, Int.one_mul] at d1
    omega
  have q1 : (c + p) / e = p - m := by
    rw [key, Int.add_comm, Int.add_mul_ediv_left _ _ (by omega), Int.ediv_eq_zero_of_lt (by omega) (by omega), Int.zero_add]
  refine ⟨q1, ?_⟩
  rw [key, Int.add_comm, Int.add_mul_emod_self_left, Int.emod_eq_of_lt (by omega) (by omega)]
  omega
theorem pass_back {e c n : Int} (he : 2 ≤ e) (h : (c + n) % e ≠ 0) : n - (c + n) / e + (c + (n - (c + n) / e) - 1) / (e - 1) = n := by
  have d1 := Int.mul_ediv_add_emod (c + n) e
  have d2 := Int.emod_nonneg (c + n) (show e ≠ 0 by omega)
  have d3 := Int.emod_lt_of_pos (c + n) (show 0 < e by omega)
  obtain ⟨q, hq⟩ : ∃ q, q = (c + n) / e := ⟨_, rfl⟩
  rw [← hq] at d1 ⊢
  have key : c + (n - q) - 1 = ((c + n) % e - 1) + (e - 1) * q := by
    rw [Int.sub_mul, Int.one_mul]
    omega
  rw [key, Int.add_mul_ediv_left _ _ (by omega), Int.ediv_eq_zero_of_lt (by omega) (by omega)]
  omega
theorem pass_ge : ∀ (r : List (Int × Int)) (m : Int), (∀ ec ∈ r, okT ec) → 1 ≤ m → m ≤ passF r m
  | [], m, _, _ => Int.le_refl m
  | (e, c) :: r, m, ok, hm => by
    have h := ok (e, c) (by simp)
    unfold okT at h
    simp at h
    have ih := pass_ge r m (fun x hx => ok x (by simp [hx])) hm
    have : 0 ≤ (c + passF r m - 1) / (e - 1) := Int.ediv_nonneg (by omega) (by omega)
    unfold passF
    omega
theorem pass_lt : ∀ (r : List (Int × Int)) (m n : Int), (∀ ec ∈ r, okT ec) → m < n → passF r m < passF r n
  | [], m, n, _, h => h
  | (e, c) :: r, m, n, ok, hm => by
    have h := ok (e, c) (by simp)
    unfold okT at h
    simp at h
    have ih := pass_lt r m n (fun x hx => ok x (by simp [hx])) hm
    have : (c + passF r m - 1) / (e - 1) ≤ (c + passF r n - 1) / (e - 1) := Int.ediv_le_ediv (by omega) (by omega)
    unfold passF
    omega
/-- the piece that comes to what stands behind pre as the x-th -/
theorem who_pass : ∀ (pre rest : List (Int × Int)) (x : Int), (∀ ec ∈ pre, okT ec) →
    whoF (pre ++ rest) (passF pre x) = (whoF rest x).map (· + pre.length) ∧ comeF (pre ++ rest) pre.length (passF pre x) = x
  | [], rest, x, _ => by
    constructor
    · cases h : whoF rest x <;> simp [passF, h]
    · simp [passF, come_zero]
  | (e, c) :: pre, rest, x, ok => by
    have h := ok (e, c) (by simp)
    unfold okT at h
    simp at h
    obtain ⟨ih1, ih2⟩ := who_pass pre rest x (fun y hy => ok y (by simp [hy]))
    obtain ⟨p1, p2⟩ := pass_one (c := c) (m := passF pre x) h.1 _ rfl
    have e1 : passF pre x + (c + passF pre x - 1) / (e - 1) - (c + (passF pre x + (c + passF pre x - 1) / (e - 1))) / e = passF pre x := by
      rw [p1]
      omega
    constructor
    · rw [List.cons_append]
      conv => lhs; unfold passF whoF
      rw [if_neg p2, e1, ih1]
      cases whoF rest x with
      | none => rfl
      | some j =>
        show some (j + pre.length + 1) = some (j + (pre.length + 1))
        rfl
    · rw [List.cons_append]
      unfold passF
      simp only [List.length_cons, comeF]
      rw [e1]
      exact ih2
theorem pass_come : ∀ (r : List (Int × Int)) (k : Nat) (n : Int), (∀ ec ∈ r, okT ec) → k ≤ r.length → reach r n k → passF (r.take k) (comeF r k n) = n
  | r, 0, n, _, _, _ => by simp [passF, come_zero]
  | [], k + 1, n, _, h, _ => by simp at h
  | (e, c) :: r, k + 1, n, ok, hk, hr => by
    have h := ok (e, c) (by simp)
    unfold okT at h
    simp at h
    have q : (c + n) % e ≠ 0 := fun q => by
      have := hr 0 (by simp [whoF, q])
      omega
    have ih := pass_come r k (n - (c + n) / e) (fun x hx => ok x (by simp [hx])) (by simp at hk; omega) (fun j hj => by
      have := hr (j + 1) (by unfold whoF; rw [if_neg q, hj]; rfl)
      omega)
    simp only [List.take_succ_cons, passF, comeF]
    rw [ih]
    exact pass_back h.1 q
/-- which piece is told -/
def pieceF (r : List (Int × Int)) (o : Option Nat) (n : Int) : Int := match o with
  | none => passF r n
  | some k => match r[k]? with
    | some (e, c) => passF (r.take k) (n * e - c)
    | none => 0
theorem split_at {r : List (Int × Int)} {k : Nat} {e c : Int} (h : r[k]? = some (e, c)) : r = r.take k ++ (e, c) :: r.drop (k + 1) := by
  obtain ⟨hk, he⟩ := List.getElem?_eq_some_iff.mp h
  rw [← he, ← List.drop_eq_getElem_cons hk, List.take_append_drop]
theorem take_ok {r : List (Int × Int)} (ok : ∀ ec ∈ r, okT ec) (k : Nat) : ∀ ec ∈ r.take k, okT ec := fun ec h => ok ec (List.mem_of_mem_take h)
/-- all that is asked of a told piece -/
theorem piece_facts (r : List (Int × Int)) (ok : ∀ ec ∈ r, okT ec) (o : Option Nat) (ho : ∀ j, o = some j → j < r.length) (n : Int) (hn : 1 ≤ n) :
    whoF r (pieceF r o n) = o ∧ (takenF r (pieceF r o n))[slot r o]? = some n ∧ 1 ≤ pieceF r o n := by
  cases o with
  | none =>
    obtain ⟨h1, h2⟩ := who_pass r [] n ok
    rw [List.append_nil] at h1 h2
    refine ⟨by simpa [pieceF, whoF] using h1, ?_, ?_⟩
    · show (takenF r (passF r n))[r.length]? = some n
      rw [taken_last, h2]
    · have := pass_ge r n ok hn
      show 1 ≤ passF r n
      omega
  | some k =>
    have hk := ho k rfl
    obtain ⟨⟨e, c⟩, hec⟩ : ∃ ec, r[k]? = some ec := ⟨_, List.getElem?_eq_getElem hk⟩
    have hok : okT (e, c) := ok _ (List.mem_of_getElem? hec)
    unfold okT at hok
    simp at hok
    have sp := split_at hec
    have lt : (r.take k).length = k := by rw [List.length_take]; omega
    have pe : pieceF r (some k) n = passF (r.take k) (n * e - c) := by
      unfold pieceF
      simp only [hec]
    obtain ⟨h1, h2⟩ := who_pass (r.take k) ((e, c) :: r.drop (k + 1)) (n * e - c) (take_ok ok k)
    rw [← sp, lt] at h1 h2
    have hx : c + (n * e - c) = n * e := by omega
    have m0 : (c + (n * e - c)) % e = 0 := by rw [hx]; exact Int.mul_emod_left n e
    have w1 : whoF ((e, c) :: r.drop (k + 1)) (n * e - c) = some 0 := by
      unfold whoF
      rw [if_pos m0]
    rw [w1] at h1
    refine ⟨?_, ?_, ?_⟩
    · rw [pe, h1]
      simp
    · rw [pe]
      show (takenF r _)[k]? = some n
      rw [taken_get r _ k e c hec, h2, hx, Int.mul_ediv_cancel _ (by omega)]
    · rw [pe]
      have : 1 * e ≤ n * e := Int.mul_le_mul_of_nonneg_right hn (by omega)
      have := pass_ge (r.take k) (n * e - c) (take_ok ok k) (by omega)
      omega
theorem piece_lt (r : List (Int × Int)) (ok : ∀ ec ∈ r, okT ec) (o : Option Nat) (ho : ∀ j, o = some j → j < r.length) (n : Int) : pieceF r o n < pieceF r o (n + 1) := by
  cases o with
  | none => exact pass_lt r _ _ ok (by omega)
  | some k =>
    have hk := ho k rfl
    obtain ⟨⟨e, c⟩, hec⟩ : ∃ ec, r[k]? = some ec := ⟨_, List.getElem?_eq_getElem hk⟩
    have hok : okT (e, c) := ok _ (List.mem_of_getElem? hec)
    unfold okT at hok
    simp at hok
    unfold pieceF
    simp only [hec]
    apply pass_lt _ _ _ (take_ok ok k)
    rw [Int.add_mul]
    omega
theorem slot_lt {r : List (Int × Int)} {o : Option Nat} (ho : ∀ j, o = some j → j < r.length) : slot r o < r.length + 1 := by
  cases o with
  | none => simp [slot]
  | some j => have := ho j rfl; simp [slot]; omega
/-- just ahead of a piece that o takes one fewer -/
theorem taken_ahead (r : List (Int × Int)) (ok : ∀ ec ∈ r, okT ec) (o : Option Nat) (ho : ∀ j, o = some j → j < r.length) (p n : Int) (hw : whoF r p = o) (ht : (takenF r p)[slot r o]? = some n) : (takenF r (p - 1))[slot r o]? = some (n - 1) := by
  have hl : slot r o < (takenF r (p - 1)).length := by rw [len_takenF]; exact slot_lt ho
  have h := taken_step r (p - 1) (slot r o) _ ok (List.getElem?_eq_getElem hl)
  rw [show p - 1 + 1 = p by omega, hw, if_pos rfl, ht] at h
  rw [List.getElem?_eq_getElem hl]
  have := Option.some.inj h
  congr 1
  omega
theorem sum_taken : ∀ (r : List (Int × Int)) (n : Int), (takenF r n).sum = n
  | [], n => by simp [takenF]
  | (e, c) :: r, n => by
    unfold takenF
    rw [List.sum_cons, sum_taken r]
    omega
theorem taken_nonneg : ∀ (r : List (Int × Int)) (n : Int), (∀ ec ∈ r, okT ec) → 0 ≤ n → ∀ x ∈ takenF r n, 0 ≤ x
  | [], n, _, hn => by simp [takenF]; exact hn
  | (e, c) :: r, n, ok, hn => by
    have h := ok (e, c) (by simp)
    unfold okT at h
    simp at h
    have d0 : 0 ≤ (c + n) / e := Int.ediv_nonneg (by omega) (by omega)
    have d1 : (c + n) / e ≤ n := by
      have : (c + n) / e < n + 1 := by
        apply Int.ediv_lt_of_lt_mul (by omega)
        have : n * 2 ≤ n * e := Int.mul_le_mul_of_nonneg_left (by omega) hn
        rw [Int.add_mul]
        omega
      omega
    intro x hx
    unfold takenF at hx
    rcases List.mem_cons.mp hx with e | hx
    · rw [e]; exact d0
    · exact taken_nonneg r _ (fun y hy => ok y (by simp [hy])) (by omega) x hx
theorem who_ok (r : List (Int × Int)) (n : Int) : ∀ j, whoF r n = some j → j < r.length := fun j h => whoF_lt r n j h
/-- the told piece of whom takes it is that piece -/
theorem piece_back (r : List (Int × Int)) (ok : ∀ ec ∈ r, okT ec) (n v : Int) (hv : (takenF r n)[slot r (whoF r n)]? = some v) : pieceF r (whoF r n) v = n := by
  cases hw : whoF r n with
  | none =>
    rw [hw] at hv
    have hv : (takenF r n)[r.length]? = some v := hv
    rw [taken_last] at hv
    have := Option.some.inj hv
    subst this
    have := pass_come r r.length n ok (Nat.le_refl _) (fun j hj => by rw [hw] at hj; cases hj)
    rw [List.take_length] at this
    exact this
  | some k =>
    have hk := whoF_lt r n k hw
    obtain ⟨⟨e, c⟩, hec⟩ : ∃ ec, r[k]? = some ec := ⟨_, List.getElem?_eq_getElem hk⟩
    have hok : okT (e, c) := ok _ (List.mem_of_getElem? hec)
    unfold okT at hok
    simp at hok
    have hre : reach r n k := fun j hj => by rw [hw] at hj; have := Option.some.inj hj; omega
    have wa := (who_at r n k e c hec hre).mp hw
    rw [hw] at hv
    have hv : (takenF r n)[k]? = some v := hv
    rw [taken_get r n k e c hec] at hv
    have := Option.some.inj hv
    subst this
    unfold pieceF
    simp only [hec]
    have d1 := Int.mul_ediv_add_emod (c + comeF r k n) e
    rw [wa] at d1
    rw [show (c + comeF r k n) / e * e - c = comeF r k n by rw [Int.mul_comm]; omega]
    exact pass_come r k n ok (by omega) hre
end TK

set_option maxRecDepth 100000
/-! enumerate over a tuple, as a rule of the layer -/
namespace TK
open PySem PySem.Spec PyProof.Rows L2

/-- the iterator that a tuple gives -/
def tupIt (t : Addr) : Obj := { cls := .type "tuple_iterator", data := .fields #[.ref t, .int 0 0] }
/-- a new enumerate over the iterator at a -/
def enumOf (a : Addr) : Obj := { cls := .type "enumerate", data := .fields #[.none, .bool false, .ref a, rawInt 0, .none, .none] }

set_option maxHeartbeats 2000000 in
theorem newEnumT (t : Addr) (vs : Array Value) (m : Nat) (dd : Option Addr) (ss : Array (Option Value)) :
    Meets (Builtin.«enumerate.__new__» ⟨[.type "enumerate", .ref t], []⟩) (fun _ R s =>
      s.heap.get? t = some { cls := .type "tuple", dict := dd, data := .seq vs m, slots := ss } ∧
      R (.ok (.ret (.ref (s.heap.push (tupIt t)).objs.size))) { s with heap := (s.heap.push (tupIt t)).push (enumOf s.heap.objs.size) }) :=
  .of_wp fun prog w A R s hyp => by
    obtain ⟨hp, g, d, tk, os⟩ := s
    obtain ⟨ht, hR⟩ := hyp
    have isSub := sub_enumerate
    have isT : Heap.IsTuple (Shared.heap ⟨hp, g, d, tk, os⟩) t vs := ⟨_, ht, rfl, m, rfl⟩
    wp_walk using AutoSeq1.wpAny_loadPart' ht
    refine wpAny_stack_any fun st => wpAny_pure ?_
    split
    · rename_i c _ _ _ _ _
      cases (c == Value.type "enumerate") <;> (wp_walk using AutoSeq1.wpAny_loadPart' ht, wpAny_pyIter_tuple isT; exact ⟨_, rfl, hR⟩)
    · wp_walk using AutoSeq1.wpAny_loadPart' ht, wpAny_pyIter_tuple isT
      exact ⟨_, rfl, hR⟩

section
variable {prog : Program} {w : World} {A : Around} {E : Value → Shared → Prop} {s : Shared}
theorem callEnumT {t : Addr} {vs : Array Value} {Q : Value → Shared → Prop} (ht : s.heap.IsTuple t vs)
    (k : ∀ h', IsEnum h' (s.heap.objs.size + 1) s.heap.objs.size 0 .none → h'.IsTupleIter s.heap.objs.size t 0 →
      (∀ b o, s.heap.get? b = some o → h'.get? b = some o) → Q (.ref (s.heap.objs.size + 1)) { s with heap := h' }) :
    wpAny (model prog w) A (call (.type "enumerate") [.ref t]) Q E s := by
  obtain ⟨⟨cl, dd, dt, ss⟩, e0, e1, m, e2⟩ := ht
  replace e1 : cl = .type "tuple" := e1
  replace e2 : dt = .seq vs m := e2
  subst e1 e2
  refine callType_new F.called_enumerate (by decide) (F.typeCall_enumerate_1 _) (F.newCall_enumerate_1 _)
    (fun obj => F.args_object_init_2 obj _) F.entry_enumerate_new (newEnumT t vs m dd ss) ⟨e0, ?_⟩
  have sz : (s.heap.push (tupIt t)).objs.size = s.heap.objs.size + 1 := Heap.size_push ..
  show _ ∧ _
  rw [sz]
  have he : IsEnum ((s.heap.push (tupIt t)).push (enumOf s.heap.objs.size)) (s.heap.objs.size + 1) s.heap.objs.size 0 .none := by
    have q := Heap.get?_push_size (s.heap.push (tupIt t)) (o := enumOf s.heap.objs.size) rfl
    rw [sz] at q
    exact q
  exact ⟨⟨_, he, rfl⟩, k _ he ⟨_, Heap.get?_push_of_some _ (Heap.get?_push_size _ rfl), rfl, rfl⟩ fun b o x => Heap.get?_push_of_some _ (Heap.get?_push_of_some _ x)⟩

theorem nextEnumT_end {e it t : Addr} {i : Nat} {vs : Array Value} {old : Value} {Q : Option Value → Shared → Prop} (hh : A.handled = none)
    (he : IsEnum s.heap e it i old) (hi : s.heap.IsTupleIter it t i) (ht : s.heap.IsTuple t vs) (hx : vs[i]? = none)
    (k : ∀ h', Heap.ExtBut it s.heap h' → Q none { s with heap := h' }) : wpAny (model prog w) A (pyNext (.ref e)) Q E s := by
  have ty : s.TypeIs (.ref e) "enumerate" := ⟨_, he, rfl⟩
  unfold pyNext
  refine wpAny_bind (wpAny_attempt (wpAny_callSpecial?_slot (name := Str.ofString "__next__") ty F.slot_enumerate_next
    (wpAny_call_entry F.slot_enumerate_next ty F.entry_enumerate_next ?_ (F.args_enumerate_next_1 _))))
  show wpAny _ _ (field (.ref e) 2 >>= _) _ _ s
  refine wpAny_bind (wpAny_field he rfl (x := .ref it) rfl ?_)
  refine wpAny_bind (wpAny_nextOf_tuple_end hh hi ht hx fun h1 x eb xo => ?_)
  obtain ⟨o, ho, hc⟩ := xo
  exact wpAny_bind (wpAny_isInstance (T := "StopIteration") (b := true) ⟨o, ho, hc⟩ isSubtype_stop (wpAny_pure (k _ eb)))
end

/-- the tuple at a, each item in a new pair -/
def ItEt (K : PySem.W.Frag) (a : Addr) : It where
  go := fun i H => ∃ (xs : List V) (x : V), SqT K H a xs ∧ xs[i]? = some x
  yld := fun i H v H' => ∃ T x, v = .ref T ∧ H T = none ∧ H' = upd H T (.tup [.int (i : Nat), x]) ∧ ∀ xs, SqT K H a xs → xs[i]? = some x
  stop := fun i H => ∃ xs : List V, SqT K H a xs ∧ xs.length ≤ i

theorem turn_enumT {P : Program} {w : World} {K : PySem.W.Frag} {elts : List Expr} {kk : Nat} {tpos : Pos} (a e it : Addr) :
    Turn P w K (.Tuple elts kk tpos) (ItEt K a) [e, it] e (fun i h => (∃ old, IsEnum h e it ((i : Nat) : Int) old) ∧ h.IsTupleIter it a i ∧ e ≠ it ∧ a ≠ it ∧ a ≠ e) where
  mem := by simp
  obj := fun i h st b hb => by
    obtain ⟨⟨old, he⟩, ⟨o, ho, hc, hd⟩, _⟩ := st
    rcases (show b = e ∨ b = it by simpa using hb) with z | z
    · subst z
      exact ⟨_, he, fun v q => nomatch q⟩
    · subst z
      exact ⟨o, ho, fun v q => by rw [hd] at q; cases q⟩
  keep := fun i h h' st k => by
    obtain ⟨⟨old, he⟩, ⟨o, ho, r⟩, hne⟩ := st
    exact ⟨⟨old, k e (by simp) _ he⟩, ⟨o, k it (by simp) o ho, r⟩, hne⟩
  item := by
    intro X hP hw hK hc i pins s σ H E I hf st hg
    subst hP hw hK
    obtain ⟨⟨old, he⟩, hit, n1, n2, n3⟩ := st
    obtain ⟨xs, x, hq, hx⟩ := hg
    obtain ⟨its, rv, p, hz⟩ := I.tuple hq
    obtain ⟨u, hu, ru⟩ := rv.get hx
    have le : e < s.heap.objs.size := Heap.lt_size he
    have li : it < s.heap.objs.size := by
      obtain ⟨_, q, _⟩ := hit
      exact Heap.lt_size q
    have hil : i < its.toArray.size := by
      rw [List.size_toArray]
      exact (List.getElem?_eq_some_iff.mp hu).1
    refine wpAny_pyNext_enum_itemD (Draws.tuple (A := X.A.in1) (show X.A.in1.handled = none from I.ok.hd hc) it a n2 its.toArray) he ⟨hit, p⟩ hil n1 (fun z => ?_) fun y h' tk hy ho hs' hT hsz hk => ?_
    · rcases (show e = it ∨ e = a by simpa using z) with z | z
      · exact n1 z
      · exact n3 z.symm
    have ey : y = u := by
      have q1 : its[i]? = some y := by simpa using hy
      exact Option.some.inj (q1.symm.trans hu)
    subst ey
    refine ⟨_, rfl, wpAny_letOwnedTupleGo_enum (s := { s with heap := h', toks := tk + 1 }) ho fun h2 he' sb => ?_⟩
    have hT2 : h2.get? s.heap.objs.size = some { cls := .type "tuple", data := .seq #[.int i tk, y] } := (sb.2 _ (Nat.ne_of_gt le)).trans hT
    have new : ObjOk X.prog X.w (upd H s.heap.objs.size (.tup [.int (i : Nat), x])) h2 s.heap.objs.size (.tup [.int (i : Nat), x]) :=
      ⟨by show 2 ≤ sizeLine; decide, [.int i tk, y], .cons ⟨_, rfl⟩ (.cons ru .nil), ⟨_, hT2, rfl, _, rfl⟩⟩
    have I1 : Inv X pins σ (upd H s.heap.objs.size (.tup [.int (i : Nat), x])) { s with heap := h2, toks := tk + 1 } :=
      I.turnedNew (ch := [e, it]) (fun b ob hb q => (sb.2 b fun z => hb (by simp [z])).trans (hk b ob (fun z => hb (by simp [z])) (fun z => hb (by simp [z])) q)) hf (Nat.le_refl _) new
    refine ⟨.ref s.heap.objs.size, _, I1, rfl, ⟨_, x, rfl, I.hok.fresh (Nat.le_refl _), rfl, fun ys hy => by rw [I.tuple_inj hy hq]; exact hx⟩, ⟨⟨y, ?_⟩, ?_, n1, n2, n3⟩, fun b hb => ?_⟩
    · rw [show ((i + 1 : Nat) : Int) = (i : Int) + 1 by omega]
      exact he'
    · obtain ⟨o, ho, r⟩ := hs'.1
      exact ⟨o, (sb.2 it (Ne.symm n1)).trans ho, r⟩
    · have lb : b < s.heap.objs.size := by
        rcases (show b = e ∨ b = it by simpa using hb) with z | z
        · rw [z]; exact le
        · rw [z]; exact li
      rw [upd_ne (Nat.ne_of_lt lb)]
      exact (hf b hb).1
  done := by
    intro X hP hw hK hc i pins s σ H E I hf st hg
    subst hP hw hK
    obtain ⟨⟨old, he⟩, hit, n1, n2, n3⟩ := st
    obtain ⟨xs, hq, hx⟩ := hg
    obtain ⟨its, rv, p, hz⟩ := I.tuple hq
    obtain ⟨f0, f1, f2, f3, f4, f5⟩ := hf it (by simp)
    have hl := rv.length
    exact nextEnumT_end (I.ok.hd hc) he hit p (by simp; omega) fun h' eb => ⟨rfl, I.turned (t' := s.toks) (fun b o hb q => eb b o hb q) f0 f1 f3 f4 f5⟩
  self := fun A i s Q E st h => by
    obtain ⟨⟨_, he⟩, _⟩ := st
    exact wpAny_pyIter_enum he h

def iEnumT (K : PySem.W.Frag) (ta : TA) : TI := fun σ H R => ta σ H fun vs H1 => ∃ a xs, vs = [.ref a] ∧ SqT K H1 a xs ∧ R (ItEt K a) H1
theorem pi_enumT {X : Cx} {e : Expr} {ta : TA} {p pos tpos : Pos} {elts : List Expr} {kk : Nat} (hg : Gl X "enumerate") (hm : X.mg "enumerate" = none) (ha : PA X [e] ta)
    (hs : starEach [e] X.env = [(false, eval e X.env)] := by rfl) : PI X (.Tuple elts kk tpos) (.Call (.Name "enumerate" p) [e] [] pos) (iEnumT X.K ta) := by
  refine ⟨fun pins s σ H R I h => ?_⟩
  refine Call_ (ld_blt I hg hm boot_enumerate (PyProof.Rows.callWith_type1 (thn (ha.run pos pins s σ H _ I h) fun us s1 ⟨vs, H1, I1, r1, q1⟩ => ?_) hs rfl))
  obtain ⟨a, xs, ex, hq, q⟩ := q1
  subst ex
  cases r1 with
  | cons r rr =>
    cases rr
    cases r
    obtain ⟨its, rv, pt, hz⟩ := I1.tuple hq
    have la : a < s1.heap.objs.size := pt.lt
    refine callEnumT pt fun h' he hit hk => wpAny_pyIter_enum he ?_
    have I2 : Inv X pins σ H1 { s1 with heap := h' } := I1.kept (t' := s1.toks) hk
    refine ⟨s1.heap.objs.size + 1, [s1.heap.objs.size + 1, s1.heap.objs.size], _, _, H1, rfl, I2, turn_enumT a (s1.heap.objs.size + 1) s1.heap.objs.size,
      ⟨⟨.none, he⟩, hit, Nat.succ_ne_self _, Nat.ne_of_lt la, Nat.ne_of_lt (Nat.lt_succ_of_lt la)⟩, fun b hb => ?_, q⟩
    have hle : s1.heap.objs.size ≤ b := by
      rcases (show b = s1.heap.objs.size + 1 ∨ b = s1.heap.objs.size by simpa using hb) with z | z
      · rw [z]; exact Nat.le_add_right _ _
      · rw [z]; exact Nat.le_refl _
    exact I1.fpOk hle (I1.hok.fresh hle)
end TK

set_option maxRecDepth 100000
/-! xs.count(y), flat things -/
namespace TK
open PySem PySem.Spec PyProof.Rows L2
theorem count_eqU {x : V} : ∀ {xs : List V} {us : List Value}, Vals xs us → xs.all flatV = true → us.countP (eqU x) = xs.countP fun y => eqV y x
  | _, _, .nil, _ => rfl
  | y :: xs, u :: us, .cons r t, f => by
    rw [List.all_cons, Bool.and_eq_true] at f
    rw [List.countP_cons, List.countP_cons, count_eqU t f.2, eqU_of r f.1]
section
variable {X : Cx}
def rCntF (K : PySem.W.Frag) : V → List V → Hp → VK → Prop := fun x xs H Q => ∃ (p : Addr) (ys : List V) (y : V), x = .ref p ∧ xs = [y] ∧ SqL K H p ys ∧ flatV y = true ∧ ys.all flatV = true ∧ Q (.int ((ys.countP fun z => eqV z y : Nat) : Int)) H
theorem mt_countF : MtR X "list.count" (rCntF X.K) := by
  intro pins s σ H x xs v us Q I rx rxs h
  obtain ⟨p, ys, y, rfl, rfl, hs, fy, fs, q⟩ := h
  cases rx
  obtain ⟨u, rfl, ru⟩ := rxs.one
  obtain ⟨its, rv, ⟨⟨cls, dd, data, sl⟩, n, ho, hc, hdn, hd⟩, hlen⟩ := I.list hs
  simp only at hc hd
  subst hc hd
  refine call_meets PySem.F.slot_list_count ⟨_, ho, rfl⟩ PySem.F.entry_list_count (PySem.F.args_list_count_2 _ _)
    (SeqAt.list_countAt p its.toArray n dd sl u (eqU y)) ⟨ho, fun z hz => mem_eqAt ru fy rv fs z (by simpa using hz), ?_⟩
  refine ⟨.int ((ys.countP fun z => eqV z y : Nat) : Int), H, I.tok _, ⟨s.toks, ?_⟩, q⟩
  have e : its.toArray.toList.countP (eqU y) = ys.countP fun z => eqV z y := count_eqU rv fs
  rw [← e]
end
end TK

set_option maxRecDepth 100000
/-! heaps: rows, bags -/
namespace TK
open PySem PySem.Spec PyProof.Rows L2

theorem same_new {H : Hp} {p : Addr} {o : HO} (h : H p = none) : Same H (upd H p o) := fun b x e => by
  rw [upd_ne (ne_of_none e h)]
  exact e
/-- a new object's own changes leave what stood -/
theorem same_upd_new {H H' : Hp} {p : Addr} {o : HO} (h : H p = none) (s : Same H H') : Same H (upd H' p o) := fun b x e => by
  rw [upd_ne (ne_of_none e h)]
  exact s b x e
def ofO : Option Nat → V
  | none => .non
  | some k => .int (k : Nat)
theorem ofO_inj : ∀ {a b : Option Nat}, ofO a = ofO b → a = b
  | none, none, _ => rfl
  | none, some _, h => nomatch h
  | some _, none, h => nomatch h
  | some a, some b, h => by
    have := V.int.inj h
    congr 1
    omega
theorem scal_ofO : ∀ (a b : Option Nat), scal (ofO a) (ofO b) = true
  | none, none => rfl
  | none, some _ => rfl
  | some _, none => rfl
  | some _, some _ => rfl
theorem flat_ofO : ∀ (a : Option Nat), flatV (ofO a) = true
  | none => rfl
  | some _ => rfl
theorem eqV_ofO (a b : Option Nat) : eqV (ofO a) (ofO b) = decide (a = b) := by
  cases a with
  | none => cases b <;> rfl
  | some x =>
    cases b with
    | none => rfl
    | some y =>
      show ((x : Int) == (y : Int)) = decide (some x = some y)
      rw [Bool.eq_iff_iff, beq_iff_eq, decide_eq_true_iff]
      constructor
      · intro h; congr 1; omega
      · intro h; have := Option.some.inj h; omega

/-- a row: a tuple of pairs -/
def RowAt (H : Hp) (p : Addr) (r : List (Int × Int)) : Prop :=
  ∃ ts : List Addr, H p = some (.tup (ts.map V.ref)) ∧ ts.length = r.length ∧ ∀ (i : Nat) (t : Addr) (ec : Int × Int), ts[i]? = some t → r[i]? = some ec → H t = some (.tup [.int ec.1, .int ec.2])
/-- every tuple stands as it stood -/
def TupS (H H' : Hp) : Prop := ∀ a xs, H a = some (.tup xs) → H' a = some (.tup xs)
theorem tupS_of {H H' : Hp} (s : Same H H') : TupS H H' := fun a xs h => s a _ h
theorem TupS.trans {H H1 H2 : Hp} (a : TupS H H1) (b : TupS H1 H2) : TupS H H2 := fun c o h => b c o (a c o h)
theorem RowAt.keep {H H' : Hp} {p : Addr} {r : List (Int × Int)} (h : RowAt H p r) (k : TupS H H') : RowAt H' p r := by
  obtain ⟨ts, h1, h2, h3⟩ := h
  exact ⟨ts, k _ _ h1, h2, fun i t ec a b => k _ _ (h3 i t ec a b)⟩

/-- a bag of draws -/
def Bag (H : Hp) (b : Addr) : Prop :=
  ∃ (d : Addr) (ds : List Int) (c : Int), H b = some (.lst [.ref d, .int c]) ∧ H d = some (.lst (ds.map V.int)) ∧ ds.length = 400 ∧ (∀ x ∈ ds, 0 ≤ x ∧ x < 1000) ∧ 0 ≤ c
/-- all but the object at b stands as it stood -/
def Kb (b : Addr) (H H' : Hp) : Prop := ∀ a o, a ≠ b → H a = some o → H' a = some o
theorem Kb.refl (b : Addr) (H : Hp) : Kb b H H := fun _ _ _ h => h
theorem Kb.trans {b : Addr} {H H1 H2 : Hp} (x : Kb b H H1) (y : Kb b H1 H2) : Kb b H H2 := fun a o n h => y a o n (x a o n h)
theorem Kb.of {b : Addr} {H H' : Hp} (s : Same H H') : Kb b H H' := fun a o _ h => s a o h
theorem Kb.tup {b : Addr} {H H' : Hp} (k : Kb b H H') (hb : Bag H b) : TupS H H' := fun a xs h => by
  obtain ⟨d, ds, c, h1, _⟩ := hb
  exact k a _ (ne_of h h1 (by intro z; cases z)) h
theorem Bag.same {b : Addr} {H H' : Hp} (hb : Bag H b) (s : Same H H') : Bag H' b := by
  obtain ⟨d, ds, c, h1, h2, h3⟩ := hb
  exact ⟨d, ds, c, s _ _ h1, s _ _ h2, h3⟩
theorem Bag.keep {b b' : Addr} {H H' : Hp} (hb : Bag H b) (k : Kb b H H') (hn : Bag H' b) (hb' : Bag H b') : Bag H' b' := by
  by_cases e : b' = b
  · rw [e]; exact hn
  · obtain ⟨d, ds, c, h1, h2, h3, h4, h5⟩ := hb'
    obtain ⟨d0, ds0, c0, g1, _⟩ := hb
    have nd : d ≠ b := ne_of h2 g1 (by
      intro z
      have z1 : ds.map V.int = [.ref d0, .int c0] := HO.lst.inj z
      have z2 := congrArg List.length z1
      rw [List.length_map, h3] at z2
      simp at z2)
    exact ⟨d, ds, c, k _ _ e h1, k _ _ nd h2, h3, h4, h5⟩
theorem Kb.free {b l : Addr} {H H' : Hp} (k : Kb b H H') (hn : Bag H' b) (h : H' l = none) : H l = none := by
  cases q : H l with
  | none => rfl
  | some o =>
    by_cases e : l = b
    · obtain ⟨d, ds, c, h1, _⟩ := hn
      rw [e, h1] at h
      cases h
    · rw [k l o e q] at h
      cases h
/-- a list whose first is no reference is no bag -/
theorem ne_bag {H : Hp} {a b : Addr} {xs : List V} (h : H a = some (.lst xs)) (hb : Bag H b) (hx : ∀ d, xs[0]? ≠ some (.ref d)) : a ≠ b := by
  obtain ⟨d, ds, c, h1, _⟩ := hb
  refine ne_of h h1 fun z => ?_
  have z1 : xs = [.ref d, .int c] := HO.lst.inj z
  exact hx d (by rw [z1]; rfl)
theorem ne_bag2 {H : Hp} {a b : Addr} {xs : List V} (h : H a = some (.lst xs)) (hb : Bag H b) (hx : ∀ d, xs[1]? ≠ some (.int d)) : a ≠ b := by
  obtain ⟨d, ds, c, h1, _⟩ := hb
  refine ne_of h h1 fun z => ?_
  have z1 : xs = [.ref d, .int c] := HO.lst.inj z
  exact hx c (by rw [z1]; rfl)
theorem sq_of {K : PySem.W.Frag} {H : Hp} {a : Addr} {xs : List V} (h : H a = some (.lst xs)) : SqL K H a xs := .inl (.inl h)
theorem st_of {K : PySem.W.Frag} {H : Hp} {a : Addr} {xs : List V} (h : H a = some (.tup xs)) : SqT K H a xs := .inl (.inl h)
/-- the script stands, whatever a bag does -/
theorem Kb.seq {K : PySem.W.Frag} {b a : Addr} {H H' : Hp} {ns : List Int} (k : Kb b H H') (hb : Bag H b) (h : SqL K H a (ns.map V.int)) : SqL K H' a (ns.map V.int) := by
  rcases h with (h | ⟨o, h⟩) | h
  · exact .inl (.inl (k _ _ (ne_bag h hb (by intro d; rw [List.getElem?_map]; cases ns[0]? <;> simp)) h))
  · obtain ⟨d, ds, c, h1, _⟩ := hb
    exact .inl (.inr ⟨o, k _ _ (ne_of h h1 (by intro z; cases z)) h⟩)
  · exact .inr h
theorem Bag.upd_refs {b D : Addr} {H : Hp} {bs : List Addr} {o : HO} (hb : Bag H b) (h : H D = some (.lst (bs.map V.ref))) : Bag (upd H D o) b := by
  obtain ⟨d, ds, c, h1, h2, h3, h4⟩ := hb
  have n1 : b ≠ D := ne_of h1 h (by
    intro z
    have z1 : [V.ref d, V.int c] = bs.map V.ref := HO.lst.inj z
    have z2 : (bs.map V.ref)[1]? = some (.int c) := by rw [← z1]; rfl
    rw [List.getElem?_map] at z2
    cases q : bs[1]? <;> rw [q] at z2 <;> cases z2)
  have n2 : d ≠ D := ne_of h2 h (by
    intro z
    have z1 : ds.map V.int = bs.map V.ref := HO.lst.inj z
    have z2 : (ds.map V.int)[0]? = (bs.map V.ref)[0]? := by rw [z1]
    rw [List.getElem?_map, List.getElem?_map, List.getElem?_eq_getElem (by omega)] at z2
    cases q : bs[0]? <;> rw [q] at z2 <;> cases z2)
  exact ⟨d, ds, c, by rw [upd_ne n1]; exact h1, by rw [upd_ne n2]; exact h2, h3, h4⟩
theorem yesT {σ : L2.St} {H : Hp} {A B : Hp → Prop} (h : A H) : tYes σ H (fun b H3 => if b = true then A H3 else B H3) := by
  show if true = true then A H else B H
  rw [if_pos rfl]
  exact h
/-- the walk of enumerate over a tuple -/
theorem walk_enumT {K : PySem.W.Frag} {a : Addr} {xs : List V} : Walk (ItEt K a) xs.length (fun H => SqT K H a xs) (YPair (fun i => some (.int (i : Nat))) (fun i => xs[i]?)) := by
  refine ⟨fun i H hi h => ⟨xs, xs[i], h, List.getElem?_eq_getElem hi⟩, fun H h => ⟨xs, h, Nat.le_refl _⟩, fun i H v H' hi h y => ?_⟩
  obtain ⟨T, x, e1, e2, e3, e4⟩ := y
  exact ⟨T, _, x, e1, e2, e3, rfl, e4 xs h⟩
end TK

set_option maxRecDepth 100000
/-! lists compared, cut, set -/
namespace TK
open PySem PySem.Spec PyProof.Rows L2
theorem lay_ints : ∀ ns : List Int, PyData.canLayAll0 (ns.map PyData.int) = true
  | [] => rfl
  | n :: r => by
    show (PyData.canLay0 (.int n) && PyData.canLayAll0 (r.map PyData.int)) = true
    rw [lay_ints r]
    rfl
theorem deep_ints : ∀ ns : List Int, PyData.depthAll (ns.map PyData.int) = 0
  | [] => rfl
  | n :: r => by
    show max (PyData.depth (.int n)) (PyData.depthAll (r.map PyData.int)) = 0
    rw [deep_ints r]
    rfl
theorem shp_ints (ns : List Int) : SeqAt.shaped (.list (ns.map PyData.int)) = true := by
  unfold SeqAt.shaped
  rw [show PyData.canLay0 (.list (ns.map PyData.int)) = PyData.canLayAll0 (ns.map PyData.int) from rfl, lay_ints,
    show PyData.depth (.list (ns.map PyData.int)) = PyData.depthAll (ns.map PyData.int) + 1 from rfl, deep_ints]
  decide
theorem all_ints {K : PySem.W.Frag} {H : Hp} : ∀ ns : List Int, DpAll K H (ns.map V.int) (ns.map PyData.int)
  | [] => .nil
  | n :: r => .cons (.int n) (all_ints r)
theorem dp_ints {K : PySem.W.Frag} {H : Hp} {a : Addr} {ns : List Int} (h : SqL K H a (ns.map V.int)) : Dp K H (.ref a) (.list (ns.map PyData.int)) := .lst h (all_ints ns)
theorem eqv_ints : ∀ (ns ms : List Int), PyData.eqvAll (ns.map PyData.int) (ms.map PyData.int) = decide (ns = ms)
  | [], [] => rfl
  | [], _ :: _ => rfl
  | _ :: _, [] => rfl
  | n :: r, m :: q => by
    show ((n == m) && PyData.eqvAll (r.map PyData.int) (q.map PyData.int)) = _
    rw [eqv_ints r q, Bool.eq_iff_iff]
    simp
theorem eqv_list (ns ms : List Int) : PyData.eqv (.list (ns.map PyData.int)) (.list (ms.map PyData.int)) = decide (ns = ms) := by
  rw [PyData.eqv]
  exact eqv_ints ns ms
/-- two equal lists of ints, != -/
theorem ne_ints {K : PySem.W.Frag} {H : Hp} {a b : Addr} {ns : List Int} {Q : VK} (ha : SqL K H a (ns.map V.int)) (hb : SqL K H b (ns.map V.int)) (q : Q (.bl false) H) : rNeD K (.ref a) (.ref b) H Q := by
  refine ⟨_, _, dp_ints ha, dp_ints hb, shp_ints ns, shp_ints ns, ?_⟩
  rw [eqv_list, decide_eq_true rfl]
  exact q
theorem eq_ints {K : PySem.W.Frag} {H : Hp} {a b : Addr} {ns : List Int} {Q : VK} (ha : SqL K H a (ns.map V.int)) (hb : SqL K H b (ns.map V.int)) (q : Q (.bl true) H) : rEqD K (.ref a) (.ref b) H Q := by
  refine ⟨_, _, dp_ints ha, dp_ints hb, shp_ints ns, shp_ints ns, ?_⟩
  rw [eqv_list, decide_eq_true rfl]
  exact q
theorem cut_to {xs : List V} {m : Int} {k : Nat} (h : m = (k : Int)) (hk : k ≤ xs.length) : cutV xs none (some m) = xs.take k := by
  subst h
  unfold cutV
  rw [HT.sIx_none, HT.sIx_nat, List.drop_zero, Nat.sub_zero, Nat.min_eq_left hk]
theorem cut_init (xs : List V) : cutV xs none (some (-1)) = xs.dropLast := by
  unfold cutV
  rw [HT.sIx_none, List.drop_zero, Nat.sub_zero, List.dropLast_eq_take]
  congr 1
  show (if (-1 : Int) < 0 then ((-1 : Int) + (xs.length : Int)).toNat else min (-1 : Int).toNat xs.length) = xs.length - 1
  rw [if_pos (by decide)]
  omega
theorem mix_get {α : Type} {A B : List α} {i : Nat} (hA : i ≤ A.length) : (A.take i ++ B.drop i)[i]? = B[i]? := by
  have h : (A.take i).length = i := by rw [List.length_take]; omega
  rw [List.getElem?_append_right (by omega), h, Nat.sub_self, List.getElem?_drop, Nat.add_zero]
theorem mix_set {α : Type} {A B : List α} {i : Nat} {x : α} (hx : A[i]? = some x) (hl : A.length = B.length) : (A.take i ++ B.drop i).set i x = A.take (i + 1) ++ B.drop (i + 1) := by
  have hi : i < A.length := (List.getElem?_eq_some_iff.mp hx).1
  have h : (A.take i).length = i := by rw [List.length_take]; omega
  rw [List.set_append_right i x (by omega), h, Nat.sub_self, List.take_add_one, hx, List.append_assoc]
  congr 1
  rw [List.drop_eq_getElem_cons (show i < B.length by omega)]
  rfl
theorem mix_same {α : Type} {A B : List α} {i : Nat} (hx : A[i]? = B[i]?) (hi : i < A.length) (hl : A.length = B.length) : A.take i ++ B.drop i = A.take (i + 1) ++ B.drop (i + 1) := by
  rw [List.take_add_one, List.append_assoc, hx, List.getElem?_eq_getElem (show i < B.length by omega), List.drop_eq_getElem_cons (show i < B.length by omega)]
  rfl
theorem map_set (L : List Int) (i : Nat) (x : Int) : (L.map V.int).set i (.int x) = (L.set i x).map V.int := by
  rw [List.map_set]
theorem ixN_nat {n i : Nat} {z : Int} (h : z = (i : Int)) (hi : i < n) : ixN n z = some i := by
  subst h
  unfold ixN
  rw [if_pos (by omega), if_pos (by omega), Int.toNat_natCast]
theorem Bag.upd_ints {b D : Addr} {H : Hp} {ms : List Int} {o : HO} (hb : Bag H b) (h : H D = some (.lst (ms.map V.int))) (hl : ms.length < 400) : Bag (upd H D o) b := by
  obtain ⟨d, ds, c, h1, h2, h3, h4⟩ := hb
  have n1 : b ≠ D := ne_of h1 h (by
    intro z
    have z1 : [V.ref d, V.int c] = ms.map V.int := HO.lst.inj z
    have z2 : (ms.map V.int)[0]? = some (.ref d) := by rw [← z1]; rfl
    rw [List.getElem?_map] at z2
    cases q : ms[0]? <;> rw [q] at z2 <;> cases z2)
  have n2 : d ≠ D := ne_of h2 h (by
    intro z
    have z1 : ds.map V.int = ms.map V.int := HO.lst.inj z
    have z2 := congrArg List.length z1
    rw [List.length_map, List.length_map] at z2
    omega)
  exact ⟨d, ds, c, by rw [upd_ne n1]; exact h1, by rw [upd_ne n2]; exact h2, h3, h4⟩
theorem tIf_at {σ : L2.St} {H : Hp} {Q : VK} {tc : TT} {ta tb : TE} {v : V} (h : Q v H)
    (hc : ∃ b : Bool, (∀ R : Bool → Hp → Prop, R b H → tc σ H R) ∧ (b = true → ∀ R : VK, R v H → ta σ H R) ∧ (b = false → ∀ R : VK, R v H → tb σ H R)) : tIf tc ta tb σ H Q := by
  obtain ⟨b, h1, h2, h3⟩ := hc
  refine h1 _ ?_
  cases b with
  | true =>
    show if true = true then ta σ H Q else tb σ H Q
    rw [if_pos rfl]
    exact h2 rfl Q h
  | false =>
    show if false = true then ta σ H Q else tb σ H Q
    rw [if_neg Bool.false_ne_true]
    exact h3 rfl Q h
theorem lst_get {ns : List Int} {i : Nat} {v : Int} (h : ns[i]? = some v) : atI (ns.map V.int) (i : Int) = some (.int v) := at_of rfl (by rw [List.getElem?_map, h]; rfl)
theorem row0 {H : Hp} {t : Addr} (h : H t = some (.tup [])) : RowAt H t [] := ⟨[], h, rfl, fun i t ec h => nomatch h⟩
theorem row1 {H : Hp} {t t1 : Addr} {e c : Int} (h : H t = some (.tup [.ref t1])) (h1 : H t1 = some (.tup [.int e, .int c])) : RowAt H t [(e, c)] :=
  ⟨[t1], h, rfl, fun i t ec a b => by
    cases i with
    | zero => cases a; cases b; exact h1
    | succ i => simp at a⟩
theorem row2 {H : Hp} {t t1 t2 : Addr} {e c e' c' : Int} (h : H t = some (.tup [.ref t1, .ref t2])) (h1 : H t1 = some (.tup [.int e, .int c])) (h2 : H t2 = some (.tup [.int e', .int c'])) : RowAt H t [(e, c), (e', c')] :=
  ⟨[t1, t2], h, rfl, fun i t ec a b => by
    cases i with
    | zero => cases a; cases b; exact h1
    | succ i =>
      cases i with
      | zero => cases a; cases b; exact h2
      | succ i => simp at a⟩
/-- how far a piece has come -/
def TkSt (r : List (Int × Int)) (n : Int) (i : Nat) (o : Option Nat) : Prop := (o = none ∧ reach r n i) ∨ ∃ j, o = some j ∧ j < i ∧ whoF r n = some j
theorem TkSt.done {r : List (Int × Int)} {n : Int} {o : Option Nat} (h : TkSt r n r.length o) : o = whoF r n := by
  rcases h with ⟨rfl, h⟩ | ⟨j, rfl, _, h⟩
  · cases k : whoF r n with
    | none => rfl
    | some j =>
      have := whoF_lt r n j k
      have := h j k
      omega
  · exact h.symm
/-- the row's numbers, counted among what is seen -/
def numF (r : List (Int × Int)) (os : List (Option Nat)) : List Int :=
  (List.range r.length).map (fun (j : Nat) => ((os.countP fun x => decide (x = some j) : Nat) : Int)) ++ [((os.countP fun x => decide (x = none) : Nat) : Int)]
theorem num_taken (r : List (Int × Int)) (ok : ∀ ec ∈ r, okT ec) (m : Nat) : numF r (seenF r m) = takenF r (m : Int) := by
  apply List.ext_getElem?
  intro i
  unfold numF
  rcases Nat.lt_trichotomy i r.length with h | h | h
  · rw [List.getElem?_append_left (by simpa using h), List.getElem?_map, List.getElem?_range h]
    have := taken_count r ok (some i) (fun j hj => by cases hj; exact h) m
    exact this.symm
  · rw [List.getElem?_append_right (by simp; omega)]
    have := taken_count r ok none (fun j hj => nomatch hj) m
    simp only [List.length_map, List.length_range, h, Nat.sub_self, List.getElem?_cons_zero]
    exact this.symm
  · rw [List.getElem?_eq_none (by simp; omega), List.getElem?_eq_none (by rw [len_takenF]; omega)]
end TK

namespace TK
/-- lowest terms -/
def low (t b : Nat) : Nat × Nat := (t / Nat.gcd t b, b / Nat.gcd t b)
def partsN : List Nat → Nat → Nat → List (Nat × Nat)
  | [], t, b => [low t b]
  | e :: r, t, b => low t (b * e) :: partsN r (t * (e - 1)) (b * e)
def evs (r : List (Int × Int)) : List Nat := r.map fun ec => ec.1.toNat
def goodN : List Nat → Nat → Nat → Nat → Prop
  | [], _, _, _ => True
  | e :: es, t, b, n => (low t (b * e)).2 ∣ n ∧ goodN es (t * (e - 1)) (b * e) n
def lcmF (l q : Nat) : Nat := l / Nat.gcd l q * q
def roundN (ps : List (Nat × Nat)) (l : Nat) : Nat := ps.foldl (fun l q => lcmF l q.2) l

theorem low_mul (t b : Nat) : (low t b).1 * Nat.gcd t b = t ∧ (low t b).2 * Nat.gcd t b = b :=
  ⟨Nat.div_mul_cancel (Nat.gcd_dvd_left t b), Nat.div_mul_cancel (Nat.gcd_dvd_right t b)⟩
theorem low_pos {t b : Nat} (hb : 0 < b) : 0 < (low t b).2 := by
  have h := (low_mul t b).2
  rcases Nat.eq_zero_or_pos (low t b).2 with z | z
  · rw [z, Nat.zero_mul] at h
    omega
  · exact z
theorem low_cop {t b : Nat} (hb : 0 < b) : Nat.Coprime (low t b).1 (low t b).2 := Nat.coprime_div_gcd_div_gcd (Nat.gcd_pos_of_pos_right t hb)
/-- b divides n * t just where the bottom divides n -/
theorem low_dvd {t b n : Nat} (hb : 0 < b) : b ∣ n * t ↔ (low t b).2 ∣ n := by
  have hg : 0 < Nat.gcd t b := Nat.gcd_pos_of_pos_right t hb
  obtain ⟨h1, h2⟩ := low_mul t b
  constructor
  · intro h
    have h3 : (low t b).2 * Nat.gcd t b ∣ n * (low t b).1 * Nat.gcd t b := by
      rw [h2, Nat.mul_assoc, h1]
      exact h
    have h4 := Nat.dvd_of_mul_dvd_mul_right hg h3
    exact (low_cop hb).symm.dvd_of_dvd_mul_right h4
  · rintro ⟨k, rfl⟩
    refine ⟨k * (low t b).1, ?_⟩
    calc (low t b).2 * k * t = (low t b).2 * k * ((low t b).1 * Nat.gcd t b) := by rw [h1]
      _ = (low t b).2 * Nat.gcd t b * (k * (low t b).1) := by
        rw [Nat.mul_assoc, Nat.mul_assoc, ← Nat.mul_assoc k, Nat.mul_comm (k * (low t b).1)]
      _ = b * (k * (low t b).1) := by rw [h2]
theorem low_share {t b n y : Nat} (hb : 0 < b) (h : y * b = n * t) : y = n / (low t b).2 * (low t b).1 := by
  have hd : (low t b).2 ∣ n := (low_dvd hb).mp ⟨y, by rw [← h, Nat.mul_comm]⟩
  have hp := low_pos (t := t) hb
  have hg : 0 < Nat.gcd t b := Nat.gcd_pos_of_pos_right t hb
  obtain ⟨h1, h2⟩ := low_mul t b
  obtain ⟨k, rfl⟩ := hd
  rw [Nat.mul_div_cancel_left _ hp]
  have h3 : y * ((low t b).2 * Nat.gcd t b) = (low t b).2 * k * ((low t b).1 * Nat.gcd t b) := by rw [h1, h2]; exact h
  have h4 : (low t b).2 * Nat.gcd t b * y = (low t b).2 * Nat.gcd t b * (k * (low t b).1) := by
    rw [Nat.mul_comm _ y, h3, Nat.mul_assoc, Nat.mul_assoc, ← Nat.mul_assoc k, Nat.mul_comm (k * (low t b).1)]
  exact Nat.eq_of_mul_eq_mul_left (Nat.mul_pos hp hg) h4
/-- two fractions in lowest terms are one where they are worth the same -/
theorem low_eq {t b t' b' : Nat} (hb : 0 < b) (hb' : 0 < b') (h : t * b' = t' * b) : low t b = low t' b' := by
  have hg : 0 < Nat.gcd t b := Nat.gcd_pos_of_pos_right t hb
  have hg' : 0 < Nat.gcd t' b' := Nat.gcd_pos_of_pos_right t' hb'
  obtain ⟨h1, h2⟩ := low_mul t b
  obtain ⟨h3, h4⟩ := low_mul t' b'
  have c1 := low_cop (t := t) hb
  have c2 := low_cop (t := t') hb'
  have key : (low t b).1 * (low t' b').2 = (low t' b').1 * (low t b).2 := by
    have e : Nat.gcd t b * Nat.gcd t' b' * ((low t b).1 * (low t' b').2) = Nat.gcd t b * Nat.gcd t' b' * ((low t' b').1 * (low t b).2) := by
      calc Nat.gcd t b * Nat.gcd t' b' * ((low t b).1 * (low t' b').2) = ((low t b).1 * Nat.gcd t b) * ((low t' b').2 * Nat.gcd t' b') := by ac_rfl
        _ = t * b' := by rw [h1, h4]
        _ = t' * b := h
        _ = ((low t' b').1 * Nat.gcd t' b') * ((low t b).2 * Nat.gcd t b) := by rw [h2, h3]
        _ = _ := by ac_rfl
    exact Nat.eq_of_mul_eq_mul_left (Nat.mul_pos hg hg') e
  have d1 : (low t b).2 ∣ (low t' b').2 := c1.symm.dvd_of_dvd_mul_left ⟨(low t' b').1, by rw [key, Nat.mul_comm]⟩
  have d2 : (low t' b').2 ∣ (low t b).2 := c2.symm.dvd_of_dvd_mul_left ⟨(low t b).1, by rw [← key, Nat.mul_comm]⟩
  have e2 := Nat.dvd_antisymm d1 d2
  have e1 : (low t b).1 = (low t' b').1 := by
    rw [e2] at key
    exact Nat.eq_of_mul_eq_mul_right (low_pos hb') key
  exact Prod.ext e1 e2
theorem low_val {t b : Nat} (hb : 0 < b) : (low t b).1 * b = t * (low t b).2 := by
  obtain ⟨h1, h2⟩ := low_mul t b
  calc (low t b).1 * b = (low t b).1 * ((low t b).2 * Nat.gcd t b) := by rw [h2]
    _ = ((low t b).1 * Nat.gcd t b) * (low t b).2 := by ac_rfl
    _ = t * (low t b).2 := by rw [h1]

theorem lcmF_eq (l q : Nat) : lcmF l q = Nat.lcm l q := by
  unfold lcmF Nat.lcm
  exact Nat.div_mul_right_comm (Nat.gcd_dvd_left l q) q
theorem round_dvd : ∀ (ps : List (Nat × Nat)) (l n : Nat), roundN ps l ∣ n ↔ l ∣ n ∧ ∀ q ∈ ps, q.2 ∣ n
  | [], l, n => by simp [roundN]
  | q :: ps, l, n => by
    have ih := round_dvd ps (lcmF l q.2) n
    show roundN ps (lcmF l q.2) ∣ n ↔ _
    rw [ih, lcmF_eq]
    constructor
    · rintro ⟨h1, h2⟩
      refine ⟨Nat.dvd_trans (Nat.dvd_lcm_left _ _) h1, fun x hx => ?_⟩
      rcases List.mem_cons.mp hx with z | z
      · rw [z]; exact Nat.dvd_trans (Nat.dvd_lcm_right _ _) h1
      · exact h2 x z
    · rintro ⟨h1, h2⟩
      exact ⟨Nat.lcm_dvd h1 (h2 q (by simp)), fun x hx => h2 x (by simp [hx])⟩
theorem partsN_pos : ∀ (es : List Nat) (t b : Nat), (∀ e ∈ es, 2 ≤ e) → 0 < b → ∀ q ∈ partsN es t b, 0 < q.2
  | [], t, b, _, hb => by simp [partsN]; exact low_pos hb
  | e :: es, t, b, he, hb => by
    intro q hq
    have h2 := he e (by simp)
    have hbe : 0 < b * e := Nat.mul_pos hb (by omega)
    unfold partsN at hq
    rcases List.mem_cons.mp hq with z | z
    · rw [z]; exact low_pos hbe
    · exact partsN_pos es _ _ (fun x hx => he x (by simp [hx])) hbe q z
theorem partsN_len : ∀ (es : List Nat) (t b : Nat), (partsN es t b).length = es.length + 1
  | [], _, _ => rfl
  | e :: es, t, b => by simp [partsN, partsN_len es]

theorem head_same {c x e : Nat} (hc : c < e) : (c + x) % e = c ↔ e ∣ x := by
  constructor
  · intro h
    have h1 := Nat.div_add_mod (c + x) e
    rw [h] at h1
    exact ⟨(c + x) / e, by omega⟩
  · rintro ⟨k, rfl⟩
    rw [Nat.add_mul_mod_self_left, Nat.mod_eq_of_lt hc]
theorem head_div {c y e : Nat} (hc : c < e) : (c + e * y) / e = y := by
  rw [Nat.add_mul_div_left _ _ (by omega), Nat.div_eq_of_lt hc, Nat.zero_add]
theorem scale {x b n t e y : Nat} (he : 1 ≤ e) (h : x * b = n * t) (hx : x = e * y) : (x - y) * (b * e) = n * (t * (e - 1)) := by
  have e1 : x - y = (e - 1) * y := by
    rw [hx, Nat.sub_mul, Nat.one_mul]
  rw [e1]
  calc (e - 1) * y * (b * e) = (e * y) * b * (e - 1) := by ac_rfl
    _ = x * b * (e - 1) := by rw [hx]
    _ = n * t * (e - 1) := by rw [h]
    _ = n * (t * (e - 1)) := by rw [Nat.mul_assoc]
/-- the state comes round just where all bottoms divide -/
theorem state_iff : ∀ (r : List (Int × Int)) (t b n x : Nat), (∀ ec ∈ r, okT ec) → 0 < b → x * b = n * t → (cntF r (x : Int) = r.map (·.2) ↔ goodN (evs r) t b n)
  | [], _, _, _, _, _, _, _ => by simp [cntF, evs, goodN]
  | (e, c) :: r, t, b, n, x, ok, hb, h => by
    have h0 := ok (e, c) (by simp)
    unfold okT at h0
    simp at h0
    obtain ⟨e', rfl⟩ := Int.eq_ofNat_of_zero_le (show 0 ≤ e by omega)
    obtain ⟨c', rfl⟩ := Int.eq_ofNat_of_zero_le h0.2.2.1
    have hc : c' < e' := by omega
    have hbe : 0 < b * e' := Nat.mul_pos hb (by omega)
    have ev : evs (((e' : Int), (c' : Int)) :: r) = e' :: evs r := by simp [evs]
    have hd : e' ∣ x ↔ (low t (b * e')).2 ∣ n := by
      rw [← low_dvd hbe]
      constructor
      · rintro ⟨y, rfl⟩
        exact ⟨y, by rw [← h]; ac_rfl⟩
      · rintro ⟨y, hy⟩
        refine ⟨y, Nat.eq_of_mul_eq_mul_right hb ?_⟩
        rw [h, hy]
        ac_rfl
    rw [ev]
    simp only [cntF, List.map_cons, goodN]
    have hm : ((c' : Int) + (x : Int)) % (e' : Int) = (((c' + x) % e' : Nat) : Int) := rfl
    have hq : ((c' : Int) + (x : Int)) / (e' : Int) = (((c' + x) / e' : Nat) : Int) := rfl
    rw [hm, hq, List.cons.injEq]
    by_cases hx : e' ∣ x
    · obtain ⟨y, hy⟩ := hx
      have hy2 : (c' + x) / e' = y := by rw [hy]; exact head_div hc
      have ylt : y ≤ x := by rw [hy]; exact Nat.le_mul_of_pos_left y (by omega)
      have ih := state_iff r (t * (e' - 1)) (b * e') n (x - y) (fun z hz => ok z (by simp [hz])) hbe (scale (by omega) h hy)
      rw [hy2, show (x : Int) - (y : Int) = ((x - y : Nat) : Int) by omega, ih]
      have a1 : (((c' + x) % e' : Nat) : Int) = (c' : Int) := by
        rw [(head_same hc).mpr ⟨y, hy⟩]
      constructor
      · rintro ⟨_, h2⟩
        exact ⟨hd.mp ⟨y, hy⟩, h2⟩
      · rintro ⟨_, h2⟩
        exact ⟨a1, h2⟩
    · constructor
      · rintro ⟨h1, _⟩
        exact absurd ((head_same hc).mp (by omega)) hx
      · rintro ⟨h1, _⟩
        exact absurd (hd.mpr h1) hx
/-- what is taken of a round, or of some of them -/
theorem taken_round : ∀ (r : List (Int × Int)) (t b n x : Nat), (∀ ec ∈ r, okT ec) → 0 < b → x * b = n * t → goodN (evs r) t b n →
    takenF r (x : Int) = (partsN (evs r) t b).map (fun q => ((n / q.2 * q.1 : Nat) : Int)) ∧ ∀ q ∈ partsN (evs r) t b, q.2 ∣ n
  | [], t, b, n, x, _, hb, h, _ => by
    constructor
    · simp only [takenF, evs, List.map_nil, partsN, List.map_cons]
      congr 2
      exact low_share hb h
    · intro q hq
      simp only [evs, List.map_nil, partsN, List.mem_singleton] at hq
      rw [hq]
      exact (low_dvd hb).mp ⟨x, by rw [← h, Nat.mul_comm]⟩
  | (e, c) :: r, t, b, n, x, ok, hb, h, hg => by
    have h0 := ok (e, c) (by simp)
    unfold okT at h0
    simp at h0
    obtain ⟨e', rfl⟩ := Int.eq_ofNat_of_zero_le (show 0 ≤ e by omega)
    obtain ⟨c', rfl⟩ := Int.eq_ofNat_of_zero_le h0.2.2.1
    have hc : c' < e' := by omega
    have hbe : 0 < b * e' := Nat.mul_pos hb (by omega)
    have ev : evs (((e' : Int), (c' : Int)) :: r) = e' :: evs r := by simp [evs]
    rw [ev] at hg ⊢
    obtain ⟨hg1, hg2⟩ := hg
    have hx : e' ∣ x := by
      obtain ⟨y, hy⟩ := (low_dvd (t := t) hbe).mpr hg1
      refine ⟨y, Nat.eq_of_mul_eq_mul_right hb ?_⟩
      rw [h, hy]
      ac_rfl
    obtain ⟨y, hy⟩ := hx
    have hy2 : (c' + x) / e' = y := by rw [hy]; exact head_div hc
    have ylt : y ≤ x := by rw [hy]; exact Nat.le_mul_of_pos_left y (by omega)
    obtain ⟨ih1, ih2⟩ := taken_round r (t * (e' - 1)) (b * e') n (x - y) (fun z hz => ok z (by simp [hz])) hbe (scale (by omega) h hy) hg2
    have hq : ((c' : Int) + (x : Int)) / (e' : Int) = (y : Int) := by
      rw [← hy2]
      rfl
    constructor
    · simp only [takenF, partsN, List.map_cons]
      rw [hq, show (x : Int) - (y : Int) = ((x - y : Nat) : Int) by omega, ih1]
      congr 2
      exact low_share hbe (by rw [← h, hy]; ac_rfl)
    · intro q hm
      unfold partsN at hm
      rcases List.mem_cons.mp hm with z | z
      · rw [z]; exact hg1
      · exact ih2 q z
theorem good_of : ∀ (es : List Nat) (t b n : Nat), (∀ q ∈ partsN es t b, q.2 ∣ n) → goodN es t b n
  | [], _, _, _, _ => trivial
  | e :: es, t, b, n, h => ⟨h _ (by simp [partsN]), good_of es _ _ n fun q hq => h q (by simp [partsN, hq])⟩
/-- the round of a row -/
def rnd (r : List (Int × Int)) : Nat := roundN (partsN (evs r) 1 1) 1
theorem rnd_iff (r : List (Int × Int)) (ok : ∀ ec ∈ r, okT ec) (n : Nat) : cntF r (n : Int) = r.map (·.2) ↔ rnd r ∣ n := by
  rw [state_iff r 1 1 n n ok (by omega) rfl]
  unfold rnd
  rw [round_dvd]
  constructor
  · intro h
    exact ⟨Nat.one_dvd n, (taken_round r 1 1 n n ok (by omega) rfl h).2⟩
  · rintro ⟨_, h⟩
    exact good_of _ _ _ _ h
theorem rnd_taken (r : List (Int × Int)) (ok : ∀ ec ∈ r, okT ec) (n : Nat) (h : rnd r ∣ n) : takenF r (n : Int) = (partsN (evs r) 1 1).map (fun q => ((n / q.2 * q.1 : Nat) : Int)) ∧ ∀ q ∈ partsN (evs r) 1 1, q.2 ∣ n :=
  taken_round r 1 1 n n ok (by omega) rfl ((state_iff r 1 1 n n ok (by omega) rfl).mp ((rnd_iff r ok n).mpr h))
/-- bottoms divide the product of all -/
def prodN : List Nat → Nat
  | [] => 1
  | e :: es => e * prodN es
theorem low_bot (t b : Nat) : (low t b).2 ∣ b := ⟨Nat.gcd t b, (low_mul t b).2.symm⟩
theorem parts_prod : ∀ (es : List Nat) (t b : Nat), ∀ q ∈ partsN es t b, q.2 ∣ b * prodN es
  | [], t, b => by
    intro q hq
    simp only [partsN, List.mem_singleton] at hq
    rw [hq]
    simp only [prodN, Nat.mul_one]
    exact low_bot t b
  | e :: es, t, b => by
    intro q hq
    unfold partsN at hq
    have e1 : b * prodN (e :: es) = b * e * prodN es := by simp only [prodN]; ac_rfl
    rw [e1]
    rcases List.mem_cons.mp hq with z | z
    · rw [z]; exact Nat.dvd_trans (low_bot t (b * e)) (Nat.dvd_mul_right _ _)
    · exact parts_prod es _ _ q z
theorem prod_le : ∀ (es : List Nat) (m k : Nat), (∀ e ∈ es, e ≤ m) → 1 ≤ m → es.length ≤ k → prodN es ≤ m ^ k
  | [], m, k, _, hm, _ => Nat.one_le_pow _ _ hm
  | e :: es, m, 0, _, _, h => by simp at h
  | e :: es, m, k + 1, he, hm, h => by
    have ih := prod_le es m k (fun x hx => he x (by simp [hx])) hm (by simp at h; omega)
    have := he e (by simp)
    simp only [prodN]
    rw [Nat.pow_succ, Nat.mul_comm]
    exact Nat.mul_le_mul ih this
theorem prod_pos : ∀ (es : List Nat), (∀ e ∈ es, 2 ≤ e) → 0 < prodN es
  | [], _ => by simp [prodN]
  | e :: es, h => Nat.mul_pos (by have := h e (by simp); omega) (prod_pos es fun x hx => h x (by simp [hx]))
theorem evs_ge {r : List (Int × Int)} (ok : ∀ ec ∈ r, okT ec) : ∀ e ∈ evs r, 2 ≤ e := fun e he => by
  obtain ⟨ec, h1, rfl⟩ := List.mem_map.mp he
  have := (ok ec h1).1
  omega
theorem evs_le {r : List (Int × Int)} {m : Nat} (h : ∀ ec ∈ r, ec.1 ≤ (m : Int)) : ∀ e ∈ evs r, e ≤ m := fun e he => by
  obtain ⟨ec, h1, rfl⟩ := List.mem_map.mp he
  have := h ec h1
  omega
theorem rnd_le (r : List (Int × Int)) (ok : ∀ ec ∈ r, okT ec) (m k : Nat) (hm : ∀ ec ∈ r, ec.1 ≤ (m : Int)) (h1 : 1 ≤ m) (hk : r.length ≤ k) : rnd r ≤ m ^ k ∧ 0 < rnd r := by
  have hp := prod_pos (evs r) (evs_ge ok)
  have hd : rnd r ∣ prodN (evs r) := by
    unfold rnd
    rw [round_dvd]
    refine ⟨Nat.one_dvd _, fun q hq => ?_⟩
    have := parts_prod (evs r) 1 1 q hq
    rwa [Nat.one_mul] at this
  have h2 := Nat.le_of_dvd hp hd
  have h3 := prod_le (evs r) m k (evs_le hm) h1 (by simp [evs]; exact hk)
  exact ⟨by omega, Nat.pos_of_dvd_of_pos hd hp⟩
/-- a share of a round, told in lowest terms -/
theorem share_low {n : Nat} {q : Nat × Nat} (hn : 0 < n) (hq : q.2 ∣ n) (h2 : 0 < q.2) (hc : Nat.Coprime q.1 q.2) : low (n / q.2 * q.1) n = q := by
  have e1 : low q.1 q.2 = q := by
    unfold low
    rw [show Nat.gcd q.1 q.2 = 1 from hc, Nat.div_one, Nat.div_one]
  rw [← e1]
  have e2 : low (n / (low q.1 q.2).2 * (low q.1 q.2).1) n = low q.1 q.2 := by
    rw [e1]
    refine (low_eq hn h2 ?_).trans e1
    obtain ⟨k, rfl⟩ := hq
    rw [Nat.mul_div_cancel_left _ h2]
    ac_rfl
  exact e2
theorem parts_cop : ∀ (es : List Nat) (t b : Nat), (∀ e ∈ es, 2 ≤ e) → 0 < b → ∀ q ∈ partsN es t b, Nat.Coprime q.1 q.2
  | [], t, b, _, hb => by simp [partsN]; exact low_cop hb
  | e :: es, t, b, he, hb => by
    intro q hq
    have h2 := he e (by simp)
    have hbe : 0 < b * e := Nat.mul_pos hb (by omega)
    unfold partsN at hq
    rcases List.mem_cons.mp hq with z | z
    · rw [z]; exact low_cop hbe
    · exact parts_cop es _ _ (fun x hx => he x (by simp [hx])) hbe q z
end TK

set_option maxRecDepth 100000
/-! lists of pairs of whole numbers -/
namespace TK
open PySem PySem.Spec PyProof.Rows L2
abbrev prV (f : Nat × Nat) : HO := .tup [.int (f.1 : Nat), .int (f.2 : Nat)]
def PrsL (H : Hp) (q : Addr) (ps : List (Nat × Nat)) : Prop :=
  ∃ ts : List Addr, H q = some (.lst (ts.map V.ref)) ∧ ts.length = ps.length ∧ ∀ (i : Nat) (t : Addr) (f : Nat × Nat), ts[i]? = some t → ps[i]? = some f → H t = some (prV f)
theorem PrsL.same {H H' : Hp} {q : Addr} {ps : List (Nat × Nat)} (h : PrsL H q ps) (s : Same H H') : PrsL H' q ps := by
  obtain ⟨ts, h1, h2, h3⟩ := h
  exact ⟨ts, s _ _ h1, h2, fun i t f a b => s _ _ (h3 i t f a b)⟩
theorem PrsL.nil {H : Hp} {q : Addr} (h : H q = some (.lst [])) : PrsL H q [] := ⟨[], h, rfl, fun i t f h => nomatch h⟩
/-- one more pair -/
theorem PrsL.push {H : Hp} {q t : Addr} {ps : List (Nat × Nat)} {f : Nat × Nat} {ts : List Addr} (h1 : H q = some (.lst (ts.map V.ref))) (h2 : ts.length = ps.length)
    (h3 : ∀ (i : Nat) (t : Addr) (f : Nat × Nat), ts[i]? = some t → ps[i]? = some f → H t = some (prV f)) (ht : H t = some (prV f)) : PrsL (upd H q (.lst (ts.map V.ref ++ [.ref t]))) q (ps ++ [f]) := by
  refine ⟨ts ++ [t], by rw [upd_same, List.map_append]; rfl, by rw [List.length_append, List.length_append, h2]; rfl, fun i u g a b => ?_⟩
  have hu : H u = some (prV g) := by
    by_cases hi : i < ts.length
    · rw [List.getElem?_append_left hi] at a
      rw [List.getElem?_append_left (by omega)] at b
      exact h3 i u g a b
    · have hi2 : i = ts.length := by
        have := (List.getElem?_eq_some_iff.mp a).1
        rw [List.length_append] at this
        simp at this
        omega
      subst hi2
      rw [List.getElem?_append_right (Nat.le_refl _), Nat.sub_self] at a
      rw [List.getElem?_append_right (by omega), h2, Nat.sub_self] at b
      cases a
      cases b
      exact ht
  rw [upd_ne (ne_of hu h1 (by intro z; cases z))]
  exact hu
def prD (f : Nat × Nat) : PyData := .tuple [.int (f.1 : Nat), .int (f.2 : Nat)]
theorem dp_pr {K : PySem.W.Frag} {H : Hp} {t : Addr} {f : Nat × Nat} (h : H t = some (prV f)) : Dp K H (.ref t) (prD f) := .tup (st_of h) (.cons (.int _) (.cons (.int _) .nil))
theorem all_prs {K : PySem.W.Frag} {H : Hp} : ∀ (ts : List Addr) (ps : List (Nat × Nat)), ts.length = ps.length → (∀ (i : Nat) (t : Addr) (f : Nat × Nat), ts[i]? = some t → ps[i]? = some f → H t = some (prV f)) → DpAll K H (ts.map V.ref) (ps.map prD)
  | [], [], _, _ => .nil
  | [], _ :: _, h, _ => by cases h
  | _ :: _, [], h, _ => by cases h
  | t :: ts, f :: ps, h, h3 => .cons (dp_pr (h3 0 t f rfl rfl)) (all_prs ts ps (Nat.succ.inj h) fun i u g a b => h3 (i + 1) u g (by simpa using a) (by simpa using b))
theorem dp_prs {K : PySem.W.Frag} {H : Hp} {q : Addr} {ps : List (Nat × Nat)} (h : PrsL H q ps) : Dp K H (.ref q) (.list (ps.map prD)) := by
  obtain ⟨ts, h1, h2, h3⟩ := h
  exact .lst (sq_of h1) (all_prs ts ps h2 h3)
theorem lay_prs : ∀ ps : List (Nat × Nat), PyData.canLayAll0 (ps.map prD) = true
  | [] => rfl
  | f :: r => by
    show (PyData.canLay0 (prD f) && PyData.canLayAll0 (r.map prD)) = true
    rw [lay_prs r]
    rfl
theorem deep_prs : ∀ ps : List (Nat × Nat), PyData.depthAll (ps.map prD) ≤ 1
  | [] => by show 0 ≤ 1; omega
  | f :: r => by
    have ih := deep_prs r
    show max (PyData.depth (prD f)) (PyData.depthAll (r.map prD)) ≤ 1
    have : PyData.depth (prD f) = 1 := rfl
    omega
theorem shp_prs (ps : List (Nat × Nat)) : SeqAt.shaped (.list (ps.map prD)) = true := by
  unfold SeqAt.shaped
  have h1 : PyData.canLay0 (.list (ps.map prD)) = true := lay_prs ps
  have h2 : PyData.depth (.list (ps.map prD)) ≤ 64 := by
    show PyData.depthAll (ps.map prD) + 1 ≤ 64
    have := deep_prs ps
    omega
  rw [h1, decide_eq_true h2]
  rfl
theorem eqv_pr (f g : Nat × Nat) : PyData.eqv (prD f) (prD g) = decide (f = g) := by
  unfold prD
  rw [PyData.eqv, Bool.eq_iff_iff]
  simp [PyData.eqvAll, PyData.eqv, Prod.ext_iff]
  omega
theorem eqv_prs : ∀ (ps qs : List (Nat × Nat)), PyData.eqvAll (ps.map prD) (qs.map prD) = decide (ps = qs)
  | [], [] => rfl
  | [], _ :: _ => rfl
  | _ :: _, [] => rfl
  | f :: r, g :: q => by
    show (PyData.eqv (prD f) (prD g) && PyData.eqvAll (r.map prD) (q.map prD)) = _
    rw [eqv_prs r q, eqv_pr, Bool.eq_iff_iff]
    simp
theorem ne_prs {K : PySem.W.Frag} {H : Hp} {a b : Addr} {ps : List (Nat × Nat)} {Q : VK} (ha : PrsL H a ps) (hb : PrsL H b ps) (q : Q (.bl false) H) : rNeD K (.ref a) (.ref b) H Q := by
  refine ⟨_, _, dp_prs ha, dp_prs hb, shp_prs ps, shp_prs ps, ?_⟩
  rw [PyData.eqv, eqv_prs, decide_eq_true rfl]
  exact q
theorem eq_prs {K : PySem.W.Frag} {H : Hp} {a b : Addr} {ps : List (Nat × Nat)} {Q : VK} (ha : PrsL H a ps) (hb : PrsL H b ps) (q : Q (.bl true) H) : rEqD K (.ref a) (.ref b) H Q := by
  refine ⟨_, _, dp_prs ha, dp_prs hb, shp_prs ps, shp_prs ps, ?_⟩
  rw [PyData.eqv, eqv_prs, decide_eq_true rfl]
  exact q
theorem shp_pr (f : Nat × Nat) : SeqAt.shaped (prD f) = true := rfl
theorem ne_pr {K : PySem.W.Frag} {H : Hp} {a b : Addr} {f : Nat × Nat} {Q : VK} (ha : H a = some (prV f)) (hb : H b = some (prV f)) (q : Q (.bl false) H) : rNeD K (.ref a) (.ref b) H Q := by
  refine ⟨_, _, dp_pr ha, dp_pr hb, shp_pr f, shp_pr f, ?_⟩
  rw [eqv_pr, decide_eq_true rfl]
  exact q
theorem evs_get {r : List (Int × Int)} {i : Nat} {e c : Int} (h : r[i]? = some (e, c)) : (evs r)[i]? = some e.toNat := by
  unfold evs
  rw [List.getElem?_map, h]
  rfl
theorem pw {i : Nat} (h : i ≤ 8) : 1000 ^ i ≤ 1000000000000000000000000 := Nat.le_trans (Nat.pow_le_pow_right (by decide) h) (by decide)
theorem wlt {n : Nat} (h : n ≤ 1000000000000000000000000) : ((n : Nat) : Int).natAbs < 2 ^ 100 := by
  rw [Int.natAbs_natCast]
  exact Nat.lt_of_le_of_lt h (by decide)
theorem gcd_step (x y : Nat) : Nat.gcd y (x % y) = Nat.gcd x y := by
  rw [Nat.gcd_comm y, ← Nat.gcd_rec, Nat.gcd_comm]
end TK

namespace TK
def prodM : List Nat → Nat
  | [] => 1
  | e :: es => (e - 1) * prodM es
theorem parts_app : ∀ (a c : List Nat) (t b : Nat), partsN (a ++ c) t b = (partsN a t b).dropLast ++ partsN c (t * prodM a) (b * prodN a)
  | [], c, t, b => by simp [partsN, prodM, prodN]
  | e :: a, c, t, b => by
    have ih := parts_app a c (t * (e - 1)) (b * e)
    have hne : partsN a (t * (e - 1)) (b * e) ≠ [] := by
      intro z
      have := congrArg List.length z
      rw [partsN_len] at this
      simp at this
    show low t (b * e) :: partsN (a ++ c) (t * (e - 1)) (b * e) = (low t (b * e) :: partsN a (t * (e - 1)) (b * e)).dropLast ++ _
    rw [ih, List.dropLast_cons_of_ne_nil hne, List.cons_append]
    congr 3
    · simp only [prodM]; ac_rfl
    · simp only [prodN]; ac_rfl
theorem len_init (a : List Nat) (t b : Nat) : (partsN a t b).dropLast.length = a.length := by
  rw [List.length_dropLast, partsN_len]
  rfl
theorem parts_last : ∀ (a : List Nat) (t b : Nat), partsN a t b = (partsN a t b).dropLast ++ [low (t * prodM a) (b * prodN a)] := fun a t b => by
  have := parts_app a [] t b
  rw [List.append_nil] at this
  exact this
theorem prodM_le : ∀ (es : List Nat), prodM es ≤ prodN es
  | [] => Nat.le_refl _
  | e :: es => Nat.mul_le_mul (Nat.sub_le _ _) (prodM_le es)
theorem prodN_perm {a b : List Nat} (h : a.Perm b) : prodN a = prodN b := by
  induction h with
  | nil => rfl
  | cons x _ ih => simp only [prodN]; rw [ih]
  | swap x y l => simp only [prodN]; ac_rfl
  | trans _ _ h1 h2 => exact h1.trans h2
theorem prodM_perm {a b : List Nat} (h : a.Perm b) : prodM a = prodM b := by
  induction h with
  | nil => rfl
  | cons x _ ih => simp only [prodM]; rw [ih]
  | swap x y l => simp only [prodM]; ac_rfl
  | trans _ _ h1 h2 => exact h1.trans h2
def plusN (f g : Nat × Nat) : Nat × Nat := low (f.1 * g.2 + g.1 * f.2) (f.2 * g.2)
theorem plus_eq {t b t' b' t2 b2 : Nat} (hb : 0 < b) (hb' : 0 < b') (hb2 : 0 < b2) (h : (t * b' + t' * b) * b2 = t2 * (b * b')) : plusN (low t b) (low t' b') = low t2 b2 := by
  have p1 := low_pos (t := t) hb
  have p2 := low_pos (t := t') hb'
  have v1 := low_val (t := t) hb
  have v2 := low_val (t := t') hb'
  obtain ⟨x, hx⟩ : ∃ x, low t b = x := ⟨_, rfl⟩
  obtain ⟨y, hy⟩ : ∃ y, low t' b' = y := ⟨_, rfl⟩
  rw [hx] at p1 v1 ⊢
  rw [hy] at p2 v2 ⊢
  unfold plusN
  refine low_eq (Nat.mul_pos p1 p2) hb2 ?_
  have hbb : 0 < b * b' := Nat.mul_pos hb hb'
  apply Nat.eq_of_mul_eq_mul_left hbb
  have e1 : b * b' * (x.1 * y.2 + y.1 * x.2) = (x.1 * b) * (b' * y.2) + (y.1 * b') * (b * x.2) := by
    rw [Nat.mul_add]
    congr 1 <;> ac_rfl
  calc b * b' * ((x.1 * y.2 + y.1 * x.2) * b2) = b * b' * (x.1 * y.2 + y.1 * x.2) * b2 := by ac_rfl
    _ = ((x.1 * b) * (b' * y.2) + (y.1 * b') * (b * x.2)) * b2 := by rw [e1]
    _ = ((t * x.2) * (b' * y.2) + (t' * y.2) * (b * x.2)) * b2 := by rw [v1, v2]
    _ = (x.2 * y.2) * ((t * b' + t' * b) * b2) := by
      rw [Nat.add_mul, Nat.add_mul, Nat.mul_add]
      congr 1 <;> ac_rfl
    _ = (x.2 * y.2) * (t2 * (b * b')) := by rw [h]
    _ = b * b' * (t2 * (x.2 * y.2)) := by ac_rfl
/-- the sum so far, and one more -/
theorem plus_more {t b e : Nat} (hb : 0 < b) (he : 2 ≤ e) (ht : t ≤ b) : plusN (low (b - t) b) (low t (b * e)) = low (b * e - t * (e - 1)) (b * e) := by
  have hbe : 0 < b * e := Nat.mul_pos hb (by omega)
  refine plus_eq hb hbe hbe ?_
  have e0 : t * (e - 1) ≤ b * e := Nat.mul_le_mul ht (Nat.sub_le _ _)
  have e1 : (b - t) * e + t = b * e - t * (e - 1) := by
    have k1 : t * (e - 1) + t = t * e := by
      rw [← Nat.mul_succ]
      congr 1
      omega
    have k2 : t * e ≤ b * e := Nat.mul_le_mul_right e ht
    rw [Nat.sub_mul]
    omega
  calc ((b - t) * (b * e) + t * b) * (b * e) = ((b - t) * e + t) * b * (b * e) := by
        rw [Nat.add_mul ((b - t) * e) t b]
        congr 2
        ac_rfl
    _ = (b * e - t * (e - 1)) * b * (b * e) := by rw [e1]
    _ = (b * e - t * (e - 1)) * (b * (b * e)) := by rw [Nat.mul_assoc]
theorem plus_end {t b : Nat} (hb : 0 < b) (ht : t ≤ b) : plusN (low (b - t) b) (low t b) = (1, 1) := by
  have : plusN (low (b - t) b) (low t b) = low 1 1 := by
    refine plus_eq hb hb (by decide) ?_
    rw [Nat.mul_one, Nat.one_mul, ← Nat.add_mul, Nat.sub_add_cancel ht]
  rw [this]
  decide +kernel
/-- neighbours who change places -/
theorem swap_sum {t b x y : Nat} (hb : 0 < b) (hx : 2 ≤ x) (hy : 2 ≤ y) : plusN (low t (b * y)) (low (t * (y - 1)) (b * y * x)) = plusN (low t (b * x)) (low (t * (x - 1)) (b * x * y)) := by
  have key : ∀ x y : Nat, 2 ≤ x → 2 ≤ y → plusN (low t (b * x)) (low (t * (x - 1)) (b * x * y)) = low (t * (x + y - 1)) (b * x * y) := fun x y hx hy => by
    have hbx : 0 < b * x := Nat.mul_pos hb (by omega)
    have hbxy : 0 < b * x * y := Nat.mul_pos hbx (by omega)
    refine plus_eq hbx hbxy hbxy ?_
    have e1 : t * y + t * (x - 1) = t * (x + y - 1) := by
      rw [← Nat.mul_add]
      congr 1
      omega
    calc (t * (b * x * y) + t * (x - 1) * (b * x)) * (b * x * y) = (t * y + t * (x - 1)) * (b * x) * (b * x * y) := by
          rw [Nat.add_mul (t * y)]
          congr 2
          ac_rfl
      _ = t * (x + y - 1) * (b * x) * (b * x * y) := by rw [e1]
      _ = t * (x + y - 1) * (b * x * (b * x * y)) := by rw [Nat.mul_assoc]
  rw [key x y hx hy, key y x hy hx]
  congr 1
  · congr 1
    omega
  · ac_rfl
theorem swap_less {t b x y : Nat} (hb : 0 < b) (hx : 2 ≤ x) (hy : 2 ≤ y) :
    (low (t * (x - 1)) (b * x * y)).1 * (low t (b * y)).2 ≤ (low t (b * y)).1 * (low (t * (x - 1)) (b * x * y)).2 := by
  have hby : 0 < b * y := Nat.mul_pos hb (by omega)
  have hbxy : 0 < b * x * y := Nat.mul_pos (Nat.mul_pos hb (by omega)) (by omega)
  have v1 := low_val (t := t) hby
  have v2 := low_val (t := t * (x - 1)) hbxy
  generalize low t (b * y) = f at v1 ⊢
  generalize low (t * (x - 1)) (b * x * y) = g at v2 ⊢
  have hp : 0 < (b * y) * (b * x * y) := Nat.mul_pos hby hbxy
  refine Nat.le_of_mul_le_mul_left ?_ hp
  calc (b * y) * (b * x * y) * (g.1 * f.2) = (g.1 * (b * x * y)) * (f.2 * (b * y)) := by ac_rfl
    _ = t * (x - 1) * g.2 * (f.2 * (b * y)) := by rw [v2]
    _ = (t * g.2 * f.2 * b * y) * (x - 1) := by ac_rfl
    _ ≤ (t * g.2 * f.2 * b * y) * x := Nat.mul_le_mul_left _ (Nat.sub_le _ _)
    _ = (t * f.2) * (g.2 * (b * x * y)) := by ac_rfl
    _ = (f.1 * (b * y)) * (g.2 * (b * x * y)) := by rw [v1]
    _ = (b * y) * (b * x * y) * (f.1 * g.2) := by ac_rfl
/-- every fraction is small -/
theorem parts_small : ∀ (es : List Nat) (t b M : Nat), (∀ e ∈ es, 2 ≤ e) → 0 < b → t ≤ b → b * prodN es ≤ M → ∀ q ∈ partsN es t b, q.1 ≤ M ∧ q.2 ≤ M
  | [], t, b, M, _, hb, ht, hM => by
    intro q hq
    simp only [partsN, List.mem_singleton] at hq
    subst hq
    simp only [prodN, Nat.mul_one] at hM
    have h1 : (low t b).1 ≤ t := Nat.div_le_self _ _
    have h2 : (low t b).2 ≤ b := Nat.div_le_self _ _
    omega
  | e :: es, t, b, M, he, hb, ht, hM => by
    intro q hq
    have h2 := he e (by simp)
    have hbe : 0 < b * e := Nat.mul_pos hb (by omega)
    have hM' : b * e * prodN es ≤ M := by rw [Nat.mul_assoc]; exact hM
    have hp : 0 < prodN es := prod_pos es fun x hx => he x (by simp [hx])
    have hle : b * e ≤ M := Nat.le_trans (Nat.le_mul_of_pos_right _ hp) hM'
    have hb2 : b ≤ b * e := Nat.le_mul_of_pos_right b (by omega)
    unfold partsN at hq
    rcases List.mem_cons.mp hq with z | z
    · subst z
      have k1 : (low t (b * e)).1 ≤ t := Nat.div_le_self _ _
      have k2 : (low t (b * e)).2 ≤ b * e := Nat.div_le_self _ _
      omega
    · exact parts_small es _ _ M (fun x hx => he x (by simp [hx])) hbe (Nat.mul_le_mul ht (Nat.sub_le _ _)) hM' q z
end TK

set_option maxRecDepth 100000
/-! tuples joined and cut; rows and lists of pairs cut -/
namespace TK
open PySem PySem.Spec PyProof.Rows L2
theorem cat_use {K : PySem.W.Frag} {H : Hp} {a b : Addr} {xs ys : List V} {Q : VK} (ha : H a = some (.tup xs)) (hb : H b = some (.tup ys)) (hl : xs.length + ys.length ≤ sizeLine)
    (q : ∀ p H', Same H H' → H' p = some (.tup (xs ++ ys)) → Q (.ref p) H') : rCatA K (.ref a) (.ref b) H Q := by
  refine ⟨a, b, xs, ys, rfl, rfl, st_of ha, st_of hb, hl, fun e => ?_, fun _ e => ?_, fun _ _ p hp => ?_⟩
  · subst e
    exact q b H (Same.refl _) hb
  · subst e
    exact q a H (Same.refl _) (by rw [List.append_nil]; exact ha)
  · exact q p _ (same_new hp) upd_same
theorem slice_use {K : PySem.W.Frag} {H : Hp} {a : Addr} {xs : List V} {lo hi : Option Int} {Q : VK} (ha : H a = some (.tup xs))
    (q : ∀ p H', Same H H' → H' p = some (.tup (cutV xs lo hi)) → Q (.ref p) H') : rSlA K (.ref a) lo hi H Q := by
  refine ⟨a, xs, rfl, st_of ha, fun e => ?_, fun _ p hp => ?_⟩
  · refine q a H (Same.refl _) ?_
    unfold cutV
    rw [e.1, e.2, List.drop_zero, Nat.sub_zero, List.take_length]
    exact ha
  · exact q p _ (same_new hp) upd_same
theorem cut_from {xs : List V} {m : Int} {k : Nat} (h : m = (k : Int)) (hk : k ≤ xs.length) : cutV xs (some m) none = xs.drop k := by
  subst h
  unfold cutV
  rw [HT.sIx_none, HT.sIx_nat, Nat.min_eq_left hk]
  exact List.take_of_length_le (by rw [List.length_drop]; exact Nat.le_refl _)
/-- each address holds its taker -/
def PairsAt (H : Hp) (ts : List Addr) (r : List (Int × Int)) : Prop := ts.length = r.length ∧ ∀ (i : Nat) (t : Addr) (ec : Int × Int), ts[i]? = some t → r[i]? = some ec → H t = some (.tup [.int ec.1, .int ec.2])
theorem RowAt.pairs {H : Hp} {p : Addr} {r : List (Int × Int)} (h : RowAt H p r) : ∃ ts, H p = some (.tup (ts.map V.ref)) ∧ PairsAt H ts r := by
  obtain ⟨ts, h1, h2, h3⟩ := h
  exact ⟨ts, h1, h2, h3⟩
theorem PairsAt.row {H : Hp} {p : Addr} {ts : List Addr} {r : List (Int × Int)} (h : PairsAt H ts r) (hp : H p = some (.tup (ts.map V.ref))) : RowAt H p r := ⟨ts, hp, h.1, h.2⟩
theorem PairsAt.keep {H H' : Hp} {ts : List Addr} {r : List (Int × Int)} (h : PairsAt H ts r) (k : TupS H H') : PairsAt H' ts r := ⟨h.1, fun i t ec a b => k _ _ (h.2 i t ec a b)⟩
theorem PairsAt.take {H : Hp} {ts : List Addr} {r : List (Int × Int)} (h : PairsAt H ts r) (k : Nat) : PairsAt H (ts.take k) (r.take k) := by
  refine ⟨by rw [List.length_take, List.length_take, h.1], fun i t ec a b => ?_⟩
  rw [List.getElem?_take] at a b
  split at a
  · rename_i hi
    rw [if_pos hi] at b
    exact h.2 i t ec a b
  · cases a
theorem PairsAt.drop {H : Hp} {ts : List Addr} {r : List (Int × Int)} (h : PairsAt H ts r) (k : Nat) : PairsAt H (ts.drop k) (r.drop k) := by
  refine ⟨by rw [List.length_drop, List.length_drop, h.1], fun i t ec a b => ?_⟩
  rw [List.getElem?_drop] at a b
  exact h.2 _ t ec a b
theorem PairsAt.app {H : Hp} {ts us : List Addr} {r q : List (Int × Int)} (h : PairsAt H ts r) (h' : PairsAt H us q) : PairsAt H (ts ++ us) (r ++ q) := by
  refine ⟨by rw [List.length_append, List.length_append, h.1, h'.1], fun i t ec a b => ?_⟩
  by_cases hi : i < ts.length
  · rw [List.getElem?_append_left hi] at a
    rw [List.getElem?_append_left (by rw [← h.1]; exact hi)] at b
    exact h.2 i t ec a b
  · rw [List.getElem?_append_right (by omega)] at a
    rw [List.getElem?_append_right (by rw [← h.1]; omega), ← h.1] at b
    exact h'.2 _ t ec a b
theorem PairsAt.two {H : Hp} {t u : Addr} {f g : Int × Int} (h1 : H t = some (.tup [.int f.1, .int f.2])) (h2 : H u = some (.tup [.int g.1, .int g.2])) : PairsAt H [t, u] [f, g] :=
  ⟨rfl, fun i x ec a b => by
    cases i with
    | zero => cases a; cases b; exact h1
    | succ i =>
      cases i with
      | zero => cases a; cases b; exact h2
      | succ i => simp at a⟩
theorem PrsL.cutTo {H H' : Hp} {q p : Addr} {ps : List (Nat × Nat)} {ts : List Addr} (h2 : ts.length = ps.length) (h3 : ∀ (i : Nat) (t : Addr) (f : Nat × Nat), ts[i]? = some t → ps[i]? = some f → H t = some (prV f))
    (s : Same H H') (k : Nat) (hp : H' p = some (.lst ((ts.map V.ref).take k))) : PrsL H' p (ps.take k) := by
  refine ⟨ts.take k, by rw [hp, List.map_take], by rw [List.length_take, List.length_take, h2], fun i t f a b => ?_⟩
  rw [List.getElem?_take] at a b
  split at a
  · rename_i hi
    rw [if_pos hi] at b
    exact s _ _ (h3 i t f a b)
  · cases a
theorem PrsL.cutFrom {H H' : Hp} {q p : Addr} {ps : List (Nat × Nat)} {ts : List Addr} (h2 : ts.length = ps.length) (h3 : ∀ (i : Nat) (t : Addr) (f : Nat × Nat), ts[i]? = some t → ps[i]? = some f → H t = some (prV f))
    (s : Same H H') (k : Nat) (hp : H' p = some (.lst ((ts.map V.ref).drop k))) : PrsL H' p (ps.drop k) := by
  refine ⟨ts.drop k, by rw [hp, List.map_drop], by rw [List.length_drop, List.length_drop, h2], fun i t f a b => ?_⟩
  rw [List.getElem?_drop] at a b
  exact s _ _ (h3 _ t f a b)
/-- told[:k], as a reading -/
theorem sl_to {K : PySem.W.Frag} {H : Hp} {q : Addr} {ps : List (Nat × Nat)} {m : Int} {k : Nat} {Q : VK} (h : PrsL H q ps) (hm : m = (k : Int)) (hk : k ≤ ps.length) (hQ : ∀ p H', Same H H' → PrsL H' p (ps.take k) → Q (.ref p) H') : rSlL K (.ref q) none (some m) H Q := by
  obtain ⟨ts, h1, h2, h3⟩ := h
  refine ⟨q, _, rfl, sq_of h1, fun p np => ?_⟩
  rw [cut_to hm (by rw [List.length_map, h2]; exact hk)]
  exact hQ p _ (same_new np) (PrsL.cutTo (q := q) h2 h3 (same_new np) k upd_same)
theorem sl_from {K : PySem.W.Frag} {H : Hp} {q : Addr} {ps : List (Nat × Nat)} {m : Int} {k : Nat} {Q : VK} (h : PrsL H q ps) (hm : m = (k : Int)) (hk : k ≤ ps.length) (hQ : ∀ p H', Same H H' → PrsL H' p (ps.drop k) → Q (.ref p) H') : rSlL K (.ref q) (some m) none H Q := by
  obtain ⟨ts, h1, h2, h3⟩ := h
  refine ⟨q, _, rfl, sq_of h1, fun p np => ?_⟩
  rw [cut_from hm (by rw [List.length_map, h2]; exact hk)]
  exact hQ p _ (same_new np) (PrsL.cutFrom (q := q) h2 h3 (same_new np) k upd_same)
theorem sl_init {K : PySem.W.Frag} {H : Hp} {q : Addr} {ps : List (Nat × Nat)} {Q : VK} (h : PrsL H q ps) (hQ : ∀ p H', Same H H' → PrsL H' p ps.dropLast → Q (.ref p) H') : rSlL K (.ref q) none (some (-1)) H Q := by
  obtain ⟨ts, h1, h2, h3⟩ := h
  refine ⟨q, _, rfl, sq_of h1, fun p np => ?_⟩
  rw [cut_init, List.dropLast_eq_take]
  refine hQ p _ (same_new np) ?_
  rw [List.dropLast_eq_take, ← h2]
  have := PrsL.cutTo (q := q) h2 h3 (same_new (o := .lst ((ts.map V.ref).take ((ts.map V.ref).length - 1))) np) (ts.length - 1) (by rw [upd_same, List.length_map])
  exact this
theorem PrsL.at {K : PySem.W.Frag} {H : Hp} {q : Addr} {ps : List (Nat × Nat)} {i : Nat} {f : Nat × Nat} {m : Int} {Q : VK} (h : PrsL H q ps) (hm : m = (i : Int)) (hf : ps[i]? = some f) (hQ : ∀ t, H t = some (prV f) → Q (.ref t) H) : rIxL K (.ref q) (.int m) H Q := by
  obtain ⟨ts, h1, h2, h3⟩ := h
  have hi : i < ts.length := h2 ▸ (List.getElem?_eq_some_iff.mp hf).1
  have ht := List.getElem?_eq_getElem hi
  exact ⟨q, _, m, .ref ts[i], rfl, rfl, sq_of h1, at_of hm (by rw [List.getElem?_map, ht]; rfl), hQ _ (h3 i _ f ht hf)⟩
theorem PrsL.last {K : PySem.W.Frag} {H : Hp} {q : Addr} {ps : List (Nat × Nat)} {f : Nat × Nat} {Q : VK} (h : PrsL H q (ps ++ [f])) (hQ : ∀ t, H t = some (prV f) → Q (.ref t) H) : rIxL K (.ref q) (.int (-1)) H Q := by
  obtain ⟨ts, h1, h2, h3⟩ := h
  rw [List.length_append] at h2
  have h2' : ts.length = ps.length + 1 := h2
  obtain ⟨us, u, e⟩ : ∃ us u, ts = us ++ [u] := ⟨ts.dropLast, ts.getLast (by intro z; rw [z] at h2'; cases h2'), (List.dropLast_concat_getLast _).symm⟩
  subst e
  have hl : us.length = ps.length := by rw [List.length_append] at h2'; exact Nat.succ.inj h2'
  have hu := h3 ps.length u f (by rw [List.getElem?_append_right (by omega), hl, Nat.sub_self]; rfl) (by rw [List.getElem?_append_right (Nat.le_refl _), Nat.sub_self]; rfl)
  refine ⟨q, _, -1, .ref u, rfl, rfl, sq_of h1, ?_, hQ u hu⟩
  rw [List.map_append]
  exact atI_last _ _
end TK

set_option maxRecDepth 100000
/-! rows beside rows -/
namespace TK
open PySem PySem.Spec PyProof.Rows L2
def tkD (ec : Int × Int) : PyData := .tuple [.int ec.1, .int ec.2]
theorem dp_tk {K : PySem.W.Frag} {H : Hp} {t : Addr} {ec : Int × Int} (h : H t = some (.tup [.int ec.1, .int ec.2])) : Dp K H (.ref t) (tkD ec) := .tup (st_of h) (.cons (.int _) (.cons (.int _) .nil))
theorem all_tks {K : PySem.W.Frag} {H : Hp} : ∀ (ts : List Addr) (r : List (Int × Int)), ts.length = r.length → (∀ (i : Nat) (t : Addr) (ec : Int × Int), ts[i]? = some t → r[i]? = some ec → H t = some (.tup [.int ec.1, .int ec.2])) → DpAll K H (ts.map V.ref) (r.map tkD)
  | [], [], _, _ => .nil
  | [], _ :: _, h, _ => by cases h
  | _ :: _, [], h, _ => by cases h
  | t :: ts, f :: ps, h, h3 => .cons (dp_tk (h3 0 t f rfl rfl)) (all_tks ts ps (Nat.succ.inj h) fun i u g a b => h3 (i + 1) u g (by simpa using a) (by simpa using b))
theorem dp_row {K : PySem.W.Frag} {H : Hp} {q : Addr} {r : List (Int × Int)} (h : RowAt H q r) : Dp K H (.ref q) (.tuple (r.map tkD)) := by
  obtain ⟨ts, h1, h2, h3⟩ := h
  exact .tup (st_of h1) (all_tks ts r h2 h3)
theorem lay_row : ∀ r : List (Int × Int), PyData.canLayAll0 (r.map tkD) = true
  | [] => rfl
  | f :: r => by
    show (PyData.canLay0 (tkD f) && PyData.canLayAll0 (r.map tkD)) = true
    rw [lay_row r]
    rfl
theorem deep_row : ∀ r : List (Int × Int), PyData.depthAll (r.map tkD) ≤ 1
  | [] => by show 0 ≤ 1; omega
  | f :: r => by
    have ih := deep_row r
    show max (PyData.depth (tkD f)) (PyData.depthAll (r.map tkD)) ≤ 1
    have : PyData.depth (tkD f) = 1 := rfl
    omega
theorem shp_row (r : List (Int × Int)) : SeqAt.shaped (.tuple (r.map tkD)) = true := by
  unfold SeqAt.shaped
  have h1 : PyData.canLay0 (.tuple (r.map tkD)) = true := lay_row r
  have h2 : PyData.depth (.tuple (r.map tkD)) ≤ 64 := by
    show PyData.depthAll (r.map tkD) + 1 ≤ 64
    have := deep_row r
    omega
  rw [h1, decide_eq_true h2]
  rfl
theorem eqv_tk (f g : Int × Int) : PyData.eqv (tkD f) (tkD g) = decide (f = g) := by
  unfold tkD
  rw [PyData.eqv, Bool.eq_iff_iff]
  simp [PyData.eqvAll, PyData.eqv, Prod.ext_iff]
theorem eqv_tks : ∀ (ps qs : List (Int × Int)), PyData.eqvAll (ps.map tkD) (qs.map tkD) = decide (ps = qs)
  | [], [] => rfl
  | [], _ :: _ => rfl
  | _ :: _, [] => rfl
  | f :: r, g :: q => by
    show (PyData.eqv (tkD f) (tkD g) && PyData.eqvAll (r.map tkD) (q.map tkD)) = _
    rw [eqv_tks r q, eqv_tk, Bool.eq_iff_iff]
    simp
theorem ne_rows {K : PySem.W.Frag} {H : Hp} {a b : Addr} {ps : List (Int × Int)} {Q : VK} (ha : RowAt H a ps) (hb : RowAt H b ps) (q : Q (.bl false) H) : rNeD K (.ref a) (.ref b) H Q := by
  refine ⟨_, _, dp_row ha, dp_row hb, shp_row ps, shp_row ps, ?_⟩
  rw [PyData.eqv, eqv_tks, decide_eq_true rfl]
  exact q
theorem eq_rowsF {K : PySem.W.Frag} {H : Hp} {a b : Addr} {ps qs : List (Int × Int)} {Q : VK} (ha : RowAt H a ps) (hb : RowAt H b qs) (hn : ps ≠ qs) (q : Q (.bl false) H) : rEqD K (.ref a) (.ref b) H Q := by
  refine ⟨_, _, dp_row ha, dp_row hb, shp_row ps, shp_row qs, ?_⟩
  rw [PyData.eqv, eqv_tks, decide_eq_false hn]
  exact q
end TK

namespace TK
/-- the first piece, of those that come to both, that just one of two takers takes -/
def tku (x y : Int × Int) : Option Int :=
  if x = y then none
  else if x.1 - x.2 ≠ y.1 - y.2 then some (min (x.1 - x.2) (y.1 - y.2))
  else some (x.1 - x.2 + min x.1 y.1)
/-- the piece that passes one taker as the m-th -/
def pass1 (x : Int × Int) (m : Int) : Int := m + (x.2 + m - 1) / (x.1 - 1)
def minO : Option Int → Option Int → Option Int
  | none, b => b
  | some a, none => some a
  | some a, some b => some (min a b)
/-- where two rows part -/
def partF : List (Int × Int) → List (Int × Int) → Option Int
  | x :: xs, y :: ys => minO (tku x y) ((partF xs ys).map (pass1 x))
  | _, _ => none
theorem pass1_eq (e c m : Int) (r : List (Int × Int)) : passF ((e, c) :: r) m = pass1 (e, c) (passF r m) := rfl
theorem pass1_lt {x : Int × Int} (ok : okT x) {m n : Int} (h : m < n) : pass1 x m < pass1 x n := by
  obtain ⟨o1, o2, o3, o4⟩ := ok
  have : (x.2 + m - 1) / (x.1 - 1) ≤ (x.2 + n - 1) / (x.1 - 1) := Int.ediv_le_ediv (by omega) (by omega)
  unfold pass1
  omega
theorem pass1_ge {x : Int × Int} (ok : okT x) {m : Int} (h : 1 ≤ m) : m ≤ pass1 x m := by
  obtain ⟨o1, o2, o3, o4⟩ := ok
  have : 0 ≤ (x.2 + m - 1) / (x.1 - 1) := Int.ediv_nonneg (by omega) (by omega)
  unfold pass1
  omega
/-- a taker takes the n-th piece that comes -/
def tk (x : Int × Int) (n : Int) : Prop := (x.2 + n) % x.1 = 0
theorem tk_first {x : Int × Int} (ok : okT x) {n : Int} (h1 : 1 ≤ n) (h2 : n < x.1 - x.2) : ¬ tk x n := by
  obtain ⟨o1, o2, o3, o4⟩ := ok
  unfold tk
  rw [Int.emod_eq_of_lt (by omega) (by omega)]
  omega
theorem tk_at {x : Int × Int} (ok : okT x) : tk x (x.1 - x.2) := by
  unfold tk
  rw [show x.2 + (x.1 - x.2) = x.1 by omega]
  exact Int.emod_self
theorem tk_second {x : Int × Int} (ok : okT x) {n : Int} (h1 : x.1 - x.2 < n) (h2 : n < x.1 - x.2 + x.1) : ¬ tk x n := by
  obtain ⟨o1, o2, o3, o4⟩ := ok
  unfold tk
  rw [show x.2 + n = (x.2 + n - x.1) + x.1 by omega, Int.add_emod_right, Int.emod_eq_of_lt (by omega) (by omega)]
  omega
theorem tk_at2 {x : Int × Int} (ok : okT x) : tk x (x.1 - x.2 + x.1) := by
  unfold tk
  rw [show x.2 + (x.1 - x.2 + x.1) = x.1 + x.1 by omega, Int.add_emod_right]
  exact Int.emod_self
theorem tku_none {x y : Int × Int} : tku x y = none ↔ x = y := by
  unfold tku
  constructor
  · intro h
    split at h
    · assumption
    · split at h <;> cases h
  · intro h
    rw [if_pos h]
/-- what tku tells -/
theorem tku_some {x y : Int × Int} (ox : okT x) (oy : okT y) {k : Int} (h : tku x y = some k) : 1 ≤ k ∧ ¬ (tk x k ↔ tk y k) ∧ ∀ n, 1 ≤ n → n < k → (tk x n ↔ tk y n) := by
  obtain ⟨a1, a2, a3, a4⟩ := id ox
  obtain ⟨b1, b2, b3, b4⟩ := id oy
  unfold tku at h
  split at h
  · cases h
  · rename_i hne
    split at h
    · rename_i hf
      have hk := Option.some.inj h
      rcases Int.lt_or_gt_of_ne hf with c | c
      · have e : k = x.1 - x.2 := by omega
        subst e
        refine ⟨by omega, ?_, ?_⟩
        · intro q
          exact tk_first oy (by omega) c (q.mp (tk_at ox))
        · intro n n1 n2
          exact ⟨fun q => absurd q (tk_first ox n1 n2), fun q => absurd q (tk_first oy n1 (by omega))⟩
      · have e : k = y.1 - y.2 := by omega
        subst e
        refine ⟨by omega, ?_, ?_⟩
        · intro q
          exact tk_first ox (by omega) c (q.mpr (tk_at oy))
        · intro n n1 n2
          exact ⟨fun q => absurd q (tk_first ox n1 (by omega)), fun q => absurd q (tk_first oy n1 n2)⟩
    · rename_i hf
      have hf : x.1 - x.2 = y.1 - y.2 := by omega
      have hk := Option.some.inj h
      have he : x.1 ≠ y.1 := fun e => hne (Prod.ext e (by omega))
      have low : ∀ n, 1 ≤ n → n < x.1 - x.2 + min x.1 y.1 → (tk x n ↔ tk y n) := by
        intro n n1 n2
        rcases Int.lt_trichotomy n (x.1 - x.2) with z | z | z
        · exact ⟨fun q => absurd q (tk_first ox n1 z), fun q => absurd q (tk_first oy n1 (by omega))⟩
        · constructor
          · intro _; rw [z, hf]; exact tk_at oy
          · intro _; rw [z]; exact tk_at ox
        · exact ⟨fun q => absurd q (tk_second ox z (by omega)), fun q => absurd q (tk_second oy (by omega) (by omega))⟩
      rcases Int.lt_or_gt_of_ne he with c | c
      · have e : k = x.1 - x.2 + x.1 := by omega
        rw [← hk]
        refine ⟨by omega, ?_, low⟩
        intro q
        rw [hk, e] at q
        exact tk_second oy (by omega) (by omega) (q.mp (tk_at2 ox))
      · have e : k = y.1 - y.2 + y.1 := by omega
        rw [← hk]
        refine ⟨by omega, ?_, low⟩
        intro q
        rw [hk, e] at q
        exact tk_second ox (by omega) (by omega) (q.mpr (tk_at2 oy))
/-- of the same pieces taken, the same number -/
theorem same_took {x y : Int × Int} (ox : okT x) (oy : okT y) : ∀ (n : Nat), (∀ m : Int, 1 ≤ m → m ≤ n → (tk x m ↔ tk y m)) → (x.2 + n) / x.1 = (y.2 + n) / y.1
  | 0, _ => by
    obtain ⟨a1, a2, a3, a4⟩ := ox
    obtain ⟨b1, b2, b3, b4⟩ := oy
    rw [show x.2 + ((0 : Nat) : Int) = x.2 by omega, show y.2 + ((0 : Nat) : Int) = y.2 by omega, Int.ediv_eq_zero_of_lt (by omega) (by omega), Int.ediv_eq_zero_of_lt (by omega) (by omega)]
  | n + 1, h => by
    have ih := same_took ox oy n fun m m1 m2 => h m m1 (by omega)
    have ht := h ((n : Int) + 1) (by omega) (by omega)
    obtain ⟨a1, a2, a3, a4⟩ := ox
    obtain ⟨b1, b2, b3, b4⟩ := oy
    unfold tk at ht
    rw [show x.2 + ((n : Int) + 1) = x.2 + n + 1 by omega, show y.2 + ((n : Int) + 1) = y.2 + n + 1 by omega] at ht
    rw [show x.2 + ((n + 1 : Nat) : Int) = x.2 + n + 1 by omega, show y.2 + ((n + 1 : Nat) : Int) = y.2 + n + 1 by omega]
    by_cases q : (x.2 + n + 1) % x.1 = 0
    · rw [div_step0 (by omega) q, div_step0 (by omega) (ht.mp q), ih]
    · rw [div_stepN (by omega) q, div_stepN (by omega) (fun z => q (ht.mpr z)), ih]
theorem come_pos {e c n : Int} (ok : okT (e, c)) (hn : 1 ≤ n) (h : (c + n) % e ≠ 0) : 1 ≤ n - (c + n) / e := by
  obtain ⟨o1, o2, o3, o4⟩ := ok
  simp only at o1 o2 o3 o4
  have pb := pass_back (c := c) (n := n) o1 h
  rcases Int.lt_or_le 0 (n - (c + n) / e) with z | z
  · omega
  · have : (c + (n - (c + n) / e) - 1) / (e - 1) ≤ 0 := by
      have : (c + (n - (c + n) / e) - 1) / (e - 1) < 1 := Int.ediv_lt_of_lt_mul (by omega) (by omega)
      omega
    omega
theorem who_cons {e c : Int} {r : List (Int × Int)} {n : Int} : whoF ((e, c) :: r) n = if (c + n) % e = 0 then some 0 else (whoF r (n - (c + n) / e)).map (· + 1) := rfl
theorem map1_inj {a b : Option Nat} (h : a.map (· + 1) = b.map (· + 1)) : a = b := by
  cases a <;> cases b <;> simp at h ⊢ <;> exact h
/-- n is the first piece by which two rows part -/
structure Parts (a b : List (Int × Int)) (n : Int) : Prop where
  pos : 1 ≤ n
  ne : whoF a n ≠ whoF b n
  low : ∀ m, 1 ≤ m → m < n → whoF a m = whoF b m
theorem Parts.symm {a b : List (Int × Int)} {n : Int} (h : Parts a b n) : Parts b a n := ⟨h.pos, fun z => h.ne z.symm, fun m h1 h2 => (h.low m h1 h2).symm⟩
theorem Parts.uniq {a b : List (Int × Int)} {n m : Int} (h : Parts a b n) (g : Parts a b m) : n = m := by
  rcases Int.lt_trichotomy n m with z | z | z
  · exact absurd (g.low n h.pos z) h.ne
  · exact z
  · exact absurd (h.low m g.pos z) g.ne
theorem same_took' {x y : Int × Int} (ox : okT x) (oy : okT y) {n : Int} (hn : 0 ≤ n) (h : ∀ m : Int, 1 ≤ m → m ≤ n → (tk x m ↔ tk y m)) : (x.2 + n) / x.1 = (y.2 + n) / y.1 := by
  have := same_took ox oy n.toNat (fun m m1 m2 => h m m1 (by omega))
  rwa [show ((n.toNat : Nat) : Int) = n by omega] at this
/-- ahead of where the heads part -/
theorem who_head {x y : Int × Int} {xs ys : List (Int × Int)} (ox : okT x) (oy : okT y) {n : Int} (hn : 1 ≤ n) (h : ∀ m : Int, 1 ≤ m → m ≤ n → (tk x m ↔ tk y m)) :
    (tk x n ∧ whoF (x :: xs) n = some 0 ∧ whoF (y :: ys) n = some 0) ∨ (¬ tk x n ∧ whoF (x :: xs) n = (whoF xs (n - (x.2 + n) / x.1)).map (· + 1) ∧ whoF (y :: ys) n = (whoF ys (n - (x.2 + n) / x.1)).map (· + 1)) := by
  obtain ⟨e, c⟩ := x
  obtain ⟨e', c'⟩ := y
  have hs := same_took' ox oy (by omega) h
  have ht := h n hn (Int.le_refl _)
  unfold tk at ht
  simp only at hs ht
  by_cases q : (c + n) % e = 0
  · exact .inl ⟨q, by rw [who_cons, if_pos q], by rw [who_cons, if_pos (ht.mp q)]⟩
  · exact .inr ⟨q, by rw [who_cons, if_neg q], by rw [who_cons, if_neg (fun z => q (ht.mpr z)), ← hs]⟩
theorem part_spec : ∀ (a b : List (Int × Int)), a.length = b.length → (∀ ec ∈ a, okT ec) → (∀ ec ∈ b, okT ec) → (partF a b = none → a = b) ∧ ∀ n, partF a b = some n → Parts a b n
  | [], [], _, _, _ => ⟨fun _ => rfl, fun n h => by cases h⟩
  | [], _ :: _, h, _, _ => by cases h
  | _ :: _, [], h, _, _ => by cases h
  | x :: xs, y :: ys, hl, oa, ob => by
    have ox := oa x List.mem_cons_self
    have oy := ob y List.mem_cons_self
    obtain ⟨i1, i2⟩ := part_spec xs ys (Nat.succ.inj hl) (fun z hz => oa z (List.mem_cons_of_mem _ hz)) (fun z hz => ob z (List.mem_cons_of_mem _ hz))
    have behind : ∀ (m : Int), Parts xs ys m → (∀ n : Int, 1 ≤ n → n ≤ pass1 x m → (tk x n ↔ tk y n)) → Parts (x :: xs) (y :: ys) (pass1 x m) := by
      intro m pm hh
      have p1 := pass1_ge ox pm.pos
      have nt : ¬ tk x (pass1 x m) ∧ pass1 x m - (x.2 + pass1 x m) / x.1 = m := by
        obtain ⟨q1, q2⟩ := pass_one (c := x.2) (m := m) ox.1 (pass1 x m) rfl
        exact ⟨q2, by rw [q1]; omega⟩
      refine ⟨by have := pm.pos; omega, ?_, ?_⟩
      · rcases who_head (xs := xs) (ys := ys) ox oy (by have := pm.pos; omega) hh with ⟨c1, c2, c3⟩ | ⟨c1, c2, c3⟩
        · exact absurd c1 nt.1
        · rw [c2, c3, nt.2]
          exact fun z => pm.ne (map1_inj z)
      · intro n n1 n2
        rcases who_head (xs := xs) (ys := ys) ox oy n1 (fun k k1 k2 => hh k k1 (by omega)) with ⟨c1, c2, c3⟩ | ⟨c1, c2, c3⟩
        · rw [c2, c3]
        · rw [c2, c3]
          have cp := come_pos (e := x.1) (c := x.2) ox n1 c1
          have pb := pass_back (c := x.2) (n := n) ox.1 c1
          rw [pm.low _ cp ?_]
          rcases Int.lt_or_le (n - (x.2 + n) / x.1) m with z | z
          · exact z
          · have : pass1 x m ≤ pass1 x (n - (x.2 + n) / x.1) := by
              rcases Int.lt_or_eq_of_le z with w | w
              · exact Int.le_of_lt (pass1_lt ox w)
              · rw [w]; exact Int.le_refl _
            unfold pass1 at this n2
            omega
    have ahead : ∀ (k : Int), tku x y = some k → (∀ m, Parts xs ys m → k ≤ pass1 x m) → (xs ≠ ys → ∃ m, Parts xs ys m) → Parts (x :: xs) (y :: ys) k := by
      intro k hk hm hx
      obtain ⟨k1, k2, k3⟩ := tku_some ox oy hk
      refine ⟨k1, ?_, ?_⟩
      · intro z
        obtain ⟨e, c⟩ := x
        obtain ⟨e', c'⟩ := y
        unfold tk at k2
        simp only at k2
        rw [who_cons, who_cons] at z
        by_cases q : (c + k) % e = 0
        · have q' : ¬ (c' + k) % e' = 0 := fun w => k2 ⟨fun _ => w, fun _ => q⟩
          rw [if_pos q, if_neg q'] at z
          cases w : whoF ys (k - (c' + k) / e') <;> rw [w] at z <;> simp at z
        · have q' : (c' + k) % e' = 0 := by
            by_cases w : (c' + k) % e' = 0
            · exact w
            · exact absurd ⟨fun u => absurd u q, fun u => absurd u w⟩ k2
          rw [if_pos q', if_neg q] at z
          cases w : whoF xs (k - (c + k) / e) <;> rw [w] at z <;> simp at z
      · intro n n1 n2
        rcases who_head (xs := xs) (ys := ys) ox oy n1 (fun j j1 j2 => k3 j j1 (by omega)) with ⟨c1, c2, c3⟩ | ⟨c1, c2, c3⟩
        · rw [c2, c3]
        · rw [c2, c3]
          by_cases hxy : xs = ys
          · rw [hxy]
          · obtain ⟨m, pm⟩ := hx hxy
            have cp := come_pos (e := x.1) (c := x.2) ox n1 c1
            have pb := pass_back (c := x.2) (n := n) ox.1 c1
            rw [pm.low _ cp ?_]
            have km := hm m pm
            rcases Int.lt_or_le (n - (x.2 + n) / x.1) m with z | z
            · exact z
            · have : pass1 x m ≤ pass1 x (n - (x.2 + n) / x.1) := by
                rcases Int.lt_or_eq_of_le z with w | w
                · exact Int.le_of_lt (pass1_lt ox w)
                · rw [w]; exact Int.le_refl _
              unfold pass1 at this km
              omega
    show (minO (tku x y) ((partF xs ys).map (pass1 x)) = none → _) ∧ ∀ n, minO (tku x y) ((partF xs ys).map (pass1 x)) = some n → _
    cases hk : tku x y with
    | none =>
      have exy := tku_none.mp hk
      subst exy
      cases hp : partF xs ys with
      | none =>
        rw [i1 hp]
        exact ⟨fun _ => rfl, fun n h => by cases h⟩
      | some m =>
        refine ⟨fun h => (by cases h), fun n h => ?_⟩
        have e := Option.some.inj h
        subst e
        exact behind m (i2 m hp) fun _ _ _ => Iff.rfl
    | some k =>
      obtain ⟨k1, k2, k3⟩ := tku_some ox oy hk
      cases hp : partF xs ys with
      | none =>
        refine ⟨fun h => (by cases h), fun n h => ?_⟩
        have e := Option.some.inj h
        subst e
        have exs := i1 hp
        subst exs
        exact ahead k hk (fun m pm => absurd rfl pm.ne) fun z => absurd rfl z
      | some m =>
        refine ⟨fun h => (by cases h), fun n h => ?_⟩
        have e : min k (pass1 x m) = n := Option.some.inj h
        have pm := i2 m hp
        rcases Int.lt_or_le (pass1 x m) k with z | z
        · have e2 : n = pass1 x m := by omega
          subst e2
          exact behind m pm fun j j1 j2 => k3 j j1 (by omega)
        · have e2 : n = k := by omega
          subst e2
          exact ahead _ hk (fun m' pm' => by rw [← pm.uniq pm']; exact z) fun _ => ⟨m, pm⟩
theorem part_none {a b : List (Int × Int)} (hl : a.length = b.length) (oa : ∀ ec ∈ a, okT ec) (ob : ∀ ec ∈ b, okT ec) : partF a b = none ↔ a = b := by
  constructor
  · exact (part_spec a b hl oa ob).1
  · intro h
    subst h
    cases hp : partF a a with
    | none => rfl
    | some n => exact absurd rfl ((part_spec a a rfl oa ob).2 n hp).ne
theorem part_some {a b : List (Int × Int)} (hl : a.length = b.length) (oa : ∀ ec ∈ a, okT ec) (ob : ∀ ec ∈ b, okT ec) {n : Int} (h : partF a b = some n) : Parts a b n := (part_spec a b hl oa ob).2 n h
theorem part_comm {a b : List (Int × Int)} (hl : a.length = b.length) (oa : ∀ ec ∈ a, okT ec) (ob : ∀ ec ∈ b, okT ec) : partF a b = partF b a := by
  cases h1 : partF a b with
  | none =>
    have e := (part_none hl oa ob).mp h1
    exact ((part_none hl.symm ob oa).mpr e.symm).symm
  | some n =>
    have p1 := part_some hl oa ob h1
    cases h2 : partF b a with
    | none =>
      have e := (part_none hl.symm ob oa).mp h2
      rw [e] at p1
      exact absurd rfl p1.ne
    | some m => rw [p1.uniq (part_some hl.symm ob oa h2).symm]
/-- three rows: two of the three numbers are the least -/
theorem part_three {a b c : List (Int × Int)} {n : Int} (h : Parts a b n) : (∃ m, Parts a c m ∧ m ≤ n) ∨ ∃ m, Parts b c m ∧ m ≤ n := by
  by_cases q : whoF a n = whoF c n
  · have hb : whoF b n ≠ whoF c n := fun z => h.ne (q.trans z.symm)
    exact .inr (least hb h.pos)
  · exact .inl (least q h.pos)
where
  least {a b : List (Int × Int)} {n : Int} (h : whoF a n ≠ whoF b n) (hp : 1 ≤ n) : ∃ m, Parts a b m ∧ m ≤ n := by
    have key : ∀ k : Nat, (∃ m, Parts a b m ∧ m ≤ k) ∨ ∀ m : Int, 1 ≤ m → m ≤ k → whoF a m = whoF b m := by
      intro k
      induction k with
      | zero => exact .inr fun m h1 h2 => by omega
      | succ k ih =>
        rcases ih with ⟨m, pm, hm⟩ | ih
        · exact .inl ⟨m, pm, by omega⟩
        · by_cases q : whoF a ((k : Int) + 1) = whoF b ((k : Int) + 1)
          · refine .inr fun m h1 h2 => ?_
            rcases Int.lt_or_eq_of_le h2 with z | z
            · exact ih m h1 (by omega)
            · rw [z]; exact q
          · exact .inl ⟨(k : Int) + 1, ⟨by omega, q, fun m h1 h2 => ih m h1 (by omega)⟩, by omega⟩
    rcases key n.toNat with ⟨m, pm, hm⟩ | hk
    · exact ⟨m, pm, by omega⟩
    · exact absurd (hk n hp (by omega)) h
theorem Parts.taken {a b : List (Int × Int)} {n : Int} (h : Parts a b n) (hl : a.length = b.length) (oa : ∀ ec ∈ a, okT ec) (ob : ∀ ec ∈ b, okT ec) : takenF a (n - 1) = takenF b (n - 1) := by
  have hs : seenF a (n - 1).toNat = seenF b (n - 1).toNat := by
    unfold seenF
    apply List.map_congr_left
    intro k hk
    have := List.mem_range.mp hk
    exact h.low _ (by omega) (by omega)
  have e : (((n - 1).toNat : Nat) : Int) = n - 1 := by have := h.pos; omega
  apply List.ext_getElem?
  intro i
  by_cases hi : i < a.length + 1
  · obtain ⟨o, ho, hso⟩ : ∃ o : Option Nat, (∀ j, o = some j → j < a.length) ∧ slot a o = i := by
      by_cases q : i = a.length
      · exact ⟨none, (fun j hj => by cases hj), q.symm⟩
      · exact ⟨some i, (fun j hj => by cases hj; omega), rfl⟩
    have hsb : slot b o = i := by rw [← hso]; cases o <;> simp [slot, hl]
    have t1 := taken_count a oa o ho (n - 1).toNat
    have t2 := taken_count b ob o (by rw [← hl]; exact ho) (n - 1).toNat
    rw [e, hso] at t1
    rw [e, hsb] at t2
    rw [t1, t2, hs]
  · rw [List.getElem?_eq_none (by rw [len_takenF]; omega), List.getElem?_eq_none (by rw [len_takenF]; omega)]
end TK

namespace TK
/-- a taker takes just those pieces -/
def agreeB : Int → Int → List Bool → Bool
  | _, _, [] => true
  | e, c, b :: bs => (decide ((c + 1) % e = 0) == b) && agreeB e ((c + 1) % e) bs
/-- what came to place i, and whether it was taken there -/
def cameF (seen : List (Option Nat)) (i : Nat) : List Bool := (seen.filter fun o => match o with | none => true | some j => decide (i ≤ j)).map fun o => decide (o = some i)
/-- all takers, rising -/
def rowT (j : Nat) : List (Int × Int) := (List.range (j + 2)).map fun c => (((j + 2 : Nat) : Int), ((c : Nat) : Int))
def allT : List (Int × Int) := (List.range 39).flatMap rowT
def fitT (came : List Bool) : List (Int × Int) := allT.filter fun x => agreeB x.1 x.2 came
def fitsF (seen : List (Option Nat)) (many : Nat) : List (List (Int × Int)) := (List.range many).map fun i => fitT (cameF seen i)
theorem agree_iff : ∀ (e c : Int) (came : List Bool), agreeB e c came = true ↔ ∀ (k : Nat) (b : Bool), came[k]? = some b → b = decide ((c + ((k : Int) + 1)) % e = 0)
  | e, c, [] => by simp [agreeB]
  | e, c, b :: bs => by
    have ih := agree_iff e ((c + 1) % e) bs
    have hm : ∀ k : Nat, ((c + 1) % e + ((k : Int) + 1)) % e = (c + (((k + 1 : Nat) : Int) + 1)) % e := by
      intro k
      rw [Int.emod_add_emod]
      congr 1
      omega
    unfold agreeB
    rw [Bool.and_eq_true, ih, beq_iff_eq]
    constructor
    · rintro ⟨h1, h2⟩ k b' hb
      cases k with
      | zero =>
        simp at hb
        rw [← hb, ← h1]
        congr 2
      | succ k =>
        have := h2 k b' (by simpa using hb)
        rw [this, hm]
    · intro h
      refine ⟨?_, fun k b' hb => ?_⟩
      · have := h 0 b rfl
        rw [this]
        congr 2
      · have := h (k + 1) b' (by simpa using hb)
        rw [this, hm]
/-- taken by (e, c) among the first n -/
def ownF (e c : Int) (n : Nat) : List Bool := (List.range n).map fun (k : Nat) => decide ((c + ((k : Int) + 1)) % e = 0)
theorem own_get {e c : Int} {n k : Nat} {b : Bool} (h : (ownF e c n)[k]? = some b) : k < n ∧ b = decide ((c + ((k : Int) + 1)) % e = 0) := by
  unfold ownF at h
  rw [List.getElem?_map] at h
  obtain ⟨j, hj, e⟩ := Option.map_eq_some_iff.mp h
  obtain ⟨hk, e2⟩ := List.getElem?_eq_some_iff.mp hj
  rw [List.length_range] at hk
  rw [List.getElem_range] at e2
  subst e2
  exact ⟨hk, e.symm⟩
theorem own_at {e c : Int} {n k : Nat} (h : k < n) : (ownF e c n)[k]? = some (decide ((c + ((k : Int) + 1)) % e = 0)) := by
  unfold ownF
  rw [List.getElem?_map, List.getElem?_range h]
  rfl
theorem agree_own (e c : Int) (n : Nat) : agreeB e c (ownF e c n) = true := (agree_iff e c _).mpr fun k b h => (own_get h).2
theorem agree_tk {x y : Int × Int} {n : Nat} : agreeB x.1 x.2 (ownF y.1 y.2 n) = true ↔ ∀ m : Int, 1 ≤ m → m ≤ n → (tk x m ↔ tk y m) := by
  rw [agree_iff]
  constructor
  · intro h m m1 m2
    have hk : (m - 1).toNat < n := by omega
    have := h (m - 1).toNat _ (own_at hk)
    rw [show (((m - 1).toNat : Nat) : Int) + 1 = m by omega] at this
    unfold tk
    constructor
    · intro z
      rw [decide_eq_true z] at this
      exact of_decide_eq_true this
    · intro z
      rw [decide_eq_true z] at this
      exact of_decide_eq_true this.symm
  · intro h k b hb
    obtain ⟨hk, e⟩ := own_get hb
    have := h ((k : Int) + 1) (by omega) (by omega)
    unfold tk at this
    rw [e, Bool.eq_iff_iff, decide_eq_true_iff, decide_eq_true_iff]
    exact this.symm
theorem come_stay : ∀ (r : List (Int × Int)) (n : Int) (i j : Nat), (∀ ec ∈ r, okT ec) → whoF r (n + 1) = some j → j < i → comeF r i (n + 1) = comeF r i n
  | [], _, _, _, _, h, _ => by simp [whoF] at h
  | (e, c) :: r, n, 0, j, _, _, h => by omega
  | (e, c) :: r, n, i + 1, j, ok, h, hj => by
    have he : (0 : Int) < e := by have := ok (e, c) (by simp); unfold okT at this; simp at this; omega
    have ea : c + (n + 1) = c + n + 1 := by omega
    unfold whoF at h
    by_cases q : (c + (n + 1)) % e = 0
    · have e1 : (c + (n + 1)) / e = (c + n) / e + 1 := by rw [ea] at q ⊢; exact div_step0 he q
      unfold comeF
      rw [e1, show n + 1 - ((c + n) / e + 1) = n - (c + n) / e by omega]
    · have e1 : (c + (n + 1)) / e = (c + n) / e := by rw [ea] at q ⊢; exact div_stepN he q
      rw [if_neg q, e1, show n + 1 - (c + n) / e = n - (c + n) / e + 1 by omega] at h
      cases k : whoF r (n - (c + n) / e + 1) with
      | none => rw [k] at h; simp at h
      | some j' =>
        rw [k] at h
        simp at h
        have := come_stay r (n - (c + n) / e) i j' (fun x hx => ok x (by simp [hx])) k (by omega)
        unfold comeF
        rw [e1, show n + 1 - (c + n) / e = n - (c + n) / e + 1 by omega]
        exact this
theorem come_z : ∀ (r : List (Int × Int)) (i : Nat), (∀ ec ∈ r, okT ec) → comeF r i 0 = 0
  | _, 0, _ => come_zero _ _
  | [], _ + 1, _ => rfl
  | (e, c) :: r, i + 1, ok => by
    have h := ok (e, c) (by simp)
    unfold okT at h
    simp at h
    have e0 : (c + 0) / e = 0 := by rw [Int.add_zero]; exact Int.ediv_eq_zero_of_lt h.2.2.1 (by omega)
    unfold comeF
    rw [e0, show (0 : Int) - 0 = 0 by omega]
    exact come_z r i fun x hx => ok x (by simp [hx])
theorem reach_or {r : List (Int × Int)} {n : Int} {i : Nat} : reach r n i ∨ ∃ j, whoF r n = some j ∧ j < i := by
  cases h : whoF r n with
  | none => exact .inl fun j hj => by rw [h] at hj; cases hj
  | some j =>
    rcases Nat.lt_or_ge j i with z | z
    · exact .inr ⟨j, rfl, z⟩
    · exact .inl fun k hk => by rw [h] at hk; cases hk; exact z
/-- what comes to place i of the first m pieces, and its own takings -/
theorem came_own (r : List (Int × Int)) (ok : ∀ ec ∈ r, okT ec) (i : Nat) (e c : Int) (hi : r[i]? = some (e, c)) : ∀ m : Nat, 0 ≤ comeF r i (m : Int) ∧ cameF (seenF r m) i = ownF e c (comeF r i (m : Int)).toNat
  | 0 => by
    rw [show ((0 : Nat) : Int) = 0 from rfl, come_z r i ok]
    exact ⟨Int.le_refl _, rfl⟩
  | m + 1 => by
    obtain ⟨h0, ih⟩ := came_own r ok i e c hi m
    rw [show ((m + 1 : Nat) : Int) = (m : Int) + 1 by omega, seen_succ]
    unfold cameF at ih ⊢
    rw [List.filter_append, List.map_append, ih]
    rcases reach_or (r := r) (n := (m : Int) + 1) (i := i) with hr | ⟨j, hj, hlt⟩
    · have cs := come_step r m i ok (Nat.le_of_lt (List.getElem?_eq_some_iff.mp hi).1) hr
      have wa := who_at r ((m : Int) + 1) i e c hi hr
      rw [cs] at wa ⊢
      refine ⟨by omega, ?_⟩
      have hf : ([whoF r ((m : Int) + 1)].filter fun o => match o with | none => true | some j => decide (i ≤ j)) = [whoF r ((m : Int) + 1)] := by
        cases hw : whoF r ((m : Int) + 1) with
        | none => rfl
        | some j =>
          have : decide (i ≤ j) = true := decide_eq_true (hr j hw)
          simp [this]
      rw [hf, show (comeF r i (m : Int) + 1).toNat = (comeF r i (m : Int)).toNat + 1 by omega]
      unfold ownF
      rw [List.range_succ, List.map_append]
      congr 1
      show [decide (whoF r ((m : Int) + 1) = some i)] = [decide ((c + ((((comeF r i (m : Int)).toNat : Nat) : Int) + 1)) % e = 0)]
      congr 1
      rw [Bool.eq_iff_iff, decide_eq_true_iff, decide_eq_true_iff, wa, show (((comeF r i (m : Int)).toNat : Nat) : Int) + 1 = comeF r i (m : Int) + 1 by omega]
    · rw [come_stay r m i j ok hj hlt]
      refine ⟨h0, ?_⟩
      have hf : ([whoF r ((m : Int) + 1)].filter fun o => match o with | none => true | some j => decide (i ≤ j)) = [] := by
        rw [hj]
        have : decide (i ≤ j) = false := decide_eq_false (by omega)
        simp [this]
      rw [hf]
      simp
/-- more pieces, more come -/
theorem come_mono : ∀ (r : List (Int × Int)) (i : Nat) (m n : Int), (∀ ec ∈ r, okT ec) → m ≤ n → comeF r i m ≤ comeF r i n
  | _, 0, m, n, _, h => by rw [come_zero, come_zero]; exact h
  | [], _ + 1, m, n, _, h => h
  | (e, c) :: r, i + 1, m, n, ok, h => by
    have h2 := ok (e, c) (by simp)
    unfold okT at h2
    simp at h2
    unfold comeF
    apply come_mono r i _ _ fun x hx => ok x (by simp [hx])
    have d1 := Int.mul_ediv_add_emod (c + m) e
    have d2 := Int.emod_nonneg (c + m) (show e ≠ 0 by omega)
    have d3 := Int.emod_lt_of_pos (c + n) (show 0 < e by omega)
    have d4 := Int.mul_ediv_add_emod (c + n) e
    have d5 := Int.emod_nonneg (c + n) (show e ≠ 0 by omega)
    have d6 := Int.emod_lt_of_pos (c + m) (show 0 < e by omega)
    obtain ⟨a, ha⟩ : ∃ a, a = (c + m) / e := ⟨_, rfl⟩
    obtain ⟨b, hb⟩ : ∃ b, b = (c + n) / e := ⟨_, rfl⟩
    rw [← ha] at d1 ⊢
    rw [← hb] at d4 ⊢
    rcases Int.lt_or_le a b with z | z
    · have k1 : e * (b - a) = e * b - e * a := Int.mul_sub _ _ _
      have k2 : 2 * (b - a - 1) ≤ e * (b - a - 1) := Int.mul_le_mul_of_nonneg_right (by omega) (by omega)
      have k3 : e * (b - a - 1) = e * (b - a) - e := by rw [Int.mul_sub]; omega
      rcases Int.lt_or_le (b - a) 2 with w | w
      · have : b - a = 1 := by omega
        have : e * b = e * a + e := by rw [show b = a + 1 by omega, Int.mul_add]; omega
        rcases Int.lt_or_le m n with u | u
        · omega
        · have : m = n := by omega
          subst this
          omega
      · omega
    · omega
/-- by which piece the k-th comes to place i -/
theorem come_ge (r : List (Int × Int)) (ok : ∀ ec ∈ r, okT ec) (i : Nat) (hi : i ≤ r.length) (k m : Int) (hk : 1 ≤ k) : k ≤ comeF r i m ↔ passF (r.take i) k ≤ m := by
  obtain ⟨h1, h2⟩ := who_pass (r.take i) (r.drop i) k (take_ok ok i)
  rw [List.take_append_drop, List.length_take, Nat.min_eq_left hi] at h1 h2
  have p1 := pass_ge (r.take i) k (take_ok ok i) hk
  constructor
  · intro h
    rcases Int.lt_or_le m (passF (r.take i) k) with z | z
    · have hr : reach r (passF (r.take i) k) i := fun j hj => by
        rw [hj] at h1
        obtain ⟨q, _, e⟩ := Option.map_eq_some_iff.mp h1.symm
        omega
      have cs := come_step r (passF (r.take i) k - 1) i ok hi (by rw [show passF (r.take i) k - 1 + 1 = passF (r.take i) k by omega]; exact hr)
      rw [show passF (r.take i) k - 1 + 1 = passF (r.take i) k by omega, h2] at cs
      have := come_mono r i m (passF (r.take i) k - 1) ok (by omega)
      omega
    · exact z
  · intro h
    have := come_mono r i _ _ ok h
    rw [h2] at this
    exact this
/-! takers -/
theorem mem_allT {x : Int × Int} : x ∈ allT ↔ 2 ≤ x.1 ∧ x.1 ≤ 40 ∧ 0 ≤ x.2 ∧ x.2 ≤ x.1 - 1 := by
  unfold allT rowT
  rw [List.mem_flatMap]
  constructor
  · rintro ⟨j, hj, hx⟩
    obtain ⟨c, hc, rfl⟩ := List.mem_map.mp hx
    have := List.mem_range.mp hj
    have := List.mem_range.mp hc
    simp
    omega
  · intro h
    refine ⟨(x.1 - 2).toNat, List.mem_range.mpr (by omega), List.mem_map.mpr ⟨x.2.toNat, List.mem_range.mpr (by omega), ?_⟩⟩
    apply Prod.ext
    · show ((((x.1 - 2).toNat + 2 : Nat)) : Int) = x.1
      omega
    · show ((x.2.toNat : Nat) : Int) = x.2
      omega
theorem okT_of {x : Int × Int} (h : x ∈ allT) : okT x := by
  have := mem_allT.mp h
  exact ⟨this.1, by omega, this.2.2.1, this.2.2.2⟩
/-- all takers, each ahead of those behind -/
theorem rise_allT : allT.Pairwise fun x y => x.1 < y.1 ∨ (x.1 = y.1 ∧ x.2 < y.2) := by
  unfold allT
  rw [List.pairwise_flatMap]
  constructor
  · intro j _
    unfold rowT
    rw [List.pairwise_map]
    exact List.pairwise_lt_range.imp fun h => .inr ⟨rfl, by show ((_ : Nat) : Int) < ((_ : Nat) : Int); omega⟩
  · refine List.pairwise_lt_range.imp fun {i j} h x hx y hy => ?_
    unfold rowT at hx hy
    obtain ⟨c, _, rfl⟩ := List.mem_map.mp hx
    obtain ⟨d, _, rfl⟩ := List.mem_map.mp hy
    exact .inl (by show (((i + 2 : Nat)) : Int) < ((j + 2 : Nat) : Int); omega)
theorem nodup_allT : allT.Nodup := rise_allT.imp fun {x y} h e => by
  subst e
  rcases h with z | z
  · exact absurd z (Int.lt_irrefl _)
  · exact absurd z.2 (Int.lt_irrefl _)
theorem len_allT : allT.length = 819 := by decide +kernel
/-- how many pieces must come to a taker, that no other one fits -/
def ptk (x : Int × Int) : Int := if x.1 - x.2 = 40 then x.1 - x.2 - 1 else if x.1 = 40 then x.1 - x.2 + x.1 - 1 else x.1 - x.2 + x.1
theorem ptk_max {x y : Int × Int} (hx : x ∈ allT) (hy : y ∈ allT) {t : Int} (h : tku x y = some t) : t ≤ ptk y := by
  obtain ⟨a1, a2, a3, a4⟩ := mem_allT.mp hx
  obtain ⟨b1, b2, b3, b4⟩ := mem_allT.mp hy
  unfold tku at h
  unfold ptk
  split at h
  · cases h
  · rename_i hne
    split at h
    · have := Option.some.inj h
      split
      · omega
      · split <;> omega
    · rename_i hf
      have := Option.some.inj h
      have he : x.1 ≠ y.1 := fun e => hne (Prod.ext e (by omega))
      split
      · omega
      · split <;> omega
theorem ptk_has {y : Int × Int} (hy : y ∈ allT) : ∃ x ∈ allT, tku x y = some (ptk y) := by
  obtain ⟨b1, b2, b3, b4⟩ := mem_allT.mp hy
  unfold ptk
  split
  · rename_i h
    refine ⟨(39, 0), mem_allT.mpr (by decide), ?_⟩
    unfold tku
    rw [if_neg (fun e => by rw [← e] at h; exact absurd h (by decide)), if_pos (by simp; omega)]
    congr 1
    simp
    omega
  · rename_i h
    split
    · rename_i h40
      refine ⟨(39, 39 - (y.1 - y.2)), mem_allT.mpr (by simp; omega), ?_⟩
      unfold tku
      rw [if_neg (fun e => by rw [← e] at h40; simp at h40), if_neg (by simp; omega)]
      congr 1
      simp
      omega
    · refine ⟨(y.1 + 1, y.1 + 1 - (y.1 - y.2)), mem_allT.mpr (by simp; omega), ?_⟩
      unfold tku
      rw [if_neg (fun e => by have := congrArg Prod.fst e; simp at this; omega), if_neg (by simp; omega)]
      congr 1
      simp
      omega
theorem ptk_pos {y : Int × Int} (hy : y ∈ allT) : 1 ≤ ptk y := by
  obtain ⟨b1, b2, b3, b4⟩ := mem_allT.mp hy
  unfold ptk
  split
  · omega
  · split <;> omega
/-- x fits what came where it takes the same -/
theorem fit_iff {x y : Int × Int} {n : Nat} : x ∈ fitT (ownF y.1 y.2 n) ↔ x ∈ allT ∧ ∀ m : Int, 1 ≤ m → m ≤ n → (tk x m ↔ tk y m) := by
  unfold fitT
  rw [List.mem_filter, agree_tk]
theorem fit_own {y : Int × Int} (hy : y ∈ allT) (n : Nat) : y ∈ fitT (ownF y.1 y.2 n) := fit_iff.mpr ⟨hy, fun _ _ _ => Iff.rfl⟩
theorem fit_one {y : Int × Int} (hy : y ∈ allT) {n : Nat} (h : ptk y ≤ n) : (fitT (ownF y.1 y.2 n)).length = 1 := by
  have key : ∀ x ∈ fitT (ownF y.1 y.2 n), x = y := fun x hx => by
    obtain ⟨h1, h2⟩ := fit_iff.mp hx
    cases ht : tku x y with
    | none => exact tku_none.mp ht
    | some t =>
      obtain ⟨t1, t2, _⟩ := tku_some (okT_of h1) (okT_of hy) ht
      have := ptk_max h1 hy ht
      exact absurd (h2 t t1 (by omega)) t2
  have nd : (fitT (ownF y.1 y.2 n)).Nodup := nodup_allT.filter _
  have hm := fit_own hy n
  generalize fitT (ownF y.1 y.2 n) = L at key nd hm
  match L, key, nd, hm with
  | [], _, _, hm => cases hm
  | [_], _, _, _ => rfl
  | a :: b :: l, key, nd, _ =>
    have e1 := key a List.mem_cons_self
    have e2 := key b (List.mem_cons_of_mem _ List.mem_cons_self)
    rw [e1, e2] at nd
    simp at nd
theorem fit_more {y : Int × Int} (hy : y ∈ allT) {n : Nat} (h : (n : Int) < ptk y) : (fitT (ownF y.1 y.2 n)).length ≠ 1 := by
  obtain ⟨x, hx, ht⟩ := ptk_has hy
  obtain ⟨t1, t2, t3⟩ := tku_some (okT_of hx) (okT_of hy) ht
  have hm : x ∈ fitT (ownF y.1 y.2 n) := fit_iff.mpr ⟨hx, fun m m1 m2 => t3 m m1 (by omega)⟩
  have hn : x ≠ y := fun e => by rw [tku_none.mpr e] at ht; cases ht
  have hm2 := fit_own hy n
  intro hl
  generalize fitT (ownF y.1 y.2 n) = L at hm hm2 hl
  match L, hl, hm, hm2 with
  | [a], _, hm, hm2 =>
    have e1 := List.mem_singleton.mp hm
    have e2 := List.mem_singleton.mp hm2
    exact hn (e1.trans e2.symm)
end TK

set_option maxRecDepth 100000
/-! list(range(a, b, c)) -/
namespace TK
open PySem PySem.Spec PyProof.Rows L2
/-- n ints from a on, c apart -/
def rgC (a c : Int) (n : Nat) : List Int := (List.range n).map fun i => a + (i : Nat) * c
theorem vals_rgC {a c : Int} {n : Nat} {acc : Array Value} (h : ItemsOf (fun i v => ∃ t, v = .int (a + i * c) t) acc n) : Vals ((rgC a c n).map V.int) acc.toList := by
  have e : acc.toList.length = n := by rw [Array.length_toList]; exact h.1
  unfold rgC
  rw [← e, List.map_map]
  refine vals_of_get acc.toList _ fun j u hj => ?_
  obtain ⟨t, rfl⟩ := h.2 j u (by rw [← hj, Array.getElem?_toList])
  exact ⟨t, rfl⟩
section
variable {X : Cx}
def tLstRg3 (t : TA) : TE := fun σ H Q => t σ H fun vs H1 => ∃ (a b c : Int) (n : Nat), vs = [.int a, .int b, .int c] ∧ RgC a b c n ∧ n ≤ 100000 ∧ ∀ q, H1 q = none → Q (.ref q) (upd H1 q (.lst ((rgC a c n).map V.int)))
theorem pe_listRg3 {a b c : Expr} {t : TA} {p pos p' pos' : Pos} (hc : X.calm = true) (hg : Gl X "list") (hm : X.mg "list" = none) (hg' : Gl X "range") (hm' : X.mg "range" = none) (ha : PA X [a, b, c] t)
    (hs : starEach [a, b, c] X.env = (false, eval a X.env) :: starEach [b, c] X.env := by rfl) (hpl : (backTo pos' (starEach [b, c] X.env)).any (·.1) = false := by rfl)
    (na : starEach [(.Call (.Name "range" p') [a, b, c] [] pos' : Expr)] X.env = (false, eval (.Call (.Name "range" p') [a, b, c] [] pos') X.env) :: starEach [] X.env := by rfl) :
    PE X (.Call (.Name "list" p) [.Call (.Name "range" p') [a, b, c] [] pos'] [] pos) (tLstRg3 t) := by
  refine ⟨fun pins s σ H Q I h => ?_⟩
  refine Call_ (ld_blt I hg hm boot_list (PyProof.Rows.callWith_type1 (args_cons ?_ na) na))
  refine Call_ (ld_blt I hg' hm' boot_range (PyProof.Rows.callWith_type1 (thn (ha.run pos' pins s σ H _ I h) fun us s1 ⟨vs, H1, I1, r1, q1⟩ => ?_) hs hpl))
  obtain ⟨i, j, k, n, e, ⟨c0, c1, c2, c3⟩, hn, q⟩ := q1
  subst e
  cases r1 with
  | cons r rr =>
    cases rr with
    | cons r' rr =>
      cases rr with
      | cons r'' rr =>
        cases rr
        obtain ⟨t, rfl⟩ := r
        obtain ⟨t', rfl⟩ := r'
        obtain ⟨t'', rfl⟩ := r''
        refine call_range_3 c0 ?_ (.inl (PyProof.noPylong_small c1))
        refine args_nil ?_
        have I2 : Inv X pins σ H1 { s1 with heap := s1.heap.push { cls := .type "range", data := .fields #[.int i t, .int j t', .int k t''] } } := I1.kept (t' := s1.toks) fun b o e => Heap.get?_push_of_some _ e
        refine call_list_range (n := n) (I2.ok.hd hc) (IsRange.new ..) c2 c3 (by omega) fun h' tk acc c' hk e' hi => ?_
        refine ⟨.ref (s1.heap.push { cls := .type "range", data := .fields #[.int i t, .int j t', .int k t''] }).objs.size, upd H1 (s1.heap.push { cls := .type "range", data := .fields #[.int i t, .int j t', .int k t''] }).objs.size (.lst ((rgC i k n).map V.int)), I2.laid hk (Nat.le_refl _) (show ObjOk X.prog X.w _ _ _ (.lst ((rgC i k n).map V.int)) from ⟨?_, acc.toList, c', vals_rgC hi, ?_⟩), rfl, q _ (I2.hok.fresh (Nat.le_refl _))⟩
        · rw [List.length_map, rgC, List.length_map, List.length_range, sizeLine_eq]; omega
        · rw [Array.toArray_toList]; exact e'
end
/-- a small range with a positive step -/
theorem RgC.pos {a b c : Int} {n : Nat} (a0 : 0 ≤ a) (a1 : a ≤ 1000000) (b0 : 0 ≤ b) (b1 : b ≤ 1000000) (c0 : 0 < c) (c1 : c ≤ 1000000) (hn : (n : Int) = if a < b then (b - a - 1) / c + 1 else 0) : RgC a b c n := by
  refine ⟨by omega, by omega, ?_, ?_⟩
  · have hs : Builtin.Range.rangeSize a b c = (n : Int) := by
      unfold Builtin.Range.rangeSize
      rw [if_pos (by omega), hn]
    have hle : (n : Int) ≤ 1000001 := by
      rw [hn]
      split
      · have := Int.ediv_le_self c (show 0 ≤ b - a - 1 by omega)
        omega
      · omega
    unfold Builtin.Range.small
    rw [hs]
    simp only [Builtin.Range.rangeFitsLong, Bool.and_eq_true, Bool.or_eq_true, decide_eq_true_eq, beq_iff_eq, show c > 0 from c0, if_true]
    omega
  · unfold Builtin.Range.rangeSize
    rw [if_pos (by omega), hn]
end TK

namespace TK
open PySem
/-- by which of the first k pieces something was taken -/
def posF (came : List Bool) (k : Nat) : List Int := ((List.range k).filter fun j => came.getD j false).map fun (j : Nat) => (j : Int) + 1
def ownP (e c : Int) (n : Nat) : List Int := ((List.range n).filter fun (j : Nat) => decide ((c + ((j : Int) + 1)) % e = 0)).map fun (j : Nat) => (j : Int) + 1
theorem pos_succ (came : List Bool) (k : Nat) : posF came (k + 1) = posF came k ++ if came.getD k false then [(k : Int) + 1] else [] := by
  unfold posF
  rw [List.range_succ, List.filter_append, List.map_append]
  congr 1
  by_cases h : came.getD k false = true
  · rw [List.filter_cons_of_pos (p := fun j => came.getD j false) h, if_pos h]
    rfl
  · rw [List.filter_cons_of_neg (p := fun j => came.getD j false) h, if_neg h]
    rfl
theorem pos_len (came : List Bool) (k : Nat) : (posF came k).length ≤ k := by
  unfold posF
  rw [List.length_map]
  have := List.length_filter_le (fun j => came.getD j false) (List.range k)
  rw [List.length_range] at this
  exact this
theorem own_succ (e c : Int) (n : Nat) : ownP e c (n + 1) = ownP e c n ++ if (c + ((n : Int) + 1)) % e = 0 then [(n : Int) + 1] else [] := by
  unfold ownP
  rw [List.range_succ, List.filter_append, List.map_append]
  congr 1
  by_cases h : (c + ((n : Int) + 1)) % e = 0
  · rw [if_pos h]; simp [List.filter, h]
  · rw [if_neg h]; simp [List.filter, h]
theorem rgC_succ (a c : Int) (n : Nat) : rgC a c (n + 1) = rgC a c n ++ [a + (n : Nat) * c] := by
  unfold rgC
  rw [List.range_succ, List.map_append]
  rfl
theorem rg_own {e c : Int} (he : 2 ≤ e) (c0 : 0 ≤ c) (c1 : c ≤ e - 1) : ∀ n : Nat, rgC (e - c) e (((n : Int) + c) / e).toNat = ownP e c n
  | 0 => by
    rw [show ((0 : Nat) : Int) + c = c by omega, Int.ediv_eq_zero_of_lt c0 (by omega)]
    rfl
  | n + 1 => by
    have ih := rg_own he c0 c1 n
    have hn : 0 ≤ ((n : Int) + c) / e := Int.ediv_nonneg (by omega) (by omega)
    rw [own_succ, ← ih, show ((n + 1 : Nat) : Int) + c = (n : Int) + c + 1 by omega]
    by_cases h : (c + ((n : Int) + 1)) % e = 0
    · have h' : ((n : Int) + c + 1) % e = 0 := by rw [show (n : Int) + c + 1 = c + ((n : Int) + 1) by omega]; exact h
      rw [if_pos h, div_step0 (by omega) h', show (((n : Int) + c) / e + 1).toNat = (((n : Int) + c) / e).toNat + 1 by omega, rgC_succ]
      congr 2
      have d := Int.mul_ediv_add_emod ((n : Int) + c + 1) e
      rw [h', div_step0 (by omega) h', Int.mul_add] at d
      have d2 : ((((n : Int) + c) / e).toNat : Int) * e = e * (((n : Int) + c) / e) := by
        rw [Int.toNat_of_nonneg hn, Int.mul_comm]
      omega
    · have h' : ¬ ((n : Int) + c + 1) % e = 0 := by rw [show (n : Int) + c + 1 = c + ((n : Int) + 1) by omega]; exact h
      rw [if_neg h, div_stepN (by omega) h', List.append_nil]
theorem filter_iff {p q : Nat → Bool} {n : Nat} : (List.range n).filter p = (List.range n).filter q ↔ ∀ j, j < n → p j = q j := by
  constructor
  · intro h j hj
    have m := List.mem_range.mpr hj
    have e : j ∈ (List.range n).filter p ↔ j ∈ (List.range n).filter q := by rw [h]
    rw [List.mem_filter, List.mem_filter] at e
    rw [Bool.eq_iff_iff]
    exact ⟨fun z => (e.mp ⟨m, z⟩).2, fun z => (e.mpr ⟨m, z⟩).2⟩
  · intro h
    apply List.filter_congr
    intro j hj
    exact h j (List.mem_range.mp hj)
/-- the places are the same just where the taker takes the same -/
theorem rg_agree {e c : Int} (he : 2 ≤ e) (c0 : 0 ≤ c) (c1 : c ≤ e - 1) (came : List Bool) : decide (rgC (e - c) e (((came.length : Int) + c) / e).toNat = posF came came.length) = agreeB e c came := by
  rw [rg_own he c0 c1, Bool.eq_iff_iff, decide_eq_true_iff, agree_iff]
  unfold ownP posF
  have inj : ∀ a b : List Nat, a.map (fun (j : Nat) => (j : Int) + 1) = b.map (fun (j : Nat) => (j : Int) + 1) ↔ a = b := fun a b => List.map_inj_right (fun x y h => by omega)
  rw [inj, filter_iff]
  constructor
  · intro h k b hb
    obtain ⟨hk, e1⟩ := List.getElem?_eq_some_iff.mp hb
    have := h k hk
    rw [this]
    simp [List.getD, hb]
  · intro h k hk
    have := h k came[k] (List.getElem?_eq_getElem hk)
    rw [← this]
    simp [List.getD, hk]
/-- of all takers those of the first j everys -/
def allTo (j : Nat) : List (Int × Int) := (List.range j).flatMap rowT
theorem allTo_succ (j : Nat) : allTo (j + 1) = allTo j ++ rowT j := by
  unfold allTo
  rw [List.range_succ, List.flatMap_append]
  simp
theorem rowT_len (j : Nat) : (rowT j).length = j + 2 := by simp [rowT]
theorem rowT_get {j c : Nat} (h : c < j + 2) : (rowT j)[c]? = some (((j + 2 : Nat) : Int), (c : Int)) := by
  unfold rowT
  rw [List.getElem?_map, List.getElem?_range h]
  rfl
/-- of what came only what came by places from i on -/
def geB (i : Nat) : Option Nat → Bool
  | none => true
  | some j => decide (i ≤ j)
theorem cameF_eq (seen : List (Option Nat)) (i : Nat) : cameF seen i = (seen.filter (geB i)).map fun o => decide (o = some i) := by
  unfold cameF
  congr 1
theorem ge_step (seen : List (Option Nat)) (i : Nat) : (seen.filter (geB i)).filter (fun o => decide (o ≠ some i)) = seen.filter (geB (i + 1)) := by
  rw [List.filter_filter]
  apply List.filter_congr
  intro o _
  cases o with
  | none => rfl
  | some j =>
    show (decide (some j ≠ some i) && decide (i ≤ j)) = decide (i + 1 ≤ j)
    rw [Bool.eq_iff_iff]
    simp
    omega
theorem ge_zero (seen : List (Option Nat)) : seen.filter (geB 0) = seen := by
  rw [List.filter_eq_self]
  intro o _
  cases o <;> simp [geB]
/-! how long one must look -/
def knAt (r : List (Int × Int)) (i : Nat) : Int := match r[i]? with
  | some x => passF (r.take i) (ptk x)
  | none => 0
def knL (r : List (Int × Int)) : List Int := (List.range r.length).map (knAt r)
structure IsMax (L : List Int) (m : Int) : Prop where
  mem : m ∈ L
  le : ∀ y ∈ L, y ≤ m
theorem IsMax.uniq {L : List Int} {m n : Int} (h : IsMax L m) (g : IsMax L n) : m = n := by
  have := h.le n g.mem
  have := g.le m h.mem
  omega
theorem knAt_take {r : List (Int × Int)} {k i : Nat} (h : i < k) : knAt (r.take k) i = knAt r i := by
  unfold knAt
  rw [List.getElem?_take, if_pos h, List.take_take, Nat.min_eq_left (Nat.le_of_lt h)]
theorem kn_mem {r : List (Int × Int)} {y : Int} : y ∈ knL r ↔ ∃ i, i < r.length ∧ knAt r i = y := by
  unfold knL
  rw [List.mem_map]
  constructor
  · rintro ⟨i, hi, e⟩
    exact ⟨i, List.mem_range.mp hi, e⟩
  · rintro ⟨i, hi, e⟩
    exact ⟨i, List.mem_range.mpr hi, e⟩
theorem kn_take {r : List (Int × Int)} {k : Nat} (hk : k ≤ r.length) {y : Int} : y ∈ knL (r.take k) ↔ ∃ i, i < k ∧ knAt r i = y := by
  rw [kn_mem, List.length_take, Nat.min_eq_left hk]
  constructor
  · rintro ⟨i, hi, e⟩
    exact ⟨i, hi, by rw [← knAt_take hi]; exact e⟩
  · rintro ⟨i, hi, e⟩
    exact ⟨i, hi, by rw [knAt_take hi]; exact e⟩
/-- longer rows are known no sooner -/
theorem kn_mono {r : List (Int × Int)} {j k : Nat} (hjk : j ≤ k) (hk : k ≤ r.length) {m n : Int} (hm : IsMax (knL (r.take j)) m) (hn : IsMax (knL (r.take k)) n) : m ≤ n := by
  obtain ⟨i, hi, e⟩ := (kn_take (by omega)).mp hm.mem
  exact hn.le m ((kn_take hk).mpr ⟨i, by omega, e⟩)
/-- known, all are one; a piece fewer, not -/
theorem kn_sizes {r : List (Int × Int)} (hr : ∀ ec ∈ r, ec ∈ allT) {n : Int} (hn : IsMax (knL r) n) :
    1 ≤ n ∧ (fitsF (seenF r n.toNat) r.length).map List.length = List.replicate r.length 1 ∧ (fitsF (seenF r (n - 1).toNat) r.length).map List.length ≠ List.replicate r.length 1 := by
  have ok : ∀ ec ∈ r, okT ec := fun ec h => okT_of (hr ec h)
  have each : ∀ (m : Nat) (i : Nat) (x : Int × Int), r[i]? = some x → ((fitsF (seenF r m) r.length).map List.length)[i]? = some (fitT (ownF x.1 x.2 (comeF r i (m : Int)).toNat)).length := by
    intro m i x hx
    have hi := (List.getElem?_eq_some_iff.mp hx).1
    unfold fitsF
    rw [List.getElem?_map, List.getElem?_map, List.getElem?_range hi]
    show some (fitT (cameF (seenF r m) i)).length = _
    rw [(came_own r ok i x.1 x.2 hx m).2]
  obtain ⟨i, hi, e⟩ := kn_mem.mp hn.mem
  have hx := List.getElem?_eq_getElem hi
  obtain ⟨x, hxe⟩ : ∃ x, r[i] = x := ⟨_, rfl⟩
  rw [hxe] at hx
  have e2 : passF (r.take i) (ptk x) = n := by
    unfold knAt at e
    rw [hx] at e
    exact e
  have xa := hr x (List.mem_of_getElem? hx)
  have px := ptk_pos xa
  have n1 : 1 ≤ n := by
    have := pass_ge (r.take i) (ptk x) (take_ok ok i) px
    omega
  refine ⟨n1, ?_, ?_⟩
  · apply List.ext_getElem?
    intro j
    by_cases hj : j < r.length
    · have hy := List.getElem?_eq_getElem hj
      obtain ⟨y, hye⟩ : ∃ y, r[j] = y := ⟨_, rfl⟩
      rw [hye] at hy
      have ya := hr y (List.mem_of_getElem? hy)
      rw [each _ j y hy, List.getElem?_replicate, if_pos hj]
      congr 1
      apply fit_one ya
      have le := hn.le (knAt r j) (kn_mem.mpr ⟨j, hj, rfl⟩)
      have e3 : knAt r j = passF (r.take j) (ptk y) := by
        unfold knAt
        rw [hy]
      rw [e3] at le
      have := (come_ge r ok j (Nat.le_of_lt hj) (ptk y) n (ptk_pos ya)).mpr le
      rw [show ((n.toNat : Nat) : Int) = n by omega]
      omega
    · rw [List.getElem?_eq_none (by simp [fitsF]; omega), List.getElem?_eq_none (by simp; omega)]
  · intro h
    have h1 := each (n - 1).toNat i x hx
    rw [h, List.getElem?_replicate, if_pos hi] at h1
    refine fit_more xa ?_ (Option.some.inj h1).symm
    rw [show (((n - 1).toNat : Nat) : Int) = n - 1 by omega]
    have h0 := (came_own r ok i x.1 x.2 hx (n - 1).toNat).1
    rw [show (((n - 1).toNat : Nat) : Int) = n - 1 by omega] at h0
    rcases Int.lt_or_le (comeF r i (n - 1)) (ptk x) with z | z
    · omega
    · have := (come_ge r ok i (Nat.le_of_lt hi) (ptk x) (n - 1) px).mp z
      omega
end TK

set_option maxRecDepth 100000
/-! enumerate(list, start=k), as a rule of the layer -/
namespace TK
open PySem PySem.Spec PyProof.Rows L2
section
variable {M : Model} {A : Around} {E : Value → Shared → Prop} {s : Shared} {env : Env}
theorem callWith_typeKwB {pos : Pos} {T : String} {first : List Value} {args : List (Bool × Sem Value)} {keywords : List (Option Str × Sem Value)} {Q : Value → Shared → Prop}
    (h1 : args.any (·.1) = false) (h2 : keywords.any (·.1.isNone) = false)
    (h : wpAny M A (evalArgs (.type T) true args keywords) (fun a s₁ => wpAny M A (call (.type T) (first ++ a.pos) a.kw) Q E s₁) E s) :
    wpAny M A (callWith pos (.type T) first args keywords) Q E s := by
  unfold callWith
  refine wpAny_bind (wpAny_holding (wpAny_mono h (fun a s₁ q => wpAny_bind (wpAny_standAt ?_)) fun _ _ x => x))
  simp only [h1, h2, Bool.or_false]
  refine wpAny_bind (wpAny_pure ?_)
  exact wpAny_bind (wpAny_mono q (fun r s₂ hr => wpAny_bind (wpAny_holding (wpAny_point (wpAny_pure hr)))) fun _ _ x => x)
theorem callWith_typeKw {pos : Pos} {T : String} {e : Expr} {rest : List Expr} {kws : List Keyword} {Q : Value → Shared → Prop}
    (h : wpAny M A (spliced (backTo pos (starEach (e :: rest) env))) (fun vs s₁ => wpAny M A (evalAll ((backToKw pos (keywordEach kws env)).map (·.2)))
      (fun kvs s₂ => wpAny M A (call (.type T) vs (((backToKw pos (keywordEach kws env)).filterMap (·.1)).zip kvs)) Q E s₂) E s₁) E s)
    (h1 : backTo pos (starEach (e :: rest) env) = (false, eval e env) :: backTo pos (starEach rest env))
    (h2 : (backTo pos (starEach (e :: rest) env)).any (·.1) = false)
    (h3 : (backToKw pos (keywordEach kws env)).all (·.1.isSome) = true)
    (h4 : (backToKw pos (keywordEach kws env)).any (·.1.isNone) = false) :
    wpAny M A (callWith pos (.type T) [] (backTo pos (starEach (e :: rest) env)) (backToKw pos (keywordEach kws env))) Q E s := by
  refine callWith_typeKwB h2 h4 ?_
  rw [h1] at h ⊢
  exact evalArgs_kwB h3 h
end
/-- the list at a, each item in a new pair, counted from k -/
def ItEs (K : PySem.W.Frag) (a : Addr) (k : Int) : It where
  go := fun i H => ∃ (xs : List V) (x : V), SqL K H a xs ∧ xs[i]? = some x
  yld := fun i H v H' => ∃ T x, v = .ref T ∧ H T = none ∧ H' = upd H T (.tup [.int (k + (i : Nat)), x]) ∧ ∀ xs, SqL K H a xs → xs[i]? = some x
  stop := fun i H => ∃ xs : List V, SqL K H a xs ∧ xs.length ≤ i
theorem turn_enumS {P : Program} {w : World} {K : PySem.W.Frag} {elts : List Expr} {kk : Nat} {tpos : Pos} (a e it : Addr) (k : Int) :
    Turn P w K (.Tuple elts kk tpos) (ItEs K a k) [e, it] e (fun i h => (∃ old, IsEnum h e it (k + ((i : Nat) : Int)) old) ∧ h.IsListIter it a i ∧ e ≠ it ∧ a ≠ it ∧ a ≠ e) where
  mem := by simp
  obj := fun i h st b hb => by
    obtain ⟨⟨old, he⟩, ⟨o, ho, hc, hd⟩, _⟩ := st
    rcases (show b = e ∨ b = it by simpa using hb) with z | z
    · subst z
      exact ⟨_, he, fun v q => nomatch q⟩
    · subst z
      exact ⟨o, ho, fun v q => by rw [hd] at q; cases q⟩
  keep := fun i h h' st k => by
    obtain ⟨⟨old, he⟩, ⟨o, ho, r⟩, hne⟩ := st
    exact ⟨⟨old, k e (by simp) _ he⟩, ⟨o, k it (by simp) o ho, r⟩, hne⟩
  item := by
    intro X hP hw hK hc i pins s σ H E I hf st hg
    subst hP hw hK
    obtain ⟨⟨old, he⟩, hit, n1, n2, n3⟩ := st
    obtain ⟨xs, x, hq, hx⟩ := hg
    obtain ⟨its, rv, p, hz⟩ := I.list hq
    obtain ⟨u, hu, ru⟩ := rv.get hx
    have le : e < s.heap.objs.size := Heap.lt_size he
    have li : it < s.heap.objs.size := by
      obtain ⟨_, q, _⟩ := hit
      exact Heap.lt_size q
    have hil : i < its.toArray.size := by
      rw [List.size_toArray]
      exact (List.getElem?_eq_some_iff.mp hu).1
    refine wpAny_pyNext_enum_itemC (c := k + (i : Int)) (Draws.list (A := X.A.in1) (show X.A.in1.handled = none from I.ok.hd hc) it a n2 its.toArray) he ⟨hit, p.isList⟩ hil n1 (fun z => ?_) fun y h' tk hy ho hs' hT hsz hk => ?_
    · rcases (show e = it ∨ e = a by simpa using z) with z | z
      · exact n1 z
      · exact n3 z.symm
    have ey : y = u := by
      have q1 : its[i]? = some y := by simpa using hy
      exact Option.some.inj (q1.symm.trans hu)
    subst ey
    refine ⟨_, rfl, wpAny_letOwnedTupleGo_enum (s := { s with heap := h', toks := tk + 1 }) ho fun h2 he' sb => ?_⟩
    have hT2 : h2.get? s.heap.objs.size = some { cls := .type "tuple", data := .seq #[.int (k + (i : Int)) tk, y] } := (sb.2 _ (Nat.ne_of_gt le)).trans hT
    have new : ObjOk X.prog X.w (upd H s.heap.objs.size (.tup [.int (k + (i : Nat)), x])) h2 s.heap.objs.size (.tup [.int (k + (i : Nat)), x]) :=
      ⟨by show 2 ≤ sizeLine; decide, [.int (k + (i : Int)) tk, y], .cons ⟨_, rfl⟩ (.cons ru .nil), ⟨_, hT2, rfl, _, rfl⟩⟩
    have I1 : Inv X pins σ (upd H s.heap.objs.size (.tup [.int (k + (i : Nat)), x])) { s with heap := h2, toks := tk + 1 } :=
      I.turnedNew (ch := [e, it]) (fun b ob hb q => (sb.2 b fun z => hb (by simp [z])).trans (hk b ob (fun z => hb (by simp [z])) (fun z => hb (by simp [z])) q)) hf (Nat.le_refl _) new
    refine ⟨.ref s.heap.objs.size, _, I1, rfl, ⟨_, x, rfl, I.hok.fresh (Nat.le_refl _), rfl, fun ys hy => by rw [I.list_inj hy hq]; exact hx⟩, ⟨⟨y, ?_⟩, ?_, n1, n2, n3⟩, fun b hb => ?_⟩
    · rw [show k + ((i + 1 : Nat) : Int) = k + (i : Int) + 1 by omega]
      exact he'
    · obtain ⟨o, ho, r⟩ := hs'.1
      exact ⟨o, (sb.2 it (Ne.symm n1)).trans ho, r⟩
    · have lb : b < s.heap.objs.size := by
        rcases (show b = e ∨ b = it by simpa using hb) with z | z
        · rw [z]; exact le
        · rw [z]; exact li
      rw [upd_ne (Nat.ne_of_lt lb)]
      exact (hf b hb).1
  done := by
    intro X hP hw hK hc i pins s σ H E I hf st hg
    subst hP hw hK
    obtain ⟨⟨old, he⟩, hit, n1, n2, n3⟩ := st
    obtain ⟨xs, hq, hx⟩ := hg
    obtain ⟨its, rv, p, hz⟩ := I.list hq
    obtain ⟨f0, f1, f2, f3, f4, f5⟩ := hf it (by simp)
    have hl := rv.length
    exact nextEnumL_end (I.ok.hd hc) he hit p.isList (by simp; omega) fun h' eb => ⟨rfl, I.turned (t' := s.toks) (fun b o hb q => eb b o hb q) f0 f1 f3 f4 f5⟩
  self := fun A i s Q E st h => by
    obtain ⟨⟨_, he⟩, _⟩ := st
    exact wpAny_pyIter_enum he h
where
  nextEnumL_end {prog : Program} {w : World} {A : Around} {E : Value → Shared → Prop} {s : Shared} {e it t : Addr} {i : Nat} {c : Int} {vs : Array Value} {old : Value} {Q : Option Value → Shared → Prop} (hh : A.handled = none)
    (he : IsEnum s.heap e it c old) (hi : s.heap.IsListIter it t i) (ht : s.heap.IsList t vs) (hx : vs[i]? = none)
    (k : ∀ h', Heap.ExtBut it s.heap h' → Q none { s with heap := h' }) : wpAny (model prog w) A (pyNext (.ref e)) Q E s := by
    have ty : s.TypeIs (.ref e) "enumerate" := ⟨_, he, rfl⟩
    unfold pyNext
    refine wpAny_bind (wpAny_attempt (wpAny_callSpecial?_slot (name := Str.ofString "__next__") ty F.slot_enumerate_next
      (wpAny_call_entry F.slot_enumerate_next ty F.entry_enumerate_next ?_ (F.args_enumerate_next_1 _))))
    show wpAny _ _ (field (.ref e) 2 >>= _) _ _ s
    refine wpAny_bind (wpAny_field he rfl (x := .ref it) rfl ?_)
    refine wpAny_bind (wpAny_nextOf_list_end hh hi ht hx fun h1 x eb xo => ?_)
    obtain ⟨o, ho, hc⟩ := xo
    exact wpAny_bind (wpAny_isInstance (T := "StopIteration") (b := true) ⟨o, ho, hc⟩ isSubtype_stop (wpAny_pure (k _ eb)))
def iEnumS (K : PySem.W.Frag) (ta tk : TA) : TI := fun σ H R => ta σ H fun vs H1 => tk σ H1 fun zs H2 => ∃ a xs k, vs = [.ref a] ∧ zs = [.int k] ∧ SqL K H2 a xs ∧ 0 ≤ k ∧ k < 1000000 ∧ R (ItEs K a k) H2
theorem pi_enumS {X : Cx} {e : Expr} {kws : List Keyword} {ta tk : TA} {p pos tpos : Pos} {elts : List Expr} {kk : Nat} (hg : Gl X "enumerate") (hm : X.mg "enumerate" = none) (ha : PA X [e] ta) (hk : PK X kws tk)
    (h1 : backTo pos (starEach [e] X.env) = (false, eval e X.env) :: backTo pos (starEach [] X.env) := by rfl) (h2 : (backTo pos (starEach [e] X.env)).any (·.1) = false := by rfl)
    (h3 : (backToKw pos (keywordEach kws X.env)).all (·.1.isSome) = true := by rfl) (h4 : (backToKw pos (keywordEach kws X.env)).any (·.1.isNone) = false := by rfl) (h5 : (backToKw pos (keywordEach kws X.env)).filterMap (·.1) = [Str.ofString "start"] := by rfl) :
    PI X (.Tuple elts kk tpos) (.Call (.Name "enumerate" p) [e] kws pos) (iEnumS X.K ta tk) := by
  refine ⟨fun pins s σ H R I h => ?_⟩
  refine wpAny_Call_Name_kw (ld_blt I hg hm boot_enumerate ?_)
  refine callWith_typeKw (thn (ha.run pos pins s σ H _ I h) fun us s1 ⟨vs, H1, I1, r1, q1⟩ => thn (hk.run pos pins s1 σ H1 _ I1 q1) fun ws s2 ⟨zs, H2, I2, r2, q2⟩ => ?_) h1 h2 h3 h4
  rw [h5]
  obtain ⟨a, xs, k, ex, ez, hq, k0, k1, q⟩ := q2
  subst ex ez
  rw [Vals.ref1 r1]
  obtain ⟨u, rfl, t, rfl⟩ := r2.one
  obtain ⟨its, rv, pt, hz⟩ := I2.list hq
  have la : a < s2.heap.objs.size := pt.lt
  refine enum_begins_start (begins_list a its.toArray) pt.isList (by omega) (by omega) fun h' he hit hsz hk => wpAny_pyIter_enum he ?_
  have I3 : Inv X pins σ H2 { s2 with heap := h' } := I2.kept (t' := s2.toks) hk
  refine ⟨s2.heap.objs.size + 1, [s2.heap.objs.size + 1, s2.heap.objs.size], _, _, H2, rfl, I3, turn_enumS a (s2.heap.objs.size + 1) s2.heap.objs.size k,
    ⟨⟨.none, by rw [show k + ((0 : Nat) : Int) = k by omega]; exact he⟩, ⟨_, hit, rfl, rfl⟩, Nat.succ_ne_self _, Nat.ne_of_lt la, Nat.ne_of_lt (Nat.lt_succ_of_lt la)⟩, fun b hb => ?_, q⟩
  have hle : s2.heap.objs.size ≤ b := by
    rcases (show b = s2.heap.objs.size + 1 ∨ b = s2.heap.objs.size by simpa using hb) with z | z
    · rw [z]; exact Nat.le_add_right _ _
    · rw [z]; exact Nat.le_refl _
  exact I2.fpOk hle (I2.hok.fresh hle)
theorem walk_enumS {K : PySem.W.Frag} {a : Addr} {xs : List V} {k : Int} : Walk (ItEs K a k) xs.length (fun H => SqL K H a xs) (YPair (fun i => some (.int (k + (i : Nat)))) (fun i => xs[i]?)) := by
  refine ⟨fun i H hi h => ⟨xs, xs[i], h, List.getElem?_eq_getElem hi⟩, fun H h => ⟨xs, h, Nat.le_refl _⟩, fun i H v H' hi h y => ?_⟩
  obtain ⟨T, x, e1, e2, e3, e4⟩ := y
  exact ⟨T, _, x, e1, e2, e3, rfl, e4 xs h⟩
end TK

namespace TK
theorem pass1_le {x : Int × Int} (ok : okT x) {m : Int} (h : 1 ≤ m) : pass1 x m ≤ 2 * m := by
  obtain ⟨o1, o2, o3, o4⟩ := ok
  have : (x.2 + m - 1) / (x.1 - 1) < m + 1 := by
    apply Int.ediv_lt_of_lt_mul (by omega)
    have h1 : m * 1 ≤ m * (x.1 - 1) := Int.mul_le_mul_of_nonneg_left (by omega) (by omega)
    rw [Int.add_mul]
    omega
  unfold pass1
  omega
theorem pass_le : ∀ (r : List (Int × Int)) (m : Int), (∀ ec ∈ r, okT ec) → 1 ≤ m → passF r m ≤ 2 ^ r.length * m
  | [], m, _, _ => by simp [passF]
  | (e, c) :: r, m, ok, hm => by
    have ih := pass_le r m (fun x hx => ok x (by simp [hx])) hm
    have h1 := pass_ge r m (fun x hx => ok x (by simp [hx])) hm
    have h2 := pass1_le (ok (e, c) (by simp)) (show 1 ≤ passF r m by omega)
    have e1 : passF ((e, c) :: r) m = pass1 (e, c) (passF r m) := rfl
    rw [e1, List.length_cons, Int.pow_succ, Int.mul_assoc, Int.mul_comm 2 m, ← Int.mul_assoc]
    omega
theorem pow8 {k : Nat} (h : k ≤ 8) : (2 : Int) ^ k ≤ 256 := by
  have : k = 0 ∨ k = 1 ∨ k = 2 ∨ k = 3 ∨ k = 4 ∨ k = 5 ∨ k = 6 ∨ k = 7 ∨ k = 8 := by omega
  rcases this with rfl | rfl | rfl | rfl | rfl | rfl | rfl | rfl | rfl <;> decide
theorem ptk_le {y : Int × Int} (hy : y ∈ allT) : ptk y ≤ 80 := by
  obtain ⟨b1, b2, b3, b4⟩ := mem_allT.mp hy
  unfold ptk
  split
  · omega
  · split <;> omega
theorem knAt_le {r : List (Int × Int)} (hr : ∀ ec ∈ r, ec ∈ allT) (hl : r.length ≤ 8) {i : Nat} (hi : i < r.length) : 1 ≤ knAt r i ∧ knAt r i ≤ 20480 := by
  have hx := List.getElem?_eq_getElem hi
  obtain ⟨x, hxe⟩ : ∃ x, r[i] = x := ⟨_, rfl⟩
  rw [hxe] at hx
  have xa := hr x (List.mem_of_getElem? hx)
  have p1 := ptk_pos xa
  have p2 := ptk_le xa
  have ok := take_ok (fun ec h => okT_of (hr ec h)) i
  have h1 := pass_le (r.take i) (ptk x) ok p1
  have h2 := pass_ge (r.take i) (ptk x) ok p1
  have h3 := pow8 (k := (r.take i).length) (by rw [List.length_take]; omega)
  have h4 : (2 : Int) ^ (r.take i).length * ptk x ≤ 256 * ptk x := Int.mul_le_mul_of_nonneg_right h3 (by omega)
  unfold knAt
  rw [hx]
  show 1 ≤ passF (r.take i) (ptk x) ∧ passF (r.take i) (ptk x) ≤ 20480
  omega
theorem kn_le {r : List (Int × Int)} (hr : ∀ ec ∈ r, ec ∈ allT) (hl : r.length ≤ 8) {m : Int} (h : IsMax (knL r) m) : 1 ≤ m ∧ m ≤ 20480 := by
  obtain ⟨i, hi, e⟩ := kn_mem.mp h.mem
  rw [← e]
  exact knAt_le hr hl hi
theorem come_take : ∀ (r : List (Int × Int)) (i : Nat) (n : Int), comeF (r.take i) i n = comeF r i n
  | r, 0, n => by rw [come_zero, come_zero]
  | [], i + 1, n => rfl
  | (e, c) :: r, i + 1, n => by
    show comeF ((e, c) :: r.take i) (i + 1) n = _
    unfold comeF
    exact come_take r i _
/-- all but the left over -/
theorem taken_init (r : List (Int × Int)) (n : Int) : (takenF r n).dropLast.sum = n - comeF r r.length n := by
  have h1 := sum_taken r n
  have e : takenF r n = (takenF r n).dropLast ++ [comeF r r.length n] := by
    have e2 : (takenF r n).take (r.length + 1) = takenF r n := List.take_of_length_le (by rw [len_takenF]; exact Nat.le_refl _)
    rw [List.take_add_one, taken_last] at e2
    have e3 : (takenF r n).dropLast = (takenF r n).take r.length := by
      rw [List.dropLast_eq_take, len_takenF]
      rfl
    rw [e3]
    exact e2.symm
  rw [e, List.sum_append] at h1
  simp at h1
  omega
/-- what comes to the last when all are known -/
theorem kn_last {r : List (Int × Int)} (hr : ∀ ec ∈ r, ec ∈ allT) {k : Nat} (hk : r.length = k + 1) {x : Int × Int} (hx : r[k]? = some x) {m : Int} (h : IsMax (knL r) m) :
    ptk x ≤ comeF r k m ∧ ∀ m', IsMax (knL (r.take k)) m' → m' < m → comeF r k m = ptk x := by
  have ok : ∀ ec ∈ r, okT ec := fun ec h => okT_of (hr ec h)
  have xa := hr x (List.mem_of_getElem? hx)
  have p1 := ptk_pos xa
  have ek : knAt r k = passF (r.take k) (ptk x) := by
    unfold knAt
    rw [hx]
  refine ⟨(come_ge r ok k (by omega) (ptk x) m p1).mpr ?_, fun m' hm' hlt => ?_⟩
  · rw [← ek]
    exact h.le _ (kn_mem.mpr ⟨k, by omega, rfl⟩)
  · obtain ⟨i, hi, e⟩ := kn_mem.mp h.mem
    have : i = k := by
      rcases Nat.lt_or_ge i k with z | z
      · have := hm'.le (knAt r i) ((kn_take (by omega)).mpr ⟨i, z, rfl⟩)
        omega
      · omega
    subst this
    rw [← e, ek]
    obtain ⟨h1, h2⟩ := who_pass (r.take i) (r.drop i) (ptk x) (take_ok ok i)
    rw [List.take_append_drop, List.length_take, Nat.min_eq_left (by omega)] at h2
    exact h2
theorem kn_one (x : Int × Int) {m : Int} (h : IsMax (knL [x]) m) : m = ptk x := by
  have : m ∈ [ptk x] := h.mem
  exact List.mem_singleton.mp this
end TK

set_option maxRecDepth 100000
set_option maxHeartbeats 2000000
/-! zip over a tuple and a list, as a rule of the layer -/
namespace TK
open PySem PySem.Spec PyProof.Rows L2
def zm1 (t : Addr) : Obj := { cls := .type "tuple_iterator", data := .fields #[.ref t, .int 0 0] }
def zm2 (l : Addr) : Obj := { cls := .type "list_iterator", data := .fields #[.ref l, .int 0 0] }
def zm3 (n : Nat) : Obj := { cls := .type "tuple", data := .seq #[.ref n, .ref (n + 1)] }
def zm4 : Obj := { cls := .type "tuple", data := .seq #[.none, .none] }
def zm5 (n : Nat) : Obj := { cls := .type "zip", data := .fields #[.none, .bool false, .bool false, .ref (n + 2), .ref (n + 3)] }
def zmAll (h : Heap) (t l : Addr) : Heap := ((((h.push (zm1 t)).push (zm2 l)).push (zm3 h.objs.size)).push zm4).push (zm5 h.objs.size)
theorem newZipM (t l : Addr) (xs ys : Array Value) :
    Meets (Builtin.«zip.__new__» ⟨[.type "zip", .ref t, .ref l], []⟩) (fun _ R s => s.heap.IsTuple t xs ∧ s.heap.IsList l ys ∧
      R (.ok (.ret (.ref (s.heap.objs.size + 4)))) { s with heap := zmAll s.heap t l }) :=
  .of_wp fun prog w A R s hyp => by
    obtain ⟨hp, g, d, tk, os⟩ := s
    obtain ⟨h1, h2, hR⟩ := hyp
    have hsub := sub_zip
    have k1 : Heap.IsTuple (Shared.heap ⟨hp, g, d, tk, os⟩) t xs := h1
    have k2 : Heap.IsList (Shared.heap ⟨hp.push { cls := .type "tuple_iterator", data := .fields #[.ref t, .int 0 0] }, g, d, tk, os⟩) l ys := by
      obtain ⟨o, ho, r⟩ := h2
      exact ⟨o, Heap.get?_push_of_some _ ho, r⟩
    wp_walk using wpAny_pyIter_tuple k1, wpAny_pyIter_list k2
    refine ⟨_, rfl, ?_⟩
    simp only [Heap.size_push] at hR ⊢
    exact hR
section
variable {prog : Program} {w : World} {A : Around} {E : Value → Shared → Prop} {s : Shared}
theorem callZipM {t l : Addr} {xs ys : Array Value} {Q : Value → Shared → Prop} (h1 : s.heap.IsTuple t xs) (h2 : s.heap.IsList l ys)
    (k : ∀ h', IsZip h' (s.heap.objs.size + 4) (s.heap.objs.size + 2) (s.heap.objs.size + 3) .none → IsTupOf2 h' (s.heap.objs.size + 2) (.ref s.heap.objs.size) (.ref (s.heap.objs.size + 1)) →
      IsTupOf2 h' (s.heap.objs.size + 3) .none .none → h'.IsTupleIter s.heap.objs.size t 0 → h'.IsListIter (s.heap.objs.size + 1) l 0 →
      (∀ c o, s.heap.get? c = some o → h'.get? c = some o) → Q (.ref (s.heap.objs.size + 4)) { s with heap := h' }) :
    wpAny (model prog w) A (call (.type "zip") [.ref t, .ref l]) Q E s := by
  refine callType_new F.called_zip (by decide) (F.typeCall_zip_2 _ _) (F.newCall_zip_2 _ _) (fun obj => F.args_object_init_3 obj _ _) F.entry_zip_new
    (newZipM t l xs ys) ⟨h1, h2, ?_⟩
  have z1 : (s.heap.push (zm1 t)).objs.size = s.heap.objs.size + 1 := Heap.size_push ..
  have z2 : ((s.heap.push (zm1 t)).push (zm2 l)).objs.size = s.heap.objs.size + 2 := by rw [Heap.size_push, z1]
  have z3 : (((s.heap.push (zm1 t)).push (zm2 l)).push (zm3 s.heap.objs.size)).objs.size = s.heap.objs.size + 3 := by rw [Heap.size_push, z2]
  have z4 : ((((s.heap.push (zm1 t)).push (zm2 l)).push (zm3 s.heap.objs.size)).push zm4).objs.size = s.heap.objs.size + 4 := by rw [Heap.size_push, z3]
  have g1 : (s.heap.push (zm1 t)).get? s.heap.objs.size = some (zm1 t) := Heap.get?_push_size _ rfl
  have g2 : ((s.heap.push (zm1 t)).push (zm2 l)).get? (s.heap.objs.size + 1) = some (zm2 l) := by
    rw [← z1]
    exact Heap.get?_push_size _ rfl
  have g3 : (((s.heap.push (zm1 t)).push (zm2 l)).push (zm3 s.heap.objs.size)).get? (s.heap.objs.size + 2) = some (zm3 s.heap.objs.size) := by
    rw [← z2]
    exact Heap.get?_push_size _ rfl
  have g4 : ((((s.heap.push (zm1 t)).push (zm2 l)).push (zm3 s.heap.objs.size)).push zm4).get? (s.heap.objs.size + 3) = some zm4 := by
    rw [← z3]
    exact Heap.get?_push_size _ rfl
  have g5 : (zmAll s.heap t l).get? (s.heap.objs.size + 4) = some (zm5 s.heap.objs.size) := by
    rw [← z4]
    exact Heap.get?_push_size _ rfl
  show _ ∧ _
  exact ⟨⟨_, g5, rfl⟩, k _ g5 (Heap.get?_push_of_some _ (Heap.get?_push_of_some _ g3)) (Heap.get?_push_of_some _ g4)
    ⟨_, Heap.get?_push_of_some _ (Heap.get?_push_of_some _ (Heap.get?_push_of_some _ (Heap.get?_push_of_some _ g1))), rfl, rfl⟩ ⟨_, Heap.get?_push_of_some _ (Heap.get?_push_of_some _ (Heap.get?_push_of_some _ g2)), rfl, rfl⟩
    fun c o x => Heap.get?_push_of_some _ (Heap.get?_push_of_some _ (Heap.get?_push_of_some _ (Heap.get?_push_of_some _ (Heap.get?_push_of_some _ x))))⟩
end
/-- the tuple at a and the list at b, the items in new pairs -/
def ItZm (K : PySem.W.Frag) (a b : Addr) : It where
  go := fun i H => ∃ (xs ys : List V) (x y : V), SqT K H a xs ∧ SqL K H b ys ∧ xs[i]? = some x ∧ ys[i]? = some y
  yld := fun i H v H' => ∃ T x y, v = .ref T ∧ H T = none ∧ H' = upd H T (.tup [x, y]) ∧ (∀ xs, SqT K H a xs → xs[i]? = some x) ∧ ∀ ys, SqL K H b ys → ys[i]? = some y
  stop := fun i H => ∃ xs ys : List V, SqT K H a xs ∧ SqL K H b ys ∧ i ≤ xs.length ∧ i ≤ ys.length ∧ (i = xs.length ∨ i = ys.length)
theorem turn_zipM {P : Program} {w : World} {K : PySem.W.Frag} {elts : List Expr} {kk : Nat} {tpos : Pos} {a b z TI TO i1 i2 : Addr} (S : ZipSep2 z TI TO i1 i2 [i1, a] [i2, b]) :
    Turn P w K (.Tuple elts kk tpos) (ItZm K a b) [z, TI, TO, i1, i2] z (fun i h => IsZip h z TI TO .none ∧ IsTupOf2 h TI (.ref i1) (.ref i2) ∧ (∃ x y, IsTupOf2 h TO x y) ∧ h.IsTupleIter i1 a i ∧ h.IsListIter i2 b i) where
  mem := by simp
  obj := fun i h st c hc => by
    obtain ⟨hz, hTI, ⟨x, y, hTO⟩, ⟨o1, e1, _, d1⟩, ⟨o2, e2, _, d2⟩⟩ := st
    have e' : c = z ∨ c = TI ∨ c = TO ∨ c = i1 ∨ c = i2 := by simpa using hc
    rcases e' with rfl | rfl | rfl | rfl | rfl
    · exact ⟨_, hz, fun v q => nomatch q⟩
    · exact ⟨_, hTI, fun v q => nomatch q⟩
    · exact ⟨_, hTO, fun v q => nomatch q⟩
    · exact ⟨o1, e1, fun v q => by rw [d1] at q; cases q⟩
    · exact ⟨o2, e2, fun v q => by rw [d2] at q; cases q⟩
  keep := fun i h h' st k => by
    obtain ⟨hz, hTI, ⟨x, y, hTO⟩, h1, h2⟩ := st
    exact ⟨k z (by simp) _ hz, k TI (by simp) _ hTI, ⟨x, y, k TO (by simp) _ hTO⟩, h1.at fun o q => k i1 (by simp) o q, h2.at fun o q => k i2 (by simp) o q⟩
  item := by
    intro X hP hw hK hc i pins s σ H E I hf st hg
    subst hP hw hK
    obtain ⟨hz, hTI, ⟨x0, y0, hTO⟩, h1, h2⟩ := st
    obtain ⟨xs, ys, x, y, hqx, hqy, hx, hy⟩ := hg
    obtain ⟨its, rv, p, _⟩ := I.tuple hqx
    obtain ⟨its2, rv2, p2, _⟩ := I.list hqy
    obtain ⟨u, hu, ru⟩ := rv.get hx
    obtain ⟨u2, hu2, ru2⟩ := rv2.get hy
    have hzl : z < s.heap.objs.size := Heap.lt_size hz
    have hh : X.A.in1.handled = none := I.ok.hd hc
    have na : a ≠ i1 := fun e => by
      obtain ⟨o, ho, c1, _⟩ := h1
      obtain ⟨o', ho', c2, _⟩ := p
      rw [e, ho] at ho'
      cases ho'
      rw [c1] at c2
      exact absurd c2 (by decide)
    have nb : b ≠ i2 := fun e => by
      obtain ⟨o, ho, c1, _⟩ := h2
      obtain ⟨o', ho', c2, _⟩ := p2.isList
      rw [e, ho] at ho'
      cases ho'
      rw [c1] at c2
      exact absurd c2 (by decide)
    refine wpAny_pyNext_zipD2_item S (Draws.tuple hh i1 a na its.toArray) (Draws.list hh i2 b nb its2.toArray) hz hTI hTO ⟨h1, p⟩ ⟨h2, p2.isList⟩ (by simpa using (List.getElem?_eq_some_iff.mp hu).1) (by simpa using (List.getElem?_eq_some_iff.mp hu2).1) fun x1 x2 h' tk q1 q2 z' TO' h1' h2' hT hsz hk => ?_
    have e1 : x1 = u := by
      have q : its[i]? = some x1 := by simpa using q1
      exact Option.some.inj (q.symm.trans hu)
    have e2 : x2 = u2 := by
      have q : its2[i]? = some x2 := by simpa using q2
      exact Option.some.inj (q.symm.trans hu2)
    subst e1 e2
    refine ⟨_, rfl, wpAny_letOwnedTupleGo_zip (s := { s with heap := h', toks := tk }) z' fun h'' z'' sb => ?_⟩
    have hT2 : h''.get? s.heap.objs.size = some { cls := .type "tuple", data := .seq #[x1, x2] } := (sb.2 _ (Nat.ne_of_gt hzl)).trans hT
    have new : ObjOk X.prog X.w (upd H s.heap.objs.size (.tup [x, y])) h'' s.heap.objs.size (.tup [x, y]) :=
      ⟨by show 2 ≤ sizeLine; decide, [x1, x2], .cons ru (.cons ru2 .nil), ⟨_, hT2, rfl, _, rfl⟩⟩
    have I1 : Inv X pins σ (upd H s.heap.objs.size (.tup [x, y])) { s with heap := h'', toks := tk } :=
      I.turnedNew (ch := [z, TI, TO, i1, i2]) (fun c o hb q => (sb.2 c (fun q' => hb (by simp [q']))).trans (hk c o (fun q' => hb (by simp [q'])) (fun q' => hb (by simp [q'])) (fun q' => hb (by simp [q'])) (fun q' => hb (by simp [q'])) q)) hf (Nat.le_refl _) new
    refine ⟨.ref s.heap.objs.size, _, I1, rfl, ⟨_, x, y, rfl, I.hok.fresh (Nat.le_refl _), rfl, fun l hl => by rw [I.tuple_inj hl hqx]; exact hx, fun l hl => by rw [I.list_inj hl hqy]; exact hy⟩, ⟨z'', ?_, ⟨x1, x2, ?_⟩, ?_, ?_⟩, fun c hcm => ?_⟩
    · exact (sb.2 _ S.TIz).trans (hk _ _ S.TIz S.TITO S.TIi1 S.TIi2 hTI)
    · exact (sb.2 _ S.TOz).trans TO'
    · exact h1'.1.at fun o q => (sb.2 _ (Ne.symm S.zi1)).trans q
    · exact h2'.1.at fun o q => (sb.2 _ (Ne.symm S.zi2)).trans q
    · have hlt : c < s.heap.objs.size := by
        have e' : c = z ∨ c = TI ∨ c = TO ∨ c = i1 ∨ c = i2 := by simpa using hcm
        rcases e' with rfl | rfl | rfl | rfl | rfl
        · exact hzl
        · exact Heap.lt_size hTI
        · exact Heap.lt_size hTO
        · obtain ⟨_, e1, _⟩ := h1; exact Heap.lt_size e1
        · obtain ⟨_, e2, _⟩ := h2; exact Heap.lt_size e2
      rw [upd_ne (Nat.ne_of_lt hlt)]
      exact (hf c hcm).1
  done := by
    intro X hP hw hK hc i pins s σ H E I hf st hg
    subst hP hw hK
    obtain ⟨hz, hTI, ⟨x0, y0, hTO⟩, h1, h2⟩ := st
    obtain ⟨xs, ys, hqx, hqy, hi1, hi2, hend⟩ := hg
    obtain ⟨its, rv, p, _⟩ := I.tuple hqx
    obtain ⟨its2, rv2, p2, _⟩ := I.list hqy
    have l1 := rv.length
    have l2 := rv2.length
    have hh : X.A.in1.handled = none := I.ok.hd hc
    have na : a ≠ i1 := fun e => by
      obtain ⟨o, ho, c1, _⟩ := h1
      obtain ⟨o', ho', c2, _⟩ := p
      rw [e, ho] at ho'
      cases ho'
      rw [c1] at c2
      exact absurd c2 (by decide)
    have nb : b ≠ i2 := fun e => by
      obtain ⟨o, ho, c1, _⟩ := h2
      obtain ⟨o', ho', c2, _⟩ := p2.isList
      rw [e, ho] at ho'
      cases ho'
      rw [c1] at c2
      exact absurd c2 (by decide)
    exact wpAny_pyNext_zipD2_end S (Draws.tuple hh i1 a na its.toArray) (Draws.list hh i2 b nb its2.toArray) hz hTI hTO ⟨h1, p⟩ ⟨h2, p2.isList⟩ (by simp; omega) (by simp; omega) (by simp; omega) fun h' tk hk => ⟨rfl, I.turnedL (ch := [z, TI, TO, i1, i2]) (fun c o hb q =>
      hk c o (fun q' => hb (by simp [q'])) (fun q' => hb (by simp [q'])) (fun q' => hb (by simp [q'])) (fun q' => hb (by simp [q'])) q) hf⟩
  self := fun A i s Q E st h => wpAny_pyIter_zip st.1 h
theorem sepM {n a b : Nat} (la : a < n) (lb : b < n) : ZipSep2 (n + 4) (n + 2) (n + 3) n (n + 1) [n, a] [n + 1, b] where
  TIz := by show ¬ (n + 2 : Nat) = n + 4; omega
  TOz := by show ¬ (n + 3 : Nat) = n + 4; omega
  TITO := by show ¬ (n + 2 : Nat) = n + 3; omega
  TIi1 := by show ¬ (n + 2 : Nat) = n; omega
  mem1 := List.mem_cons_self
  zf1 := fun h => by rcases (show (n + 4 : Nat) = n ∨ (n + 4 : Nat) = a by simpa using h) with z | z <;> omega
  Tf1 := fun h => by rcases (show (n + 3 : Nat) = n ∨ (n + 3 : Nat) = a by simpa using h) with z | z <;> omega
  TIi2 := by show ¬ (n + 2 : Nat) = n + 1; omega
  mem2 := List.mem_cons_self
  zf2 := fun h => by rcases (show (n + 4 : Nat) = n + 1 ∨ (n + 4 : Nat) = b by simpa using h) with z | z <;> omega
  Tf2 := fun h => by rcases (show (n + 3 : Nat) = n + 1 ∨ (n + 3 : Nat) = b by simpa using h) with z | z <;> omega
  sep1_2 := fun h => by rcases (show (n : Nat) = n + 1 ∨ (n : Nat) = b by simpa using h) with z | z <;> omega
  sep2_1 := fun h => by rcases (show (n + 1 : Nat) = n ∨ (n + 1 : Nat) = a by simpa using h) with z | z <;> omega
def iZipM (K : PySem.W.Frag) (ta : TA) : TI := fun σ H R => ta σ H fun vs H1 => ∃ a b xs ys, vs = [.ref a, .ref b] ∧ SqT K H1 a xs ∧ SqL K H1 b ys ∧ R (ItZm K a b) H1
theorem pi_zipM {X : Cx} {e e2 : Expr} {ta : TA} {p pos tpos : Pos} {elts : List Expr} {kk : Nat} (hg : Gl X "zip") (hm : X.mg "zip" = none) (ha : PA X [e, e2] ta)
    (hs : starEach [e, e2] X.env = (false, eval e X.env) :: starEach [e2] X.env := by rfl) (hpl : (backTo pos (starEach [e2] X.env)).any (·.1) = false := by rfl) :
    PI X (.Tuple elts kk tpos) (.Call (.Name "zip" p) [e, e2] [] pos) (iZipM X.K ta) := by
  refine ⟨fun pins s σ H R I h => ?_⟩
  refine Call_ (ld_blt I hg hm PyProof.Rows.boot_zip (PyProof.Rows.callWith_type1 (thn (ha.run pos pins s σ H _ I h) fun us s1 ⟨vs, H1, I1, r1, q1⟩ => ?_) hs hpl))
  obtain ⟨a, b, xs, ys, ex, hqx, hqy, q⟩ := q1
  subst ex
  cases r1 with
  | cons r rr =>
    cases rr with
    | cons r' rr =>
      cases rr
      cases r
      cases r'
      obtain ⟨its, rv, p1, _⟩ := I1.tuple hqx
      obtain ⟨its2, rv2, p2, _⟩ := I1.list hqy
      have la : a < s1.heap.objs.size := by
        obtain ⟨o, ho, _⟩ := p1
        exact Heap.lt_size ho
      have lb : b < s1.heap.objs.size := p2.lt
      refine callZipM p1 p2.isList fun h' hz hTI hTO h1 h2 hk => wpAny_pyIter_zip hz ?_
      have I2 : Inv X pins σ H1 { s1 with heap := h' } := I1.kept (t' := s1.toks) hk
      have S : ZipSep2 (s1.heap.objs.size + 4) (s1.heap.objs.size + 2) (s1.heap.objs.size + 3) s1.heap.objs.size (s1.heap.objs.size + 1) [s1.heap.objs.size, a] [s1.heap.objs.size + 1, b] := sepM la lb
      refine ⟨s1.heap.objs.size + 4, [s1.heap.objs.size + 4, s1.heap.objs.size + 2, s1.heap.objs.size + 3, s1.heap.objs.size, s1.heap.objs.size + 1], _, _, H1, rfl, I2, turn_zipM S, ⟨hz, hTI, ⟨_, _, hTO⟩, h1, h2⟩, fun c hcm => ?_, q⟩
      have e' : c = s1.heap.objs.size + 4 ∨ c = s1.heap.objs.size + 2 ∨ c = s1.heap.objs.size + 3 ∨ c = s1.heap.objs.size ∨ c = s1.heap.objs.size + 1 := by simpa using hcm
      have hle : s1.heap.objs.size ≤ c := by
        rcases e' with z | z | z | z | z <;> rw [z]
        · exact Nat.le_add_right _ _
        · exact Nat.le_add_right _ _
        · exact Nat.le_add_right _ _
        · exact Nat.le_refl _
        · exact Nat.le_add_right _ _
      exact I1.fpOk hle (I1.hok.fresh hle)
theorem walk_zipM {K : PySem.W.Frag} {a b : Addr} {xs ys : List V} {n : Nat} (hn : n = min xs.length ys.length) : Walk (ItZm K a b) n (fun H => SqT K H a xs ∧ SqL K H b ys) (YPair (fun i => xs[i]?) (fun i => ys[i]?)) := by
  subst hn
  refine ⟨fun i _ hi q => ?_, fun _ q => ⟨xs, ys, q.1, q.2, by omega, by omega, by omega⟩, fun i H v H' _ q y => ?_⟩
  · have h1 : i < xs.length := by omega
    have h2 : i < ys.length := by omega
    exact ⟨xs, ys, xs[i], ys[i], q.1, q.2, by simp [h1], by simp [h2]⟩
  · obtain ⟨T, x, z, h1, h2, h3, h4, h5⟩ := y
    exact ⟨T, x, z, h1, h2, h3, h4 xs q.1, h5 ys q.2⟩
end TK

set_option maxRecDepth 100000
set_option exponentiation.threshold 5000
/-! tables of sets, larger ones: what is put in is new each time -/
namespace TK
open PySem PySem.Spec PyProof.Rows L2
/-- masks of tables of up to 1228 elements -/
def MaskW (m : Nat) : Prop := m = 7 ∨ m = 31 ∨ m = 127 ∨ m = 511 ∨ m = 2047
/-- the places met from b on, n of them, as bits -/
def orb (m : Nat) : Nat → Nat → Nat → Nat × Nat
  | 0, x, acc => (x, acc)
  | n + 1, x, acc => orb m n ((x * 5 + 1) % (m + 1)) (acc ||| 2 ^ x)
theorem orb_at (m : Nat) : ∀ (n b acc : Nat), (orb m n (lcgN m b) acc).1 = lcgN m (b + n) ∧ ∀ j, (orb m n (lcgN m b) acc).2.testBit j = true → acc.testBit j = true ∨ ∃ k, b ≤ k ∧ k < b + n ∧ lcgN m k = j
  | 0, b, acc => ⟨rfl, fun j h => .inl h⟩
  | n + 1, b, acc => by
    obtain ⟨h1, h2⟩ := orb_at m n (b + 1) (acc ||| 2 ^ lcgN m b)
    refine ⟨?_, fun j h => ?_⟩
    · rw [show b + (n + 1) = b + 1 + n by omega]
      exact h1
    · rcases h2 j h with z | ⟨k, k1, k2, k3⟩
      · rw [Nat.testBit_or, Nat.testBit_two_pow, Bool.or_eq_true, decide_eq_true_eq] at z
        rcases z with z | z
        · exact .inl z
        · exact .inr ⟨b, Nat.le_refl _, by omega, z⟩
      · exact .inr ⟨k, by omega, by omega, k3⟩
theorem orb7 : orb 7 8 0 0 = (0, 2 ^ 8 - 1) := by decide +kernel
theorem orb31 : orb 31 32 0 0 = (0, 2 ^ 32 - 1) := by decide +kernel
theorem orb127 : orb 127 128 0 0 = (0, 2 ^ 128 - 1) := by decide +kernel
theorem orb511 : orb 511 512 0 0 = (0, 2 ^ 512 - 1) := by decide +kernel
theorem orb2047 : orb 2047 2048 0 0 = (0, 2 ^ 2048 - 1) := by decide +kernel
theorem orb_all {m : Nat} (hm : MaskW m) : orb m (m + 1) 0 0 = (0, 2 ^ (m + 1) - 1) := by
  rcases hm with rfl | rfl | rfl | rfl | rfl
  · exact orb7
  · exact orb31
  · exact orb127
  · exact orb511
  · exact orb2047
theorem round_met {m : Nat} (hm : MaskW m) : lcgN m (m + 1) = 0 ∧ ∀ j, j ≤ m → ∃ b, b ≤ m ∧ lcgN m b = j := by
  have e := orb_all hm
  obtain ⟨h1, h2⟩ := orb_at m (m + 1) 0 0
  have e' : orb m (m + 1) (lcgN m 0) 0 = (0, 2 ^ (m + 1) - 1) := e
  rw [e'] at h1 h2
  refine ⟨by rw [Nat.zero_add] at h1; exact h1.symm, fun j hj => ?_⟩
  rcases h2 j (by rw [Nat.testBit_two_pow_sub_one]; exact decide_eq_true (by omega)) with z | ⟨k, _, k2, k3⟩
  · rw [Nat.zero_testBit] at z
    cases z
  · exact ⟨k, by omega, k3⟩
theorem met_again {m : Nat} (hm : MaskW m) (k : Nat) : lcgN m (m + 1 + k) = lcgN m k := by
  induction k with
  | zero => exact (round_met hm).1
  | succ k ih =>
    show (lcgN m (m + 1 + k) * 5 + 1) % (m + 1) = _
    rw [ih]
    rfl
theorem from_anywhere {m : Nat} (hm : MaskW m) {i j : Nat} (hi : i ≤ m) (hj : j ≤ m) : ∃ k, k ≤ m ∧ lcgI m i k = j := by
  obtain ⟨x, hx, ex⟩ := (round_met hm).2 i hi
  obtain ⟨y, hy, ey⟩ := (round_met hm).2 j hj
  subst ex
  by_cases c : x ≤ y
  · exact ⟨y - x, by omega, by rw [lcgN_add, show x + (y - x) = y by omega]; exact ey⟩
  · exact ⟨m + 1 + y - x, by omega, by rw [lcgN_add, show x + (m + 1 + y - x) = m + 1 + y by omega, met_again hm]; exact ey⟩
theorem run_at {m : Nat} (hm : MaskW m) (h : Int) {j : Nat} (hj : j ≤ m) : ∃ n, n ≤ m + 12 ∧ runI m (SetTable.bits h) n = j := by
  obtain ⟨k, hk, e⟩ := from_anywhere hm (runI_le m (SetTable.bits h) 12) hj
  refine ⟨12 + k, by omega, ?_⟩
  rw [runI_tail (bits_lt h)]
  exact e
theorem way_in (m : Nat) (h : Int) (k : Nat) : way m h k ≤ m := by
  have hi : SetTable.bits h % (m + 1) ≤ m := by
    have := Nat.mod_lt (SetTable.bits h) (show 0 < m + 1 by omega)
    omega
  have r := runEnd_bd hi
  have q := nth_in (m := m) k (runAt m (SetTable.bits h % (m + 1)) (SetTable.bits h)) (by
    show SetTable.bits h % (m + 1) + (SetTable.runEnd m _ - _) ≤ m
    omega)
  show (nth m _ k).j ≤ m
  omega
/-- a table, clean, of n elements -/
structure Tb (t : SetTable) (n : Nat) : Prop where
  asc : Ris t.place.toList
  clean : t.dummies = #[]
  many : t.place.size = n
  mw : MaskW t.mask
  low : ∀ x ∈ t.place.toList, x ≤ t.mask
/-- where the way of a hash first comes to nobody -/
theorem Tb.gap {t : SetTable} {n : Nat} (T : Tb t n) (hn : n ≤ t.mask) (h : Int) : ∃ K, K < 10 * SetTable.turns t.mask ∧ way t.mask h K ∉ t.place.toList ∧ ∀ k, k < K → way t.mask h k ∈ t.place.toList := by
  obtain ⟨j, hj, hfree⟩ := st_missing t.place.toList (t.mask + 1) (by rw [Array.length_toList, T.many]; omega)
  obtain ⟨r, hr, er⟩ := run_at T.mw h (show j ≤ t.mask by omega)
  obtain ⟨k, hk, ek⟩ := run_nth t.mask (SetTable.bits h) r
  have ew : way t.mask h k = j := by
    show (nth t.mask _ k).j = j
    rw [ek]
    exact er
  obtain ⟨K, a1, a2, a3⟩ := st_least (p := fun k => way t.mask h k ∉ t.place.toList) k (by rw [ew]; exact hfree)
  refine ⟨K, ?_, a2, fun k' hk' => Classical.not_not.mp (a3 k' hk')⟩
  unfold SetTable.turns
  omega
theorem Tb.put {t : SetTable} {n : Nat} (T : Tb t n) {j : Nat} (hj : j ≤ t.mask) (hn : j ∉ t.place.toList) : Tb (t.put j).1 (n + 1) := by
  have hsz : (t.put j).1.place.size = n + 1 := by
    rw [← Array.length_toList, put_place, len_ins _ (by rw [Array.length_toList]; exact (below_cut T.asc j).1), Array.length_toList, T.many]
  refine ⟨ris_insert T.asc fun e => hn (List.mem_of_getElem? (by rw [Array.getElem?_toList]; exact e)), put_dm T.clean j, hsz, T.mw, fun x hx => ?_⟩
  rw [put_place] at hx
  rcases mem_ins.1 hx with rfl | z
  · exact hj
  · exact T.low x z
/-! laying anew -/
structure Sit (m n : Nat) (ow : Array (Option Nat)) : Prop where
  wide : ow.size = m + 1
  each : ∀ k, k < n → ∃ j, j ≤ m ∧ oAt ow j = some k
  few : ∃ ps : List Nat, ps.length = n ∧ ∀ j, j ≤ m → oAt ow j ≠ none → j ∈ ps
theorem Sit.next {m n : Nat} {ow : Array (Option Nat)} (S : Sit m n ow) (hm : MaskW m) (hn : n ≤ m) (h : Int) : ∃ j, SetTable.layClean.free m ow (SetTable.turns m) (SetTable.bits h % (m + 1)) (SetTable.bits h) = some j ∧ Sit m (n + 1) (ow.setIfInBounds j (some n)) := by
  obtain ⟨ps, p1, p2⟩ := S.few
  obtain ⟨j, hj, hno⟩ := st_missing ps (m + 1) (by omega)
  have free : oAt ow j = none := Classical.byContradiction fun z => hno (p2 j (by omega) z)
  obtain ⟨r, hr, er⟩ := run_at hm h (show j ≤ m by omega)
  have ew : way m h (off m (SetTable.bits h % (m + 1)) (SetTable.bits h) r) = j := by
    show (nth m _ _).j = j
    rw [nth_off, itL_run]
    exact er
  obtain ⟨K, a1, a2, a3⟩ := st_least (p := fun k => oAt ow (way m h k) = none) _ (by rw [ew]; exact free)
  have hK := way_in m h K
  refine ⟨way m h K, free_spec m ow (SetTable.turns m) r _ _ K (by unfold SetTable.turns; omega) a1 (fun k hk => ?_) (Option.isNone_iff_eq_none.mpr a2), ?_⟩
  · cases z : (oAt ow (nth m (runAt m (SetTable.bits h % (m + 1)) (SetTable.bits h)) k).j).isNone with
    | false => rfl
    | true => exact absurd (Option.isNone_iff_eq_none.mp z) (a3 k hk)
  have inb : way m h K < ow.size := by rw [S.wide]; omega
  refine ⟨by rw [Array.size_setIfInBounds]; exact S.wide, fun k hk => ?_, way m h K :: ps, by rw [List.length_cons, p1], fun i hi e => ?_⟩
  · by_cases c : k = n
    · exact ⟨_, hK, by rw [c]; exact oAt_set_self _ inb⟩
    · obtain ⟨i, i1, i2⟩ := S.each k (by omega)
      refine ⟨i, i1, ?_⟩
      rw [oAt_set_ne _ fun z => by rw [z, a2] at i2; cases i2]
      exact i2
  · by_cases c : i = way m h K
    · rw [c]; exact List.mem_cons_self
    · rw [oAt_set_ne _ c] at e
      exact List.mem_cons_of_mem _ (p2 i hi e)
theorem Sit.all {m : Nat} (hm : MaskW m) : ∀ (hs : List Int) (n : Nat) (ow : Array (Option Nat)), Sit m n ow → n + hs.length ≤ m → ∃ ow', hs.foldl (stepF m) (some (ow, n)) = some (ow', n + hs.length) ∧ Sit m (n + hs.length) ow'
  | [], n, ow, S, _ => ⟨ow, rfl, S⟩
  | h :: hs, n, ow, S, hl => by
    rw [List.length_cons] at hl
    obtain ⟨j, e, S1⟩ := S.next hm (by omega) h
    obtain ⟨ow', f, S2⟩ := Sit.all hm hs (n + 1) _ S1 (by omega)
    rw [show n + 1 + hs.length = n + (h :: hs).length by rw [List.length_cons]; omega] at f S2
    refine ⟨ow', ?_, S2⟩
    rw [List.foldl_cons, stepF_some e]
    exact f
theorem laid_anew (t : SetTable) {hs : Array Int} {wanted M : Nat} (hw : SetTable.sizeAbove wanted - 1 = M) (hM : MaskW M) (hn : hs.size ≤ M) :
    ∃ t' order, t.relaid hs wanted = some (t', order) ∧ order.toList.Perm (List.range hs.size) ∧ Tb t' hs.size ∧ t'.mask = M ∧ t'.led = t.led ∧ t'.plain = t.plain := by
  have S0 : Sit M 0 (Array.replicate (M + 1) none) := ⟨by simp, fun k hk => by omega, [], rfl, fun j hj e => absurd (oAt_init hj) e⟩
  obtain ⟨ow, f, S⟩ := Sit.all hM hs.toList 0 _ S0 (by rw [Array.length_toList]; omega)
  rw [Nat.zero_add, Array.length_toList] at f S
  have hlay : SetTable.layClean M hs = some ow := by
    rw [layClean_eq, f]
    rfl
  obtain ⟨r1, r2⟩ := ris_live (fun j => ow.getD j none) (List.range (M + 1)) (by unfold Ris; exact List.pairwise_lt_range)
  have r1 : Ris ((liveOf M ow).map (·.1)) := r1
  have nd1 : ((liveOf M ow).map (·.1)).Nodup := List.Pairwise.imp (fun h => Nat.ne_of_lt h) r1
  have hlen : (liveOf M ow).length = hs.size := by
    obtain ⟨ps, p1, p2⟩ := S.few
    have up := nat_nodup_len ((liveOf M ow).map (·.1)) ps nd1 fun x hx => by
      obtain ⟨⟨y, k⟩, hq, rfl⟩ := List.mem_map.mp hx
      obtain ⟨b1, b2⟩ := (mem_live S.wide).1 hq
      exact p2 y b1 (by rw [b2]; exact nofun)
    have dn := nat_nodup_len (List.range hs.size) ((liveOf M ow).map (·.2)) List.nodup_range fun k hk => by
      obtain ⟨j, b1, b2⟩ := S.each k (List.mem_range.mp hk)
      exact List.mem_map.mpr ⟨(j, k), (mem_live S.wide).2 ⟨b1, b2⟩, rfl⟩
    rw [List.length_map] at up dn
    rw [List.length_range] at dn
    omega
  refine ⟨tabOf t M ow, ((liveOf M ow).map (·.2)).toArray, ?_, ?_, ⟨r1, rfl, ?_, hM, fun x hx => ?_⟩, rfl, rfl, rfl⟩
  · rw [relaid_eq, hw, hlay]
    rfl
  · refine perm_range hs.size _ (by show ((liveOf M ow).map (·.2)).length = _; rw [List.length_map]; exact hlen) fun k hk => ?_
    obtain ⟨j, b1, b2⟩ := S.each k hk
    exact List.mem_map.mpr ⟨(j, k), (mem_live S.wide).2 ⟨b1, b2⟩, rfl⟩
  · show ((liveOf M ow).map (·.1)).toArray.size = hs.size
    rw [List.size_toArray, List.length_map]
    exact hlen
  · have := List.mem_range.mp (r2 x hx)
    show x ≤ M
    omega
end TK

set_option maxRecDepth 100000
set_option maxHeartbeats 3200000
/-! sets of many tuples of ints, each put in once -/
namespace TK
open PySem PySem.Spec PyProof.Rows L2
/-- a new empty set -/
abbrev noSetT (w : World) : Obj := { cls := .type "set", dict := none, data := .set #[] 0 (.fresh 0 0 (!w.params.followText "set-order")) }
/-- the set at q: its tuples L, each with its place in the heap -/
structure SetW (P : Program) (w : World) (g : Heap) (q : Addr) (L : List (Addr × List Int)) (rs : Array (Int × Value)) (e : Nat) (u : SetTable) : Prop where
  obj : ∃ o, g.get? q = some o ∧ o.ExactSet ∧ o.data = .set rs e u
  ent : rs.toList = rowsOf P w L
  tab : Tb u L.length
  tup : ∀ p ∈ L, IsT P w g p.2 p.1
  pln : u.plain = true
  ord : w.params.followText "set-order" = true ∨ u.led = true
  air : L.length * 5 < u.mask * 3
  low : L.length ≤ 1000
theorem maskW_odd {m : Nat} (h : MaskW m) : m % 2 = 1 := by
  rcases h with rfl | rfl | rfl | rfl | rfl <;> rfl
theorem maskW_le {m : Nat} (h : MaskW m) : m ≤ 2047 := by
  rcases h with rfl | rfl | rfl | rfl | rfl <;> decide
theorem above5 : SetTable.sizeAbove (SetTable.grown 5) = 32 := by decide +kernel
theorem above19 : SetTable.sizeAbove (SetTable.grown 19) = 128 := by decide +kernel
theorem above77 : SetTable.sizeAbove (SetTable.grown 77) = 512 := by decide +kernel
theorem above307 : SetTable.sizeAbove (SetTable.grown 307) = 2048 := by decide +kernel
theorem grows {m n : Nat} (hm : MaskW m) (h1 : n * 5 < m * 3) (h2 : (n + 1) * 5 ≥ m * 3) (h3 : n + 1 ≤ 1000) :
    ∃ M, MaskW M ∧ SetTable.sizeAbove (SetTable.grown (n + 1)) = M + 1 ∧ M ≤ 2047 ∧ (n + 1) * 5 < M * 3 ∧ n + 1 ≤ m := by
  rcases hm with rfl | rfl | rfl | rfl | rfl
  · obtain rfl : n = 4 := by omega
    exact ⟨31, .inr (.inl rfl), above5, by decide, by decide, by decide⟩
  · obtain rfl : n = 18 := by omega
    exact ⟨127, .inr (.inr (.inl rfl)), above19, by decide, by decide, by decide⟩
  · obtain rfl : n = 76 := by omega
    exact ⟨511, .inr (.inr (.inr (.inl rfl))), above77, by decide, by decide, by decide⟩
  · obtain rfl : n = 306 := by omega
    exact ⟨2047, .inr (.inr (.inr (.inr rfl))), above307, by decide, by decide, by decide⟩
  · omega
section
variable {P : Program} {w : World} {A : Around} {E : Value → Shared → Prop} {s : Shared} {q : Addr} {L : List (Addr × List Int)} {rs : Array (Int × Value)} {e : Nat} {u : SetTable}
theorem rows_len {L : List (Addr × List Int)} {rs : Array (Int × Value)} (h : rs.toList = rowsOf P w L) : rs.size = L.length := by
  have z := congrArg List.length h
  rw [Array.length_toList] at z
  rw [z]
  exact List.length_map ..
theorem fits_of {n : Nat} (T : Tb u n) (h : n ≤ u.mask) : u.fits n = true := by
  unfold SetTable.fits SetTable.fill
  rw [T.clean, T.many]
  simp
  exact h
theorem SetW.fit (R : SetW P w s.heap q L rs e u) : u.fits rs.size = true := by
  rw [rows_len R.ent]
  exact fits_of R.tab (by have := R.air; omega)
theorem SetW.row (R : SetW P w s.heap q L rs e u) {i : Nat} {p : Addr × List Int} (h : L[i]? = some p) : rs[i]? = some (thash P w p.2, .ref p.1) := by
  rw [← Array.getElem?_toList, R.ent]
  show (L.map _)[i]? = _
  rw [List.getElem?_map, h]
  rfl
theorem SetW.odd (R : SetW P w s.heap q L rs e u) : ¬ u.gaveWay = true := by
  unfold SetTable.gaveWay
  rw [maskW_odd R.tab.mw]
  decide
theorem none_met (m : Nat) : ∀ (n : Nat) (p : SetTable.Probe), p.dummy = none → (nth m p n).dummy = none
  | 0, _, h => h
  | n + 1, p, h => none_met m n _ (by unfold adv; split <;> exact h)
/-- nobody equal is met: the search ends at the first gap -/
theorem seek (R : SetW P w s.heap q L rs e u) {x : Addr} {k : List Int} (hx : IsT P w s.heap k x) (new : ∀ p ∈ L, p.2 ≠ k) (hu : A.units < cLine) {N : Nat} (far : N < 10 * SetTable.turns u.mask)
    (gap : way u.mask (thash P w k) N ∉ u.place.toList) (full : ∀ c, c < N → way u.mask (thash P w k) c ∈ u.place.toList) {Q : SetFound → Shared → Prop} (fin : Q (.free (way u.mask (thash P w k) N) false) s) :
    ∀ (f c : Nat) (from_ : Option SetTable.Probe), from_.getD (u.probeStart (thash P w k)) = nth u.mask (u.probeStart (thash P w k)) c → c ≤ N → N - c < f → wpAny (model P w) A (setSearchFrom q (.ref x) (thash P w k) true f from_) Q E s
  | 0, _, _, _, _, hf => absurd hf (Nat.not_lt_zero _)
  | f + 1, c, from_, at_, hc, hf => by
    obtain ⟨o, got, exa, dat⟩ := R.obj
    rw [setSearchFrom_succ]
    refine wpAny_bind (wpAny_setState_of got dat R.fit ?_)
    dsimp only
    refine wp_if_neg R.odd ?_
    try (refine wpAny_bind (wpAny_pure ?_))
    rw [at_]
    have wj : ∀ n, (nth u.mask (nth u.mask (u.probeStart (thash P w k)) c) n).j = way u.mask (thash P w k) (c + n) := fun n => congrArg SetTable.Probe.j (nth_add u.mask c _ n).symm
    have ans := go_spec u R.tab.asc R.tab.clean (fun i => (rs[i]?.map (·.1)).getD 0) (thash P w k) (10 * SetTable.turns u.mask) (N - c) _ (none_met u.mask c _ rfl) (by omega)
      (fun n hn => by rw [wj]; exact full _ (by omega)) (by rw [wj, show c + (N - c) = N by omega]; exact gap)
    rcases ans with ⟨n, i, hn, hi, _, _, hgo⟩ | ⟨_, hgo⟩
    · have hp : u.probe (fun i => (rs[i]?.map (·.1)).getD 0) (thash P w k) (nth u.mask (u.probeStart (thash P w k)) c) = some (.candidate (way u.mask (thash P w k) (c + n)) i (nth u.mask (u.probeStart (thash P w k)) (c + (n + 1)))) := by
        rw [← wj, nth_add u.mask c]
        exact hgo
      rw [hp]
      dsimp only
      rw [wj] at hi
      have il : i < L.length := by
        have := (List.getElem?_eq_some_iff.mp hi).1
        rw [Array.length_toList, R.tab.many] at this
        exact this
      obtain ⟨p, hpi⟩ : ∃ p, L[i]? = some p := ⟨_, List.getElem?_eq_getElem il⟩
      have pm : p ∈ L := List.mem_of_getElem? hpi
      have nk : (decide (p.2 = k)) = false := decide_eq_false (new p pm)
      have on : wpAny (model P w) A (searchRest q (.ref x) (thash P w k) true f rs u (way u.mask (thash P w k) (c + n)) i (nth u.mask (u.probeStart (thash P w k)) (c + (n + 1)))) Q E s := by
        unfold searchRest
        rw [R.row hpi]
        dsimp only
        refine wpAny_bind (wpAny_holding (wpAny_eqBool_tuple hu (R.tup p pm) hx ?_))
        rw [nk]
        refine wpAny_bind (wpAny_setState_of got dat R.fit ?_)
        dsimp only
        refine wp_if_neg (by simp) ?_
        try (refine wpAny_bind (wpAny_pure ?_))
        rw [sameMem]
        dsimp only
        simp only [if_true, slot_live R.tab.asc hi, R.row hpi]
        refine wpAny_bind (wpAny_isSame_ref_self (wpAny_bind (wpAny_pure ?_)))
        simp only [if_true]
        refine wp_if_neg (by simp) ?_
        exact seek R hx new hu far gap full fin f (c + (n + 1)) _ rfl (by omega) (by omega)
      by_cases ld : u.led = true
      · refine wp_if_neg (by simp [ld]) ?_
        try (refine wpAny_bind (wpAny_pure ?_))
        exact on
      · refine wp_if_pos (by simp [ld]) ?_
        refine wpAny_bind (seen_tup hx (fun y hy => ?_) ?_)
        · obtain ⟨r, hr, er⟩ := List.mem_map.mp hy
          have hr2 : r ∈ rs.toList := by
            have : r ∈ rs ∧ r.1 = thash P w k := by simpa using hr
            simpa using this.1
          rw [R.ent] at hr2
          obtain ⟨p2, hp2, e2⟩ := List.mem_map.mp hr2
          exact ⟨p2.2, p2.1, by rw [← er, ← e2], R.tup p2 hp2⟩
        · refine wp_if_neg (by decide) ?_
          try (refine wpAny_bind (wpAny_pure ?_))
          exact on
    · have hp : u.probe (fun i => (rs[i]?.map (·.1)).getD 0) (thash P w k) (nth u.mask (u.probeStart (thash P w k)) c) = some (.empty (way u.mask (thash P w k) N) none) := by
        have z := wj (N - c)
        rw [show c + (N - c) = N by omega] at z
        rw [← z]
        exact hgo
      rw [hp]
      dsimp only
      exact wpAny_pure fin
/-- a larger table -/
theorem wider {o : Obj} (got : s.heap.get? q = some o) (exa : o.ExactSet) (dat : o.data = .set rs e u) (ent : rs.toList = rowsOf P w L) (tb : Tb u L.length) (full : L.length ≤ u.mask) (tup : ∀ p ∈ L, IsT P w s.heap p.2 p.1) (pln : u.plain = true)
    (od : w.params.followText "set-order" = true ∨ u.led = true) (low : L.length ≤ 1000) {want M : Nat} (hw : SetTable.sizeAbove want = M + 1) (hM : MaskW M) (hn : L.length * 5 < M * 3) {Q : Unit → Shared → Prop}
    (hQ : ∀ g' L' rs' e' u', Heap.SameBut q s.heap g' → SetW P w g' q L' rs' e' u' → L'.Perm L → Q () { s with heap := g' }) : wpAny (model P w) A (setRelay q want) Q E s := by
  have len := rows_len ent
  have fit : u.fits rs.size = true := by
    rw [len]
    exact fits_of tb full
  obtain ⟨u', order, er, pm, T, em, el, epl⟩ := laid_anew u (hs := rs.map (·.1)) (wanted := want) (by rw [hw]; rfl) hM (by rw [Array.size_map, len]; omega)
  rw [Array.size_map, len] at pm T
  obtain ⟨L2, r1, r2, _⟩ := order_rows L rs order ent pm
  have len2 : (order.filterMap (rs[·]?)).size = rs.size := by rw [rows_len r1, r2.length_eq, len]
  rw [setRelay_eq]
  refine wpAny_bind (wpAny_setState_of got dat fit ?_)
  dsimp only
  refine wp_if_neg (by have := maskW_le hM; rw [hw, sizeLine_eq]; omega) ?_
  try (refine wpAny_bind (wpAny_pure ?_))
  rw [er]
  dsimp only
  refine wpAny_bind ?_
  refine wp_if_neg (by rw [len2]; simp) ?_
  try (refine wpAny_bind (wpAny_pure ?_))
  refine wpAny_pure ?_
  dsimp only
  refine wpAny_storeSet_of got dat ?_ (by rw [len2, len, sizeLine_eq]; omega)
  have sb : Heap.SameBut q s.heap (s.heap.update q (Obj.putSet (order.filterMap (rs[·]?)) u')) := Heap.SameBut.update ..
  exact hQ _ L2 _ (e + 1) u' sb ⟨⟨_, store_at got dat, ⟨exa.1, exa.2.1, exa.2.2⟩, rfl⟩, r1, by rw [r2.length_eq]; exact T, fun p hp => isT_same (tup p (r2.mem_iff.mp hp)) got dat sb, by rw [epl]; exact pln, by rw [el]; exact od, by rw [r2.length_eq, em]; exact hn, by rw [r2.length_eq]; exact low⟩ r2
/-- one more -/
theorem add_new (R : SetW P w s.heap q L rs e u) {x : Addr} {k : List Int} (hx : IsT P w s.heap k x) (new : ∀ p ∈ L, p.2 ≠ k) (hu : A.units < cLine) (hfew : L.length + 1 ≤ 1000) {Q : Bool → Shared → Prop}
    (hQ : ∀ g' L' rs' e' u', Heap.SameBut q s.heap g' → SetW P w g' q L' rs' e' u' → L'.Perm ((x, k) :: L) → Q true { s with heap := g' }) : wpAny (model P w) A (setAddHashed q (.ref x) (thash P w k)) Q E s := by
  obtain ⟨o, got, exa, dat⟩ := R.obj
  have air := R.air
  have mle := maskW_le R.tab.mw
  obtain ⟨N, far, gap, full⟩ := R.tab.gap (by omega) (thash P w k)
  have hj := way_in u.mask (thash P w k) N
  unfold setAddHashed
  refine wpAny_holding ?_
  rw [show (100000 : Nat) = 99999 + 1 from rfl, setAddHashedIn_succ]
  refine wpAny_bind (wpAny_setState_of got dat R.fit ?_)
  dsimp only
  refine wp_if_neg (by simp [byScan, Value.scannable]) ?_
  try (refine wpAny_bind (wpAny_pure ?_))
  refine wpAny_bind ?_
  unfold setSearch
  refine seek R hx new hu far gap full ?_ 100000 0 none rfl (Nat.zero_le _) (by unfold SetTable.turns at far; omega)
  dsimp only
  refine wpAny_bind (wpAny_setState_of got dat R.fit ?_)
  dsimp only
  generalize way u.mask (thash P w k) N = j at gap hj
  have tb1 := R.tab.put hj gap
  have pl1 : (u.put j).1.plain = true := R.pln
  have od1 : w.params.followText "set-order" = true ∨ (u.put j).1.led = true := R.ord
  have mk1 : (u.put j).1.mask = u.mask := rfl
  have pos : (u.put j).2 = SetTable.below u.place j := rfl
  generalize u.put j = up at tb1 pl1 od1 mk1 pos ⊢
  obtain ⟨u1, n⟩ := up
  dsimp only at tb1 pl1 od1 mk1 pos ⊢
  first
    | (refine wpAny_bind ?_; refine wp_if_pos pl1 ?_; refine hashBy_tup hx ?_)
    | refine wp_if_pos pl1 (wpAny_bind (hashBy_tup hx ?_))
  simp only [if_true]
  have ent1 : (SetTable.insertAt rs n (thash P w k, Value.ref x)).toList = rowsOf P w (L.take n ++ (x, k) :: L.drop n) := by
    rw [SetTable.toList_insertAt, rows_put, R.ent]
  have pm := put_perm L n (x, k)
  generalize SetTable.insertAt rs n (thash P w k, Value.ref x) = rs1 at ent1 ⊢
  generalize L.take n ++ (x, k) :: L.drop n = L1 at ent1 pm
  have len1 : L1.length = L.length + 1 := pm.length_eq
  have size1 := rows_len ent1
  refine wpAny_bind (wpAny_storeSet_of got dat ?_ (by rw [size1, len1, sizeLine_eq]; omega))
  have sb : Heap.SameBut q s.heap (s.heap.update q (Obj.putSet rs1 u1)) := Heap.SameBut.update ..
  have got1 := store_at (es' := rs1) (t' := u1) got dat
  generalize s.heap.update q (Obj.putSet rs1 u1) = g1 at sb got1 ⊢
  have tup1 : ∀ p ∈ L1, IsT P w g1 p.2 p.1 := fun p hp => by
    rcases List.mem_cons.mp (pm.mem_iff.mp hp) with rfl | z
    · exact isT_same hx got dat sb
    · exact isT_same (R.tup p z) got dat sb
  rw [← len1] at tb1
  have fl : u1.fill = L1.length := by
    unfold SetTable.fill
    rw [tb1.clean, tb1.many]
    rfl
  by_cases tf : u1.tooFull = true
  · first
      | (refine wpAny_bind ?_; refine wp_if_pos (by simp [tf]) ?_)
      | (refine wp_if_pos (by simp [tf]) ?_; refine wpAny_bind ?_)
    have ful : (L.length + 1) * 5 ≥ u.mask * 3 := by
      unfold SetTable.tooFull at tf
      rw [decide_eq_true_eq, fl, len1, mk1] at tf
      exact tf
    obtain ⟨M, m1, m2, m3, m4, m5⟩ := grows R.tab.mw air ful hfew
    rw [rows_len R.ent]
    refine wider (s := { s with heap := g1 }) got1 ⟨exa.1, exa.2.1, exa.2.2⟩ rfl ent1 tb1 (by rw [len1, mk1]; exact m5) tup1 pl1 od1 (by rw [len1]; exact hfew) m2 m1 (by rw [len1]; exact m4) fun g2 L2 rs2 e2 u2 sb2 R2 pm2 => ?_
    exact wpAny_pure (hQ g2 L2 rs2 e2 u2 (sb.trans sb2) R2 (pm2.trans pm))
  · first
      | refine wp_if_neg (by simp [tf]) ?_
      | (refine wpAny_bind ?_; refine wp_if_neg (by simp [tf]) ?_; refine wpAny_pure ?_)
    refine wpAny_pure (hQ g1 L1 rs1 (e + 1) u1 sb ⟨⟨_, got1, ⟨exa.1, exa.2.1, exa.2.2⟩, rfl⟩, ent1, tb1, tup1, pl1, od1, ?_, by rw [len1]; exact hfew⟩ pm)
    unfold SetTable.tooFull at tf
    rw [decide_eq_true_eq, fl] at tf
    omega
end
end TK

set_option maxRecDepth 100000
set_option maxHeartbeats 3200000
/-! sorted(set(xs)), xs a rising list of many tuples of ints -/
namespace TK
open PySem PySem.Spec PyProof.Rows L2
section
variable {P : Program} {w : World} {A : Around} {E : Value → Shared → Prop} {s : Shared}
theorem SetW.stay {g g' : Heap} {q : Addr} {L : List (Addr × List Int)} {rs : Array (Int × Value)} {e : Nat} {u : SetTable} (R : SetW P w g q L rs e u) (hq : ∀ o, g.get? q = some o → g'.get? q = some o) (ht : ∀ p ∈ L, IsT P w g' p.2 p.1) : SetW P w g' q L rs e u := by
  obtain ⟨o, z, r⟩ := R.obj
  exact ⟨⟨o, hq o z, r⟩, R.ent, R.tab, ht, R.pln, R.ord, R.air, R.low⟩
theorem SetW.fresh {g : Heap} {q : Addr} (h : g.get? q = some (noSetT w)) : SetW P w g q [] #[] 0 (.fresh 0 0 (!w.params.followText "set-order")) :=
  ⟨⟨_, h, ⟨rfl, rfl, rfl⟩, rfl⟩, rfl, ⟨List.Pairwise.nil, rfl, rfl, .inl rfl, fun x hx => by cases hx⟩, fun p hp => (by cases hp), rfl, by
    show _ ∨ (!w.params.followText "set-order") = true
    cases w.params.followText "set-order"
    · exact .inr rfl
    · exact .inl rfl, by show 0 * 5 < 7 * 3; decide, by show 0 ≤ 1000; decide⟩
theorem take_more {α : Type} {l : List α} {i : Nat} {x : α} (h : l[i]? = some x) : (x :: l.take i).Perm (l.take (i + 1)) := by
  rw [List.take_add_one, h]
  exact (List.perm_append_singleton x (l.take i)).symm
/-- one after the other is put in -/
theorem put_all {I : Addr} {fp wr : List Addr} {G : Array GenState → Array GenState → Prop} {n : Nat} {Pv : Nat → Value → Prop} {St : Nat → Shared → Prop} {R : Result → Shared → Prop} (W : WalksS P w A.in1 I fp wr G n Pv St) (S : Addr) (away : S ∉ fp) (ks : List (Addr × List Int)) (hn : n = ks.length)
    (few : ks.length ≤ 1000) (nd : (ks.map (·.2)).Nodup) (vals : ∀ i v, Pv i v → ∃ p, ks[i]? = some p ∧ v = .ref p.1) (g0 : Heap) (tup : ∀ p ∈ ks, IsT P w g0 p.2 p.1) (noS : g0.get? S = none) (noW : ∀ b ∈ wr, g0.get? b = none) (hu : A.in1.units < cLine) :
    ∀ (k i : Nat) (s : Shared), n - i = k → i ≤ n → St i s → (∀ b o, g0.get? b = some o → s.heap.get? b = some o) → (∃ L rs e u, SetW P w s.heap S L rs e u ∧ L.Perm (ks.take i)) →
      (∀ s' L rs e u, Moved (S :: wr) G s s' → SetW P w s'.heap S L rs e u → L.Perm ks → R (.ok (.ret .none)) s') → codeAny (model P w) A (.builtin "set.update.loop" ⟨[.ref S, .ref I], []⟩) R s := by
  have offW : S ∉ wr := fun h => away (W.sub _ h)
  have more : ∀ b ∈ wr, b ∈ S :: wr := fun b hb => List.mem_cons_of_mem _ hb
  have keep : ∀ {s s' : Shared}, Moved wr G s s' → (∀ b o, g0.get? b = some o → s.heap.get? b = some o) → ∀ b o, g0.get? b = some o → s'.heap.get? b = some o := fun mv k0 b o z =>
    mv.heap b o (fun hb => by rw [noW b hb] at z; cases z) (k0 b o z)
  intro k
  induction k with
  | zero =>
    intro i s hk hi hst k0 ⟨L, rs, e, u, hS, pm⟩ hR
    obtain rfl : i = n := by omega
    refine codeAny_builtin F.entry_set_update_loop ?_
    rw [Around.under_plainId F.plain_set_update_loop _]
    show wpAny _ A.in1 (pyNext (.ref I) >>= _) _ _ s
    refine wpAny_bind (W.done s _ _ hst fun s' mv => ?_)
    show wpAny _ A.in1 (ret Value.none) _ _ s'
    have k1 := keep mv k0
    rw [hn, List.take_length] at pm
    exact wpAny_pure (hR s' L rs e u (mv.mono more) (hS.stay (fun o z => mv.heap S o offW z) fun p hp => isT_keep (tup p (pm.mem_iff.mp hp)) k1) pm)
  | succ k ih =>
    intro i s hk hi hst k0 ⟨L, rs, e, u, hS, pm⟩ hR
    have hlt : i < n := by omega
    refine codeAny_builtin F.entry_set_update_loop ?_
    rw [Around.under_plainId F.plain_set_update_loop _]
    show wpAny _ A.in1 (pyNext (.ref I) >>= _) _ _ s
    refine wpAny_bind (W.item i s _ _ hlt hst fun v s' hP hst' mv => ?_)
    obtain ⟨p, hp, rfl⟩ := vals i v hP
    have k1 := keep mv k0
    have sub : ∀ r ∈ L, r ∈ ks := fun r hr => List.mem_of_mem_take (pm.mem_iff.mp hr)
    have hS' : SetW P w s'.heap S L rs e u := hS.stay (fun o z => mv.heap S o offW z) fun r hr => isT_keep (tup r (sub r hr)) k1
    have hx : IsT P w s'.heap p.2 p.1 := isT_keep (tup p (List.mem_of_getElem? hp)) k1
    have new : ∀ r ∈ L, r.2 ≠ p.2 := fun r hr z => by
      obtain ⟨j, hj, ej⟩ := List.getElem_of_mem (pm.mem_iff.mp hr)
      rw [List.length_take] at hj
      have hj2 : ks[j]? = some r := by
        rw [List.getElem_take] at ej
        rw [List.getElem?_eq_getElem (by omega), ej]
      have a1 : (ks.map (·.2))[j]? = some p.2 := by rw [List.getElem?_map, hj2, ← z]; rfl
      have a2 : (ks.map (·.2))[i]? = some p.2 := by rw [List.getElem?_map, hp]; rfl
      obtain ⟨b1, e1⟩ := List.getElem?_eq_some_iff.mp a1
      obtain ⟨b2, e2⟩ := List.getElem?_eq_some_iff.mp a2
      exact List.pairwise_iff_getElem.mp nd j i b1 b2 (by omega) (e1.trans e2.symm)
    show wpAny _ A.in1 (holding [Value.ref p.1] (setAdd S (.ref p.1)) >>= _) _ _ s'
    refine wpAny_bind (wpAny_holding ?_)
    unfold setAdd
    refine wpAny_holding ?_
    refine wpAny_bind (wpAny_pyHash_tuple hu hx ?_)
    refine add_new (s := { s' with toks := s'.toks + (p.2.length + 1) }) hS' hx new hu (by rw [pm.length_eq, List.length_take]; omega) fun g' L' rs' e' u' sb hS2 pm2 => ?_
    have k2 : ∀ b o, g0.get? b = some o → g'.get? b = some o := fun b o z => (sb.2 b (fun y => by rw [y, noS] at z; cases z)).trans (k1 b o z)
    refine wpAny_pure ⟨plainId_quiet F.plain_set_update_loop _, ih (i + 1) _ (by omega) hlt (W.frame _ s' _ _ hst' (Nat.le_add_right _ _) fun b hb o z => ?_) k2 ⟨L', rs', e', u', hS2, pm2.trans ((pm.cons p).trans (take_more hp))⟩ fun s'' L2 rs2 e2 u2 mv2 hS3 pm3 => ?_⟩
    · rw [sb.2 b (fun y : b = S => away (by rw [← y]; exact hb))]
      exact z
    · refine hR s'' L2 rs2 e2 u2 (Moved.trans W.gtrans ((mv.mono more).then_heap (Nat.le_add_right _ _) fun b o hb z => ?_) mv2) hS3 pm3
      rw [sb.2 b (fun y : b = S => hb (by rw [y]; exact List.mem_cons_self))]
      exact z
/-- what the filling leaves -/
def FilledT (P : Program) (w : World) (s : Shared) (ks : List (Addr × List Int)) : Value → Shared → Prop := fun r s₂ => r = .none ∧ ∃ h' tk L rs e u, s₂ = { s with heap := h', toks := tk } ∧ SetW P w h' s.heap.objs.size L rs e u ∧ L.Perm ks ∧ (∀ b o, s.heap.get? b = some o → h'.get? b = some o)
theorem fill_setT {l : Addr} {items : Array Value} (ks : List (Addr × List Int)) (hh : A.handled = none) (hl : s.heap.IsList l items) (hit : items.toList = ks.map fun p => Value.ref p.1) (tup : ∀ p ∈ ks, IsT P w s.heap p.2 p.1) (few : ks.length ≤ 1000) (nd : (ks.map (·.2)).Nodup) (hu : A.units + 2 < cLine) :
    wpAny (model P w) A.in1 (Builtin.«set.__init__» ⟨[.ref s.heap.objs.size, .ref l], []⟩) (fun fin s' => match fin with | .done f => wants (FilledT P w s ks) E (.ok f) s' | .again c' => c'.quiet = true ∧ codeAny (model P w) A c' (wants (FilledT P w s ks) E) s') (fun e s' => wants (FilledT P w s ks) E (.error e) s')
      { s with heap := s.heap.push (noSetT w) } := by
  have hisz : items.size = ks.length := by
    have q := congrArg List.length hit
    rw [Array.length_toList, List.length_map] at q
    exact q
  have hS : (s.heap.push (noSetT w)).get? s.heap.objs.size = some (noSetT w) := Heap.get?_push_size _ rfl
  obtain ⟨⟨ocls, odict, odata, oslots⟩, hol, hcl, nl, hdl⟩ := hl
  simp only at hcl hdl
  subst hcl
  subst hdl
  have hol' : (s.heap.push (noSetT w)).get? l = some { cls := .type "list", dict := odict, data := .seq items nl, slots := oslots } := Heap.get?_push_of_some _ hol
  have hsls := F.sub_list_set
  have hslf := F.sub_list_frozenset
  have hne : (Value.type "list" == Value.type "dict") = false := by decide
  have hl1 : (s.heap.push (noSetT w)).IsList l items := ⟨_, hol', rfl, nl, rfl⟩
  unfold Builtin.«set.__init__» noKeywords Builtin.Frozenset.updateFrom
  generalize hPI : pyIter = PI
  wp_walk
  subst hPI
  refine wpAny_pyIter_list hl1 ?_
  refine wpAny_bind (wpAny_runValue ?_)
  have hlS : l < s.heap.objs.size := Heap.lt_size hol
  have hh3 : A.in1.in1.handled = none := by simp [hh]
  have hz1 : (s.heap.push (noSetT w)).objs.size = s.heap.objs.size + 1 := Heap.size_push ..
  have hneI : l ≠ (s.heap.push (noSetT w)).objs.size := by
    rw [hz1]
    exact Nat.ne_of_lt (Nat.lt_succ_of_lt hlS)
  have hSf : s.heap.objs.size ∉ [(s.heap.push (noSetT w)).objs.size, l] := by
    rw [hz1]
    intro z
    rcases List.mem_cons.mp z with z | z
    · exact absurd z (Nat.ne_of_lt (Nat.lt_succ_self _))
    · exact absurd (List.mem_singleton.mp z) (Nat.ne_of_gt hlS)
  have hval : ∀ (i : Nat) (v : Value), items[i]? = some v → ∃ p, ks[i]? = some p ∧ v = .ref p.1 := fun i v hv => by
    have z : (ks.map fun p => Value.ref p.1)[i]? = some v := by rw [← hit, Array.getElem?_toList]; exact hv
    rw [List.getElem?_map] at z
    obtain ⟨p, hp, ep⟩ := Option.map_eq_some_iff.mp z
    exact ⟨p, hp, ep.symm⟩
  have gone : ∀ b, s.heap.objs.size ≤ b → s.heap.get? b = none := fun b hb => by
    cases z : s.heap.get? b with
    | none => rfl
    | some o => exact absurd (Heap.lt_size z) (Nat.not_lt.mpr hb)
  refine put_all ((Walks.list hh3 _ l hneI items).toS) s.heap.objs.size hSf ks hisz few nd hval s.heap tup (gone _ (Nat.le_refl _)) (fun b hb => gone b (by rw [List.mem_singleton.mp hb, hz1]; omega)) ?_ (items.size - 0) 0 _ (by omega) (Nat.zero_le _)
    ?_ ?_ ?_ ?_
  · show A.units + 1 + 1 < cLine
    omega
  · exact ⟨⟨_, Heap.get?_push_size _ rfl, rfl, rfl⟩, hl1.push _⟩
  · exact fun b o z => Heap.get?_push_of_some _ (Heap.get?_push_of_some _ z)
  · exact ⟨[], #[], 0, _, SetW.fresh (Heap.get?_push_of_some _ hS), .nil⟩
  intro s' L rs e u hm hS' pm
  obtain ⟨h', g2, d', tk', os'⟩ := s'
  have eg : g2 = s.gens := hm.gens
  have ed : d' = s.drawn := hm.drawn
  have eo : os' = s.os := hm.os
  subst eg ed eo
  show wpAny _ _ _ _ _ _
  refine wpAny_pure ?_
  show wpAny _ _ (ret Value.none) _ _ _
  refine wpAny_pure ⟨rfl, h', tk', L, rs, e, u, rfl, hS', pm, fun b o z => ?_⟩
  have hb0 : b < s.heap.objs.size := Heap.lt_size z
  refine hm.heap b o (fun y => ?_) (Heap.get?_push_of_some _ (Heap.get?_push_of_some _ z))
  rcases List.mem_cons.mp y with y | y
  · exact absurd y (Nat.ne_of_lt hb0)
  · rw [List.mem_singleton.mp y, hz1] at hb0
    exact absurd hb0 (Nat.not_lt.mpr (Nat.le_succ _))
/-- set(xs) of a list of tuples -/
theorem call_set_listT {l : Addr} {items : Array Value} (ks : List (Addr × List Int)) {Q : Value → Shared → Prop} (hh : A.handled = none) (hl : s.heap.IsList l items) (hit : items.toList = ks.map fun p => Value.ref p.1) (tup : ∀ p ∈ ks, IsT P w s.heap p.2 p.1) (few : ks.length ≤ 1000) (nd : (ks.map (·.2)).Nodup) (hu : A.units + 3 < cLine)
    (k : ∀ (h' : Heap) (tk : Nat) L rs e u, SetW P w h' s.heap.objs.size L rs e u → L.Perm ks → (∀ b o, s.heap.get? b = some o → h'.get? b = some o) → Q (.ref s.heap.objs.size) { s with heap := h', toks := tk }) :
    wpAny (model P w) A (call (.type "set") [.ref l]) Q E s := by
  obtain ⟨c, tl, hmro⟩ := F.called_set.mro
  have hmade := F.called_set.made
  have hsub := F.called_set.sub
  refine wpAny_call (codeAny_of_tree ?_)
  show wpAny _ _ (callAny (.type "set") _) _ _ _
  refine wpAny_pure ⟨Code.quiet_builtin _ (by decide +kernel), codeAny_builtin F.entry_type_call ?_⟩
  rw [Around.under_plain (weight_type_call_type "set" [.ref l] []) rfl]
  have h1 := F.called_set.notType
  have h2 := F.called_set.canCreate
  have hct := F.typeCall_set_1 (.ref l)
  repeat (any_goals (first | assumption | wp_step))
  refine codeAny_mono (code_set_led1 (.ref l) (E := E) (Q₁ := fun obj s₁ => obj = .ref s.heap.objs.size ∧ s₁ = { s with heap := s.heap.push (noSetT w) }) ⟨rfl, rfl⟩) fun r s₁ hr => ?_
  cases r with
  | error e => exact hr
  | ok fl =>
    cases fl with
    | ret obj =>
      obtain ⟨rfl, rfl⟩ := hr
      have hS : (s.heap.push (noSetT w)).get? s.heap.objs.size = some (noSetT w) := Heap.get?_push_size _ rfl
      have hT : Shared.TypeIs { s with heap := s.heap.push (noSetT w) } (.ref s.heap.objs.size) "set" := ⟨_, hS, rfl⟩
      have hli := F.called_set.init.lookup
      have hbi := F.called_set.init.bind (.ref s.heap.objs.size)
      repeat (any_goals (first | assumption | wp_step))
      refine codeAny_mono (codeAny_call_builtin (R := wants (FilledT P w s ks) E) F.called_set.init.plain F.entry_set_init (check_set_init_1 hT ?_)) fun r₂ s₂ hr₂ => ?_
      · exact fill_setT ks (by simp [hh]) hl hit tup few nd (by show A.units + 1 + 2 < cLine; omega)
      · cases r₂ with
        | error e => exact hr₂
        | ok fl₂ =>
          cases fl₂ with
          | ret r =>
            obtain ⟨rfl, h', tk, L, rs, e, u, rfl, hS', pm, hk'⟩ := hr₂
            repeat (any_goals (first | assumption | wp_step))
            exact k _ _ _ _ _ _ hS' pm hk'
          | _ => exact hr₂.elim
    | _ => exact hr.elim
end
end TK

set_option maxRecDepth 100000
set_option maxHeartbeats 3200000
/-! sorted(set(xs)), xs a rising list of many tuples of ints: the same tuples in the same order -/
namespace TK
open PySem PySem.Spec PyProof.Rows L2
/-- tuples of ints in their order -/
def lexI : List Int → List Int → Bool
  | [], [] => false
  | [], _ :: _ => true
  | _ :: _, [] => false
  | x :: r, y :: t => decide (x < y) || (decide (x = y) && lexI r t)
theorem lexI_lt : ∀ a b : List Int, lexLt itemOrd (a.map Sum.inl) (b.map Sum.inl) = lexI a b
  | [], [] => rfl
  | [], _ :: _ => rfl
  | _ :: _, [] => rfl
  | x :: r, y :: t => by
    rw [List.map_cons, List.map_cons, lex_cons, lexI_lt r t]
    show (decide (x < y) || (!decide (y < x) && lexI r t)) = (decide (x < y) || (decide (x = y) && lexI r t))
    by_cases h1 : x < y
    · rw [decide_eq_true h1, Bool.true_or, Bool.true_or]
    · by_cases h2 : y < x
      · rw [decide_eq_false h1, decide_eq_true h2, decide_eq_false (show ¬ x = y by omega)]
        rfl
      · rw [decide_eq_false h1, decide_eq_false h2, decide_eq_true (show x = y by omega)]
        rfl
theorem only_order {α : Type} (lt : α → α → Prop) : ∀ (l2 l1 : List α), l1.Perm l2 → l1.Pairwise (fun a b => ¬ lt b a) → l2.Pairwise lt → l1 = l2
  | [], l1, pm, _, _ => pm.eq_nil
  | b :: t, [], pm, _, _ => absurd pm.length_eq (by simp)
  | b :: t, a :: r, pm, h1, h2 => by
    obtain ⟨g1, g2⟩ := List.pairwise_cons.mp h1
    obtain ⟨f1, f2⟩ := List.pairwise_cons.mp h2
    by_cases c : a = b
    · subst c
      rw [only_order lt t r ((List.perm_cons a).mp pm) g2 f2]
    · have a2 : a ∈ t := (List.mem_cons.mp (pm.mem_iff.mp List.mem_cons_self)).resolve_left c
      have b1 : b ∈ r := (List.mem_cons.mp (pm.mem_iff.mpr List.mem_cons_self)).resolve_left fun z => c z.symm
      exact absurd (f1 a a2) (g1 b b1)
section
variable {P : Program} {w : World} {A : Around} {E : Value → Shared → Prop} {s : Shared}
theorem tup_items {k : List Int} {vs : List Value} (h : ItemsAre (intKind P w) k vs) : ∀ i, tupItems (fun _ => false) i vs = some (k.map Sum.inl) := by
  induction h with
  | nil => exact fun i => rfl
  | @cons k0 v ks vs h1 h2 ih =>
    intro i
    obtain ⟨t, rfl⟩ := Value.isInt_shape h1
    show (if false = true then none else (tupItems (fun _ => false) (i + 1) vs).map (Sum.inl k0 :: ·)) = _
    rw [if_neg Bool.false_ne_true, ih (i + 1)]
    rfl
theorem tup_key {g : Heap} {k : List Int} {b : Addr} (x : IsT P w g k b) : G.tupKeyC g (fun _ => false) (.ref b) = some (k.map Sum.inl) := by
  obtain ⟨o, items, n, ho, hc, hd, hi⟩ := x
  have y : G.isTupObj g (.ref b) = true := by
    show (match g.get? b with | some o => (match o.cls with | .type n => n == "tuple" | _ => false) | none => false) = true
    rw [ho]
    show (match o.cls with | .type n => n == "tuple" | _ => false) = true
    rw [hc]
    rfl
  unfold G.tupKeyC
  rw [if_pos y]
  show (match g.get? b with | some o => (match o.data with | .seq xs _ => tupItems (fun _ => false) 0 xs.toList | _ => none) | none => none) = _
  rw [ho]
  show (match o.data with | .seq xs _ => tupItems (fun _ => false) 0 xs.toList | _ => none) = _
  rw [hd]
  exact tup_items hi 0
theorem tup_of {g : Heap} {k : List Int} {b : Addr} (x : IsT P w g k b) (hk : k ≠ []) : ∃ f, TupOf g (fun _ => false) (.ref b) f := by
  obtain ⟨o, items, n, ho, hc, hd, hi⟩ := x
  cases k with
  | nil => exact absurd rfl hk
  | cons k0 ks =>
    generalize hits : items.toList = its at hi
    cases hi with
    | @cons _ v _ vs h1 h2 =>
      obtain ⟨t, rfl⟩ := Value.isInt_shape h1
      exact ⟨.int k0 t, b, o, items, n, rfl, ho, hc, hd, by rw [← Array.getElem?_toList, hits]; rfl, fun _ => ⟨k0, t, rfl⟩, fun z => by cases z⟩
theorem tups_of {g : Heap} : ∀ (vs : List Value), (∀ v ∈ vs, ∃ f, TupOf g (fun _ => false) v f) → ∃ fs, TupsOf g (fun _ => false) vs fs
  | [], _ => ⟨[], .nil⟩
  | v :: vs, h => by
    obtain ⟨f, hf⟩ := h v List.mem_cons_self
    obtain ⟨fs, hfs⟩ := tups_of vs fun u hu => h u (List.mem_cons_of_mem _ hu)
    exact ⟨f :: fs, .cons hf hfs⟩
theorem arr_rank {κ : KeyKind} {xs : Array Keyed} {vs : List Value} (pm : xs.Perm (pairsOf vs)) (so : SortedToK κ xs (pairsOf vs).size) : (xs.map (·.2)).toList.Perm vs ∧ (xs.map (·.2)).toList.Pairwise (fun a b => ¬ κ.blt ((κ.keyOf b).getD κ.dflt) ((κ.keyOf a).getD κ.dflt) = true) := by
  have pl : xs.toList.Perm (vs.zip vs) := by
    rw [← pairsOf_toList]
    exact Array.perm_iff_toList_perm.mp pm
  have same : ∀ p ∈ xs.toList, p.1 = p.2 := fun p hp => (mem_zip_self (pl.mem_iff.mp hp)).1
  refine ⟨?_, ?_⟩
  · rw [Array.toList_map]
    have z := pl.map (·.2)
    rw [List.map_snd_zip (Nat.le_refl _)] at z
    exact z
  · rw [Array.toList_map, List.pairwise_map, List.pairwise_iff_getElem]
    intro i j hi hj hij
    have sz : (pairsOf vs).size = xs.size := pm.size_eq.symm
    rw [Array.length_toList] at hi hj
    have q := so i j (Nat.le_of_lt hij) (by rw [sz]; exact hj)
    have ei : KK κ xs i = (κ.keyOf (xs.toList[i]'(by rw [Array.length_toList]; exact hi)).2).getD κ.dflt := by
      unfold KK
      rw [Array.getElem?_eq_getElem hi, ← same _ (List.getElem_mem _)]
      rfl
    have ej : KK κ xs j = (κ.keyOf (xs.toList[j]'(by rw [Array.length_toList]; exact hj)).2).getD κ.dflt := by
      unfold KK
      rw [Array.getElem?_eq_getElem hj, ← same _ (List.getElem_mem _)]
      rfl
    rw [ei, ej] at q
    have q : κ.blt _ _ = false := q
    rw [q]
    exact Bool.false_ne_true
theorem sorted_setW {q : Addr} {L ks : List (Addr × List Int)} {rs : Array (Int × Value)} {e : Nat} {u : SetTable} {Q : Value → Shared → Prop} (R : SetW P w s.heap q L rs e u) (hh : A.handled = none) (pm : L.Perm ks) (some1 : 2 ≤ ks.length → ∀ p ∈ ks, p.2 ≠ []) (rise : ks.Pairwise (fun p r => lexI p.2 r.2 = true))
    (hQ : ∀ s' p (c : Nat), (∀ b o, s.heap.get? b = some o → s'.heap.get? b = some o) → s'.gens = s.gens → s'.os = s.os → s.heap.objs.size ≤ p → s'.heap.get? p = some (seqObj "list" (ks.map fun p => Value.ref p.1).toArray c) → Q (.ref p) s') :
    wpAny (model P w) A (call (.builtin "sorted") [.ref q]) Q E s := by
  obtain ⟨o, got, exa, dat⟩ := R.obj
  have low := R.low
  refine (Calls.call_function_entry kind_sorted plain_sorted entry_sorted (args_sorted1 _) ?_)
  unfold Builtin.«sorted»
  refine (wpAny_bind (m := checkCount "sorted" 1 1 _) (wpAny_pure ?_))
  refine wpAny_bind (collect_set (A := A.in1) hh ⟨o, got, exa.1, dat⟩ R.fit (by rw [rows_len R.ent]; unfold scanBound; omega) R.tab.asc R.ord fun s1 vs k1 hz g1 o1 pv => ?_)
  have pk : vs.Perm (ks.map fun p => Value.ref p.1) := by
    refine pv.trans ?_
    rw [R.ent]
    unfold rowsOf
    rw [List.map_map]
    exact pm.map _
  have lenv : vs.length ≤ 1000 := by rw [pk.length_eq, List.length_map, ← pm.length_eq]; exact low
  refine wpAny_bind (wpAny_newList ?_ (by have := lenv; rw [sizeLine_eq]; omega))
  have at_ : (s1.heap.push (seqObj "list" vs.toArray 0)).get? s1.heap.objs.size = some (seqObj "list" vs.toArray 0) := Heap.get?_push_size _ rfl
  have tup : ∀ p ∈ ks, IsT P w (s1.heap.push (seqObj "list" vs.toArray 0)) p.2 p.1 := fun p hp => isT_keep (R.tup p (pm.mem_iff.mpr hp)) fun b z h => Heap.get?_push_of_some _ (k1 b z h)
  have keys : ∀ v, v ∈ vs → ∃ l, G.tupKeyC (s1.heap.push (seqObj "list" vs.toArray 0)) (fun _ => false) v = some l := fun v hv => by
    obtain ⟨p, hp, rfl⟩ := List.mem_map.mp (pk.mem_iff.mp hv)
    exact ⟨_, tup_key (tup p hp)⟩
  have k6 := G.keeps_sort6 (vs := vs) at_
  refine wpAny_bind (wpAny_holding (wpAny_call_entry slot_list_sort ⟨_, at_, rfl⟩ entry_list_sort (G.list_sort_treeG (s := { s1 with heap := s1.heap.push (seqObj "list" vs.toArray 0) }) (κ := G.tupKindC (s1.heap.push (seqObj "list" vs.toArray 0)) (fun _ => false)) (kd := tuples' true) at_ (G.tupKeys keys) (G.tupC_ltAt true k6) (fun h2 {Q} hq => ?kind) (by rw [sizeLine_eq]; omega) fun st a1 a2 _ => ⟨_, rfl, ?ret⟩) (args_list_sort _)))
  case kind =>
    obtain ⟨fs, hfs⟩ := tups_of (g := s1.heap.push (seqObj "list" vs.toArray 0)) vs fun v hv => by
      obtain ⟨p, hp, rfl⟩ := List.mem_map.mp (pk.mem_iff.mp hv)
      exact tup_of (tup p hp) (some1 (by rw [pk.length_eq, List.length_map] at h2; exact h2) p hp)
    exact tup_kind (by rw [G.TupsOf.length hfs]; omega) (G.TupsOf.keep k6 hfs) hq
  case ret =>
    obtain ⟨p1, p2⟩ := arr_rank a1 a2
    have key : ∀ p ∈ ks, ((G.tupKeyC (s1.heap.push (seqObj "list" vs.toArray 0)) (fun _ => false) (.ref p.1)).getD []) = p.2.map Sum.inl := fun p hp => by
      rw [tup_key (tup p hp)]
      rfl
    have rise2 : (ks.map fun p => Value.ref p.1).Pairwise (fun a b => lexLt itemOrd ((G.tupKeyC (s1.heap.push (seqObj "list" vs.toArray 0)) (fun _ => false) a).getD []) ((G.tupKeyC (s1.heap.push (seqObj "list" vs.toArray 0)) (fun _ => false) b).getD []) = true) := by
      rw [List.pairwise_map]
      refine List.Pairwise.imp_of_mem (fun {p r} hp hr z => ?_) rise
      rw [key p hp, key r hr, lexI_lt]
      exact z
    have all := only_order _ _ _ (p1.trans pk) p2 rise2
    obtain ⟨c, hc⟩ := sortedHeap_at (vs := vs) (out := (arrOf st).map (·.2)) at_
    refine wpAny_pure ⟨_, rfl, hQ _ s1.heap.objs.size c (fun b z h => ?_) g1 o1 hz (by rw [← all, Array.toArray_toList]; exact hc)⟩
    have h1 := k1 b z h
    have hlt := Heap.lt_size h1
    show (sortedHeap (s1.heap.push (seqObj "list" vs.toArray 0)) s1.heap.objs.size vs _).get? b = some z
    rw [sortedHeap_old (Nat.ne_of_lt hlt) (by rw [size_push']; exact Nat.lt_succ_of_lt hlt)]
    exact Heap.get?_push_of_some _ h1
end
theorem room65 {k : Nat} {A : Around} (r : Room k A) : A.units + 65 < cLine := by
  have := r.un
  omega
/-- sorted(set(xs)) -/
def rSortSetT (K : PySem.W.Frag) : V → Hp → VK → Prop := fun x H Q => ∃ (a : Addr) (ks : List (Addr × List Int)), x = .ref a ∧ SqL K H a (ks.map fun p => V.ref p.1) ∧ (∀ p ∈ ks, SqT K H p.1 (p.2.map V.int)) ∧ ks.length ≤ 1000 ∧ (2 ≤ ks.length → ∀ p ∈ ks, p.2 ≠ []) ∧ ks.Pairwise (fun p r => lexI p.2 r.2 = true) ∧
  ∀ p : Addr, H p = none → Q (.ref p) (upd H p (.lst (ks.map fun p => V.ref p.1)))
theorem lexI_self : ∀ a : List Int, lexI a a = false
  | [] => rfl
  | x :: r => by
    show (decide (x < x) || (decide (x = x) && lexI r r)) = false
    rw [lexI_self r, decide_eq_false (by omega), Bool.and_false]
    rfl
section
variable {X : Cx} {ex : Expr} {ta : TA} {p p2 cpos pos : Pos}
theorem pe_sortSetT (hc : X.calm = true) (hu : X.A.units + 64 < cLine) (ha : PA X [ex] ta) (hg : Gl X "sorted") (hm : X.mg "sorted" = none) (hg2 : Gl X "set") (hm2 : X.mg "set" = none) (hs2 : starEach [ex] X.env = [(false, eval ex X.env)] := by rfl) :
    PE X (.Call (.Name "sorted" p) [.Call (.Name "set" p2) [ex] [] cpos] [] pos) (fun σ H Q => ta σ H fun vs H1 => ∃ x, vs = [x] ∧ rSortSetT X.K x H1 Q) := by
  refine ⟨fun pins s σ H Q I hq => ?_⟩
  refine Call_ (ld_blt I hg hm boot_sorted ?_)
  refine PyProof.Rows.callWith_builtin1 (PyProof.Rows.args_cons ?_ rfl) rfl rfl
  refine Call_ (ld_blt I hg2 hm2 PyProof.Rows.boot_set (PyProof.Rows.callWith_type1 (thn (ha.run cpos pins s σ H _ I hq) fun us s1 ⟨vs, H1, I1, r1, q1⟩ => ?_) hs2 rfl))
  obtain ⟨x0, ex1, a, ks, ex2, hq, tup, low, some1, rise, q⟩ := q1
  subst ex1 ex2
  cases r1 with
  | cons r rr =>
    cases rr
    cases r
    obtain ⟨its, rv, p', hz⟩ := I1.list hq
    have nd : (ks.map (·.2)).Nodup := by
      unfold List.Nodup
      rw [List.pairwise_map]
      exact rise.imp fun {a b} h z => by rw [z, lexI_self] at h; cases h
    refine call_set_listT (P := X.prog) (w := X.w) ks (I1.ok.hd hc) p'.isList (by simpa using refs_of_vals rv) (fun p hp => I1.isT (tup p hp)) low nd (by omega) fun h' tk L rs e u R1 pm k => ?_
    refine PyProof.Rows.args_nil ?_
    have I2 : Inv X pins σ H1 { s1 with heap := h', toks := tk } := I1.kept k
    refine sorted_setW (s := { s1 with heap := h', toks := tk }) R1 (I1.ok.hd hc) pm some1 rise fun s' p c k2 g o hp hgp => ?_
    have hlen : (ks.map fun p => V.ref p.1).length ≤ sizeLine := by rw [List.length_map, sizeLine_eq]; omega
    have hn : H1 p = none := I2.hok.fresh hp
    have J : Inv X pins σ (upd H1 p (.lst (ks.map fun p => V.ref p.1))) s' :=
      I2.call' (ch := []) o (Un.laid k2 hp hn) (I2.hok.laid k2 hp ⟨hlen, _, c, vals_of_refs ks, hgp⟩) (by rw [g]; exact I2.bare) (fun _ z => nomatch z)
    exact ⟨.ref p, _, J, rfl, q p hn⟩
end
end TK

/-! each taker is free of the others -/
namespace TK
theorem come_cons (e c : Int) (r : List (Int × Int)) (i : Nat) (n : Int) : comeF ((e, c) :: r) (i + 1) n = comeF r i (n - (c + n) / e) := rfl
theorem come_lower {e c m n : Int} (ok : okT (e, c)) (h : n ≤ m) : n - (c + n) / e ≤ m - (c + m) / e := by
  have := come_mono [(e, c)] 1 n m (fun x hx => by rw [List.mem_singleton.mp hx]; exact ok) h
  have e1 : ∀ k, comeF [(e, c)] 1 k = k - (c + k) / e := fun k => rfl
  rw [e1, e1] at this
  exact this
/-- rows whose takers take alike of what came to them let all be taken alike -/
theorem rows_agree : ∀ (r r' : List (Int × Int)) (m : Int), r'.length = r.length → (∀ ec ∈ r, okT ec) → (∀ ec ∈ r', okT ec) →
    (∀ (i : Nat) (x y : Int × Int), r'[i]? = some x → r[i]? = some y → ∀ k : Int, 1 ≤ k → k ≤ comeF r i m → (tk x k ↔ tk y k)) → ∀ n : Int, 1 ≤ n → n ≤ m → whoF r' n = whoF r n
  | [], [], _, _, _, _, _, _, _, _ => rfl
  | [], _ :: _, _, h, _, _, _, _, _, _ => by simp at h
  | _ :: _, [], _, h, _, _, _, _, _, _ => by simp at h
  | (e, c) :: r, x :: r', m, hl, ok, ok', ag, n, h1, hm => by
    have oy := ok _ List.mem_cons_self
    have ox := ok' _ List.mem_cons_self
    have ag0 : ∀ k : Int, 1 ≤ k → k ≤ n → (tk x k ↔ tk (e, c) k) := fun k k1 k2 => ag 0 x (e, c) rfl rfl k k1 (by rw [come_zero]; omega)
    have took := same_took' ox oy (show 0 ≤ n by omega) ag0
    rcases who_head (xs := r') (ys := r) ox oy h1 ag0 with ⟨_, a1, a2⟩ | ⟨hn, a1, a2⟩
    · rw [a1, a2]
    · rw [a1, a2]
      congr 1
      have took : (x.2 + n) / x.1 = (c + n) / e := took
      rw [took]
      refine rows_agree r r' (m - (c + m) / e) (by simpa using hl) (fun z hz => ok z (List.mem_cons_of_mem _ hz)) (fun z hz => ok' z (List.mem_cons_of_mem _ hz)) (fun i u v hu hv k k1 k2 => ?_) _ ?_ (come_lower oy hm)
      · exact ag (i + 1) u v hu hv k k1 (by rw [come_cons]; exact k2)
      · refine come_pos oy h1 fun z => hn ?_
        exact (ag0 n h1 (Int.le_refl _)).mpr z
theorem seen_of_who {r r' : List (Int × Int)} {m : Nat} (h : ∀ n : Int, 1 ≤ n → n ≤ m → whoF r' n = whoF r n) : seenF r' m = seenF r m := by
  unfold seenF
  apply List.map_congr_left
  intro k hk
  have := List.mem_range.mp hk
  exact h _ (by omega) (by omega)
/-- what fits a taker of a row, by what came to them -/
theorem fit_came {r : List (Int × Int)} (ok : ∀ ec ∈ r, okT ec) {i : Nat} {y : Int × Int} (hy : r[i]? = some y) (m : Nat) : cameF (seenF r m) i = ownF y.1 y.2 (comeF r i (m : Int)).toNat := (came_own r ok i y.1 y.2 hy m).2
theorem own_fits {r : List (Int × Int)} (hr : ∀ ec ∈ r, ec ∈ allT) {i : Nat} {y : Int × Int} (hy : r[i]? = some y) (m : Nat) : y ∈ fitT (cameF (seenF r m) i) := by
  rw [fit_came (fun ec h => okT_of (hr ec h)) hy]
  exact fit_own (hr y (List.mem_of_getElem? hy)) _
theorem fitting_rows {r r' : List (Int × Int)} (hr : ∀ ec ∈ r, ec ∈ allT) (hl : r'.length = r.length) {m : Nat} (hf : ∀ (i : Nat) (x : Int × Int), r'[i]? = some x → x ∈ fitT (cameF (seenF r m) i)) : (∀ ec ∈ r', ec ∈ allT) ∧ seenF r' m = seenF r m := by
  have ok : ∀ ec ∈ r, okT ec := fun ec h => okT_of (hr ec h)
  have hall : ∀ ec ∈ r', ec ∈ allT := fun ec h => by
    obtain ⟨i, hi⟩ := List.mem_iff_getElem?.mp h
    exact (List.mem_filter.mp (hf i ec hi)).1
  refine ⟨hall, seen_of_who fun n h1 h2 => rows_agree r r' (m : Int) hl ok (fun ec h => okT_of (hall ec h)) (fun i x y hx hy k k1 k2 => ?_) n h1 h2⟩
  have h := hf i x hx
  rw [fit_came ok hy] at h
  exact (fit_iff.mp h).2 k k1 (by omega)
theorem unfitting_row {r r' : List (Int × Int)} (hr' : ∀ ec ∈ r', ec ∈ allT) {m i : Nat} {x : Int × Int} (hx : r'[i]? = some x) (hn : x ∉ fitT (cameF (seenF r m) i)) : seenF r' m ≠ seenF r m := fun h => by
  apply hn
  rw [← h]
  exact own_fits hr' hx m
theorem fits_more {r : List (Int × Int)} (hr : ∀ ec ∈ r, ec ∈ allT) {i m m' : Nat} (hi : i < r.length) (hm : m' ≤ m) {x : Int × Int} (hx : x ∈ fitT (cameF (seenF r m) i)) : x ∈ fitT (cameF (seenF r m') i) := by
  have ok : ∀ ec ∈ r, okT ec := fun ec h => okT_of (hr ec h)
  have hy := List.getElem?_eq_getElem hi
  rw [fit_came ok hy] at hx ⊢
  obtain ⟨h1, h2⟩ := fit_iff.mp hx
  have mono := come_mono r i (m' : Int) (m : Int) ok (by omega)
  exact fit_iff.mpr ⟨h1, fun k k1 k2 => h2 k k1 (by omega)⟩
theorem fit_rise (came : List Bool) : (fitT came).Pairwise fun x y => x.1 < y.1 ∨ (x.1 = y.1 ∧ x.2 < y.2) := rise_allT.filter _
theorem fit_len (came : List Bool) : (fitT came).length ≤ 819 := by
  have := List.length_filter_le (fun x : Int × Int => agreeB x.1 x.2 came) allT
  rw [len_allT] at this
  exact this
theorem fits_at {seen : List (Option Nat)} {many i : Nat} (h : i < many) : (fitsF seen many)[i]? = some (fitT (cameF seen i)) := by
  unfold fitsF
  rw [List.getElem?_map, List.getElem?_range h]
  rfl
theorem fits_length (seen : List (Option Nat)) (many : Nat) : (fitsF seen many).length = many := by simp [fitsF]
theorem seen_take (r : List (Int × Int)) {m k : Nat} (h : k ≤ m) : (seenF r m).take k = seenF r k := by
  unfold seenF
  rw [← List.map_take, List.take_range, Nat.min_eq_left h]
end TK

namespace Lk09
open PySem PySem.Spec PyProof.Rows L2 TK
def topS (i : Nat) : Stmt := PySem.Challenge.pw_takenth_k09_whole_each_taker_is_free_of.main.body.getD i (.Pass ⟨0, 0, 0, 0⟩)
abbrev s_is_whole : Stmt := topS 6
theorem sc_is_whole : FnScope ["thing", "least", "most"] ["thing", "least", "most"] (defScope s_is_whole) := ⟨rfl, rfl, rfl, by decide +kernel, rfl, by decide +kernel, by decide +kernel⟩
abbrev s_check_number : Stmt := topS 7
theorem sc_check_number : FnScope ["thing", "least", "most"] ["thing", "least", "most"] (defScope s_check_number) := ⟨rfl, rfl, rfl, by decide +kernel, rfl, by decide +kernel, by decide +kernel⟩
abbrev s_is_taker : Stmt := topS 13
theorem sc_is_taker : FnScope ["thing", "every", "counted"] ["thing"] (defScope s_is_taker) := ⟨rfl, rfl, rfl, by decide +kernel, rfl, by decide +kernel, by decide +kernel⟩
abbrev s_is_row : Stmt := topS 14
theorem sc_is_row : FnScope ["thing", "part"] ["thing"] (defScope s_is_row) := ⟨rfl, rfl, rfl, by decide +kernel, rfl, by decide +kernel, by decide +kernel⟩
abbrev s_check_row : Stmt := topS 15
theorem sc_check_row : FnScope ["thing"] ["thing"] (defScope s_check_row) := ⟨rfl, rfl, rfl, by decide +kernel, rfl, by decide +kernel, by decide +kernel⟩
abbrev s_who : Stmt := topS 16
theorem sc_who : FnScope ["row", "piece", "coming", "place", "every", "counted", "took", "count"] ["row", "piece"] (defScope s_who) := ⟨rfl, rfl, rfl, by decide +kernel, rfl, by decide +kernel, by decide +kernel⟩
abbrev s_is_seen : Stmt := topS 20
theorem sc_is_seen : FnScope ["thing", "part"] ["thing"] (defScope s_is_seen) := ⟨rfl, rfl, rfl, by decide +kernel, rfl, by decide +kernel, by decide +kernel⟩
abbrev s_check_seen : Stmt := topS 21
theorem sc_check_seen : FnScope ["thing"] ["thing"] (defScope s_check_seen) := ⟨rfl, rfl, rfl, by decide +kernel, rfl, by decide +kernel, by decide +kernel⟩
abbrev s_check_places : Stmt := topS 22
theorem sc_check_places : FnScope ["seen", "many", "place"] ["seen", "many"] (defScope s_check_places) := ⟨rfl, rfl, rfl, by decide +kernel, rfl, by decide +kernel, by decide +kernel⟩
abbrev s_fits : Stmt := topS 23
theorem sc_fits : FnScope ["seen", "many", "told", "coming", "place", "thing"] ["seen", "many"] (defScope s_fits) := ⟨rfl, rfl, rfl, by decide +kernel, rfl, by decide +kernel, by decide +kernel⟩
abbrev s_takers_of_place : Stmt := topS 24
theorem sc_takers_of_place : FnScope ["coming", "place", "seen_taken", "told", "every", "counted", "at", "thing"] ["coming", "place"] (defScope s_takers_of_place) := ⟨rfl, rfl, rfl, by decide +kernel, rfl, by decide +kernel, by decide +kernel⟩
abbrev s__law_cell_at : Stmt := topS 26
theorem sc__law_cell_at : FnScope ["script", "k"] ["script", "k"] (defScope s__law_cell_at) := ⟨rfl, rfl, rfl, by decide +kernel, rfl, by decide +kernel, by decide +kernel⟩
abbrev s__law_draws : Stmt := topS 27
theorem sc__law_draws : FnScope ["cell", "many", "size", "found", "rest", "stirred", "k"] ["cell", "many", "size"] (defScope s__law_draws) := ⟨rfl, rfl, rfl, by decide +kernel, rfl, by decide +kernel, by decide +kernel⟩
abbrev s__law_bag : Stmt := topS 28
theorem sc__law_bag : FnScope ["script", "k"] ["script", "k"] (defScope s__law_bag) := ⟨rfl, rfl, rfl, by decide +kernel, rfl, by decide +kernel, by decide +kernel⟩
abbrev s__law_bags : Stmt := topS 29
theorem sc__law_bags : FnScope ["script", "limit", "k"] ["script", "limit"] (defScope s__law_bags) := ⟨rfl, rfl, rfl, by decide +kernel, rfl, by decide +kernel, by decide +kernel⟩
abbrev s__law_take : Stmt := topS 30
theorem sc__law_take : FnScope ["bag", "many"] ["bag", "many"] (defScope s__law_take) := ⟨rfl, rfl, rfl, by decide +kernel, rfl, by decide +kernel, by decide +kernel⟩
abbrev s__law_taker : Stmt := topS 31
theorem sc__law_taker : FnScope ["bag", "far", "every"] ["bag", "far"] (defScope s__law_taker) := ⟨rfl, rfl, rfl, by decide +kernel, rfl, by decide +kernel, by decide +kernel⟩
abbrev s__law_drawn_row : Stmt := topS 32
theorem sc__law_drawn_row : FnScope ["bag", "takers", "far", "turn"] ["bag", "takers", "far"] (defScope s__law_drawn_row) := ⟨rfl, rfl, rfl, by decide +kernel, rfl, by decide +kernel, by decide +kernel⟩
abbrev s_law : Stmt := topS 33
theorem sc_law : FnScope ["script", "bag", "house", "seen", "told", "turn", "less", "many", "size", "other", "some", "wide", "place", "taker", "piece", "one"] ["script"] (defScope s_law) := ⟨rfl, rfl, rfl, by decide +kernel, rfl, by decide +kernel, by decide +kernel⟩
structure Top (K : PySem.W.Frag) (mg : Str → Option Value) where
  a_is_whole : Addr
  fd_is_whole : FuncData
  F_is_whole : Fun K "is_whole" "is_whole" s_is_whole a_is_whole fd_is_whole
  b_is_whole : Binds K fd_is_whole ["thing", "least", "most"] []
  g_is_whole : mg "is_whole" = some (.ref a_is_whole)
  a_check_number : Addr
  fd_check_number : FuncData
  F_check_number : Fun K "check_number" "check_number" s_check_number a_check_number fd_check_number
  b_check_number : Binds K fd_check_number ["thing", "least", "most"] []
  g_check_number : mg "check_number" = some (.ref a_check_number)
  a_is_taker : Addr
  fd_is_taker : FuncData
  F_is_taker : Fun K "is_taker" "is_taker" s_is_taker a_is_taker fd_is_taker
  b_is_taker : Binds K fd_is_taker ["thing"] []
  g_is_taker : mg "is_taker" = some (.ref a_is_taker)
  a_is_row : Addr
  fd_is_row : FuncData
  F_is_row : Fun K "is_row" "is_row" s_is_row a_is_row fd_is_row
  b_is_row : Binds K fd_is_row ["thing"] []
  g_is_row : mg "is_row" = some (.ref a_is_row)
  a_check_row : Addr
  fd_check_row : FuncData
  F_check_row : Fun K "check_row" "check_row" s_check_row a_check_row fd_check_row
  b_check_row : Binds K fd_check_row ["thing"] []
  g_check_row : mg "check_row" = some (.ref a_check_row)
  a_who : Addr
  fd_who : FuncData
  F_who : Fun K "who" "who" s_who a_who fd_who
  b_who : Binds K fd_who ["row", "piece"] []
  g_who : mg "who" = some (.ref a_who)
  a_is_seen : Addr
  fd_is_seen : FuncData
  F_is_seen : Fun K "is_seen" "is_seen" s_is_seen a_is_seen fd_is_seen
  b_is_seen : Binds K fd_is_seen ["thing"] []
  g_is_seen : mg "is_seen" = some (.ref a_is_seen)
  a_check_seen : Addr
  fd_check_seen : FuncData
  F_check_seen : Fun K "check_seen" "check_seen" s_check_seen a_check_seen fd_check_seen
  b_check_seen : Binds K fd_check_seen ["thing"] []
  g_check_seen : mg "check_seen" = some (.ref a_check_seen)
  a_check_places : Addr
  fd_check_places : FuncData
  F_check_places : Fun K "check_places" "check_places" s_check_places a_check_places fd_check_places
  b_check_places : Binds K fd_check_places ["seen", "many"] []
  g_check_places : mg "check_places" = some (.ref a_check_places)
  a_fits : Addr
  fd_fits : FuncData
  F_fits : Fun K "fits" "fits" s_fits a_fits fd_fits
  b_fits : Binds K fd_fits ["seen", "many"] []
  g_fits : mg "fits" = some (.ref a_fits)
  a_takers_of_place : Addr
  fd_takers_of_place : FuncData
  F_takers_of_place : Fun K "takers_of_place" "takers_of_place" s_takers_of_place a_takers_of_place fd_takers_of_place
  b_takers_of_place : Binds K fd_takers_of_place ["coming", "place"] []
  g_takers_of_place : mg "takers_of_place" = some (.ref a_takers_of_place)
  a__law_cell_at : Addr
  fd__law_cell_at : FuncData
  F__law_cell_at : Fun K "_law_cell_at" "_law_cell_at" s__law_cell_at a__law_cell_at fd__law_cell_at
  b__law_cell_at : Binds K fd__law_cell_at ["script", "k"] []
  g__law_cell_at : mg "_law_cell_at" = some (.ref a__law_cell_at)
  a__law_draws : Addr
  fd__law_draws : FuncData
  F__law_draws : Fun K "_law_draws" "_law_draws" s__law_draws a__law_draws fd__law_draws
  b__law_draws : Binds K fd__law_draws ["cell", "many", "size"] []
  g__law_draws : mg "_law_draws" = some (.ref a__law_draws)
  a__law_bag : Addr
  fd__law_bag : FuncData
  F__law_bag : Fun K "_law_bag" "_law_bag" s__law_bag a__law_bag fd__law_bag
  b__law_bag : Binds K fd__law_bag ["script", "k"] []
  g__law_bag : mg "_law_bag" = some (.ref a__law_bag)
  a__law_bags : Addr
  fd__law_bags : FuncData
  F__law_bags : Fun K "_law_bags" "_law_bags" s__law_bags a__law_bags fd__law_bags
  b__law_bags : Binds K fd__law_bags ["script", "limit"] []
  g__law_bags : mg "_law_bags" = some (.ref a__law_bags)
  a__law_take : Addr
  fd__law_take : FuncData
  F__law_take : Fun K "_law_take" "_law_take" s__law_take a__law_take fd__law_take
  b__law_take : Binds K fd__law_take ["bag", "many"] []
  g__law_take : mg "_law_take" = some (.ref a__law_take)
  a__law_taker : Addr
  fd__law_taker : FuncData
  F__law_taker : Fun K "_law_taker" "_law_taker" s__law_taker a__law_taker fd__law_taker
  b__law_taker : Binds K fd__law_taker ["bag", "far"] []
  g__law_taker : mg "_law_taker" = some (.ref a__law_taker)
  a__law_drawn_row : Addr
  fd__law_drawn_row : FuncData
  F__law_drawn_row : Fun K "_law_drawn_row" "_law_drawn_row" s__law_drawn_row a__law_drawn_row fd__law_drawn_row
  b__law_drawn_row : Binds K fd__law_drawn_row ["bag", "takers", "far"] []
  g__law_drawn_row : mg "_law_drawn_row" = some (.ref a__law_drawn_row)
  a_law : Addr
  fd_law : FuncData
  F_law : Fun K "law" "law" s_law a_law fd_law
  b_law : Binds K fd_law ["script"] []
  g_law : mg "law" = some (.ref a_law)
  t_MOST_TAKERS : Tok
  g_MOST_TAKERS : mg "MOST_TAKERS" = some (.int 8 t_MOST_TAKERS)
  t_LEAST_EVERY : Tok
  g_LEAST_EVERY : mg "LEAST_EVERY" = some (.int 2 t_LEAST_EVERY)
  t_MOST_EVERY : Tok
  g_MOST_EVERY : mg "MOST_EVERY" = some (.int 1000 t_MOST_EVERY)
  t_MOST_PIECES : Tok
  g_MOST_PIECES : mg "MOST_PIECES" = some (.int 1000000000000000000 t_MOST_PIECES)
  t_MOST_SEEN : Tok
  g_MOST_SEEN : mg "MOST_SEEN" = some (.int 200 t_MOST_SEEN)
  t_MOST_EVERY_SEEN : Tok
  g_MOST_EVERY_SEEN : mg "MOST_EVERY_SEEN" = some (.int 40 t_MOST_EVERY_SEEN)
  z_all : mg "all" = none
  z_any : mg "any" = none
  z_bool : mg "bool" = none
  z_divmod : mg "divmod" = none
  z_enumerate : mg "enumerate" = none
  z_int : mg "int" = none
  z_isinstance : mg "isinstance" = none
  z_len : mg "len" = none
  z_list : mg "list" = none
  z_max : mg "max" = none
  z_min : mg "min" = none
  z_range : mg "range" = none
  z_set : mg "set" = none
  z_sorted : mg "sorted" = none
  z_tuple : mg "tuple" = none
  z_zip : mg "zip" = none
section
variable {P : Program} {w : World} {K : PySem.W.Frag} {mg : Str → Option Value} {base : Heap}
/-! the program: whole numbers, rows of takers -/
def spWhole : Sp := fun vs H Q _ => ∃ n lo hi : Int, vs = [.int n, .int lo, .int hi] ∧ Q (.bl (decide (lo ≤ n) && decide (n ≤ hi))) H
theorem ok_is_whole (T : Top K mg) : FnOk P w K mg base CX0 1 T.a_is_whole T.fd_is_whole ["thing", "least", "most"] spWhole := by
  refine T.F_is_whole.ok sc_is_whole (fun vs H Q E h => ?_) (fun cdv A outer s H vs Q E hr h => ?_)
  · obtain ⟨n, lo, hi, rfl, _⟩ := h
    rfl
  · obtain ⟨n, lo, hi, rfl, q⟩ := h
    refine ⟨_, (pss_cons (ps_if (PW.pt (pw_or (pt_not (pt_val (pe_callB call_isi (by rfl) T.z_isinstance (by decide +kernel) (pa_cons (pv 0) (pa_cons (pe_bltn (v := .ty "int") (by rfl) T.z_int (by decide +kernel) rfl) pa_nil))))) (pw_or1 (pt_val (pe_callB call_isi (by rfl) T.z_isinstance (by decide +kernel) (pa_cons (pv 0) (pa_cons (pe_bltn (v := .ty "bool") (by rfl) T.z_bool (by decide +kernel) rfl) pa_nil))))))) (pss_one (ps_ret pe_bl)) pss_nil)
      (pss_one (ps_ret (pe_chain op_le op_le (pv 1) (pv 0) (pv 2))))), ?_⟩
    refine ⟨.int n, rfl, .int n, .ty "int", .type "int", .type "int", true, rfl, .ty _, .base (.int n), kit_ty (by decide +kernel), true, rfl, iteF ?_⟩
    refine ⟨.int n, rfl, .int n, .ty "bool", .type "int", .type "bool", false, rfl, .ty _, .base (.int n), kit_ty (by decide +kernel), false, rfl, iteF ?_⟩
    refine ⟨.int lo, rfl, .int n, rfl, lo, n, rfl, rfl, _, rfl, ite2 (fun e => ?_) (fun e => ?_)⟩
    · refine ⟨.int hi, rfl, n, hi, rfl, rfl, ?_⟩
      rw [e, Bool.true_and] at q
      exact q
    · rw [show decide (lo ≤ n) = false by simpa using e, Bool.false_and] at q
      exact q
def spTaker : Sp := fun vs H Q _ => ∃ (t : Addr) (e c : Int), vs = [.ref t] ∧ H t = some (.tup [.int e, .int c]) ∧ okT (e, c) ∧ Q (.bl true) H
theorem ok_is_taker (T : Top K mg) : FnOk P w K mg base CX0 2 T.a_is_taker T.fd_is_taker ["thing"] spTaker := by
  refine T.F_is_taker.ok sc_is_taker (fun vs H Q E h => ?_) (fun cdv A outer s H vs Q E hr h => ?_)
  · obtain ⟨t, e, c, rfl, _⟩ := h
    rfl
  · obtain ⟨t, e, c, rfl, ht, ok, q⟩ := h
    obtain ⟨o1, o2, o3, o4⟩ := ok
    simp only at o1 o2 o3 o4
    refine ⟨_, (pss_cons (ps_if (PW.pt (pw_or (pt_not (pt_val (pe_callB call_isi (by rfl) T.z_isinstance (by decide +kernel) (pa_cons (pv 0) (pa_cons (pe_bltn (v := .ty "tuple") (by rfl) T.z_tuple (by decide +kernel) rfl) pa_nil))))) (pw_or1 (pt_cmpR op_ne (pe_callB call_len_seq (by rfl) T.z_len (by decide +kernel) (pa_cons (pv 0) pa_nil)) pe_int (nomark _))))) (pss_one (ps_ret pe_bl)) pss_nil)
      (pss_cons (ps_asg (pv 0) (pg_tup (by rfl) (pgs_cons (pg_name (i := 1) sc_is_taker.nd rfl (.inl rfl)) (pgs_cons (pg_name (i := 2) sc_is_taker.nd rfl (.inl rfl)) pgs_nil))))
      (pss_one (ps_ret (pe_and (pe_call (ok_is_whole T) (hr.mono (by decide)) (by rfl) T.g_is_whole T.F_is_whole.kp T.b_is_whole .nil pass0 (pa_cons (pv 1) (pa_cons (pe_glob (v := .int 2) (by rfl) T.g_LEAST_EVERY ⟨_, rfl⟩) (pa_cons (pe_glob (v := .int 1000) (by rfl) T.g_MOST_EVERY ⟨_, rfl⟩) pa_nil)))) (pe_one (pe_call (ok_is_whole T) (hr.mono (by decide)) (by rfl) T.g_is_whole T.F_is_whole.kp T.b_is_whole .nil pass0 (pa_cons (pv 2) (pa_cons pe_int (pa_cons (pe_op op_sub (pv 1) pe_int) pa_nil)))))))))), ?_⟩
    refine ⟨.ref t, rfl, .ref t, .ty "tuple", .type "tuple", .type "tuple", true, rfl, .ty _, .base (.tup ht), kit_ty (by decide +kernel), true, rfl, iteF ?_⟩
    refine ⟨.ref t, rfl, t, _, rfl, .inr (st_of ht), rfl, false, rfl, iteF ?_⟩
    refine ⟨.ref t, rfl, t, _, rfl, st_of ht, rfl, .int e, _, rfl, .int c, _, rfl, rfl, ?_⟩
    refine ⟨.int e, rfl, e, 2, 1000, rfl, ?_⟩
    rw [decide_eq_true o1, decide_eq_true o2]
    refine ⟨_, rfl, iteT ?_⟩
    refine ⟨.int c, rfl, .int e, rfl, e, 1, rfl, rfl, c, 0, e - 1, rfl, ?_⟩
    rw [decide_eq_true o3, decide_eq_true o4]
    exact q
def spRow : Sp := fun vs H Q _ => ∃ (p : Addr) (r : List (Int × Int)), vs = [.ref p] ∧ RowAt H p r ∧ (∀ ec ∈ r, okT ec) ∧ r.length ≤ 8 ∧ ∀ H', Same H H' → Q (.bl true) H'
theorem ok_is_row (T : Top K mg) : FnOk P w K mg base CX0 3 T.a_is_row T.fd_is_row ["thing"] spRow := by
  refine T.F_is_row.ok sc_is_row (fun vs H Q E h => ?_) (fun cdv A outer s H vs Q E hr h => ?_)
  · obtain ⟨p, r, rfl, _⟩ := h
    rfl
  · obtain ⟨p, r, rfl, hR, ok, hlen, q⟩ := h
    obtain ⟨ts, h1, h2, h3⟩ := id hR
    refine ⟨_, (pss_cons (ps_if (PW.pt (pw_or (pt_not (pt_val (pe_callB call_isi (by rfl) T.z_isinstance (by decide +kernel) (pa_cons (pv 0) (pa_cons (pe_bltn (v := .ty "tuple") (by rfl) T.z_tuple (by decide +kernel) rfl) pa_nil))))) (pw_or1 (pt_cmpR op_gt (pe_callB call_len_seq (by rfl) T.z_len (by decide +kernel) (pa_cons (pv 0) pa_nil)) (pe_glob (v := .int 8) (by rfl) T.g_MOST_TAKERS ⟨_, rfl⟩) (nomark _))))) (pss_one (ps_ret pe_bl)) pss_nil)
      (pss_one (ps_ret (pe_callB (cr_all rfl) (by rfl) T.z_all (by decide +kernel) (pa_cons (pe_lc (own := [("part", 1)]) (by rfl) sc_is_row.nd (pi_tup (pv 0))
        (blkOk_by (own := [("part", 1)]) (N := ["thing", "part"]) (sc := defScope s_is_row) (by decide +kernel))
        (fun _ _ _ _ _ => (pg_name (i := 1) sc_is_row.nd rfl (.inl rfl))) (fun _ _ _ _ _ => pts_nil) (fun _ _ _ _ _ => (pe_call (ok_is_taker T) (hr.mono (by decide)) (by rfl) T.g_is_taker T.F_is_taker.kp T.b_is_taker .nil pass0 (pa_cons (pv 1) pa_nil)))) pa_nil))))), ?_⟩
    refine ⟨.ref p, rfl, .ref p, .ty "tuple", .type "tuple", .type "tuple", true, rfl, .ty _, .base (.tup h1), kit_ty (by decide +kernel), true, rfl, iteF ?_⟩
    refine ⟨.ref p, rfl, p, _, rfl, .inr (st_of h1), _, _, rfl, rfl, false, ?_, iteF ?_⟩
    · rw [List.length_map, h2]
      have : ¬ ((8 : Int) < (r.length : Int)) := by omega
      show V.bl (decide ((8 : Int) < (r.length : Int))) = _
      rw [decide_eq_false this]
    refine ⟨.ref p, rfl, p, rfl, ⟨_, st_of h1⟩, fun D hD => ?_⟩
    refine lc_tup (K := K) (a := p) (xs := ts.map V.ref) (fun i H' => Same H H' ∧ H' D = some (.lst ((List.replicate i true).map V.bl))) ⟨same_new hD, upd_same⟩ (fun i H' _ hp => st_of (hp.1 _ _ h1)) (fun i x H' hx hp => ?_) (fun H' hp => ?_)
    · obtain ⟨sm, hd⟩ := hp
      rw [List.getElem?_map] at hx
      cases ht : ts[i]? with
      | none => rw [ht] at hx; cases hx
      | some t =>
        rw [ht] at hx
        cases hx
        have hi : i < r.length := h2 ▸ (List.getElem?_eq_some_iff.mp ht).1
        have hi8 : i < 8 := by omega
        have hrt := h3 i t r[i] ht (List.getElem?_eq_getElem hi)
        refine ⟨rfl, yesT ?_⟩
        refine ⟨.ref t, rfl, t, _, _, rfl, sm _ _ hrt, ok _ (List.getElem_mem hi), _, hd, ?_, ?_, ?_⟩
        · rw [List.length_map, List.length_replicate]
          exact small1000 (by omega)
        · exact same_upd_new hD sm
        · rw [upd_same, List.replicate_succ', List.map_append]
          rfl
    · obtain ⟨sm, hd⟩ := hp
      refine ⟨D, _, rfl, sq_of hd, ?_⟩
      have e : (List.replicate (ts.map V.ref).length true).all id = true := by simp
      rw [e]
      exact q H' sm
def spChk : Sp := fun vs H Q _ => ∃ (p : Addr) (r : List (Int × Int)), vs = [.ref p] ∧ RowAt H p r ∧ (∀ ec ∈ r, okT ec) ∧ r.length ≤ 8 ∧ ∀ H', Same H H' → Q .non H'
theorem ok_check_row (T : Top K mg) : FnOk P w K mg base CX0 4 T.a_check_row T.fd_check_row ["thing"] spChk := by
  refine T.F_check_row.ok sc_check_row (fun vs H Q E h => ?_) (fun cdv A outer s H vs Q E hr h => ?_)
  · obtain ⟨p, r, rfl, _⟩ := h
    rfl
  · obtain ⟨p, r, rfl, hR, ok, hlen, q⟩ := h
    refine ⟨_, (pss_one (ps_if (pt_not (pt_val (pe_call (ok_is_row T) (hr.mono (by decide)) (by rfl) T.g_is_row T.F_is_row.kp T.b_is_row .nil pass0 (pa_cons (pv 0) pa_nil)))) (pss_one ps_never) pss_nil)), ?_⟩
    exact ⟨.ref p, rfl, p, r, rfl, hR, ok, hlen, fun H' sm => ⟨true, rfl, iteF (q H' sm)⟩⟩

def spNum : Sp := fun vs H Q _ => ∃ n lo hi : Int, vs = [.int n, .int lo, .int hi] ∧ lo ≤ n ∧ n ≤ hi ∧ Q .non H
theorem ok_check_number (T : Top K mg) : FnOk P w K mg base CX0 2 T.a_check_number T.fd_check_number ["thing", "least", "most"] spNum := by
  refine T.F_check_number.ok sc_check_number (fun vs H Q E h => ?_) (fun cdv A outer s H vs Q E hr h => ?_)
  · obtain ⟨n, lo, hi, rfl, _⟩ := h
    rfl
  · obtain ⟨n, lo, hi, rfl, h1, h2, q⟩ := h
    refine ⟨_, (pss_one (ps_if (pt_not (pt_val (pe_call (ok_is_whole T) (hr.mono (by decide)) (by rfl) T.g_is_whole T.F_is_whole.kp T.b_is_whole .nil pass0 (pa_cons (pv 0) (pa_cons (pv 1) (pa_cons (pv 2) pa_nil)))))) (pss_one ps_never) pss_nil)), ?_⟩
    refine ⟨.int n, rfl, .int lo, rfl, .int hi, rfl, n, lo, hi, rfl, ?_⟩
    rw [decide_eq_true h1, decide_eq_true h2]
    exact ⟨true, rfl, iteF q⟩

def spWho : Sp := fun vs H Q _ => ∃ (p : Addr) (r : List (Int × Int)) (n : Int), vs = [.ref p, .int n] ∧ RowAt H p r ∧ (∀ ec ∈ r, okT ec) ∧ r.length ≤ 8 ∧ 1 ≤ n ∧ n ≤ 1000000000000000000 ∧ ∀ H', Same H H' → Q (ofO (whoF r n)) H'
theorem ok_who (T : Top K mg) : FnOk P w K mg base CX0 5 T.a_who T.fd_who ["row", "piece"] spWho := by
  refine T.F_who.ok sc_who (fun vs H Q E h => ?_) (fun cdv A outer s H vs Q E hr h => ?_)
  · obtain ⟨p, r, n, rfl, _⟩ := h
    rfl
  · obtain ⟨p, r, n, rfl, hR, ok, hlen, n1, n2, q⟩ := h
    refine ⟨_, (pss_cons (ps_expr (pe_call (ok_check_row T) (hr.mono (by decide)) (by rfl) T.g_check_row T.F_check_row.kp T.b_check_row .nil pass0 (pa_cons (pv 0) pa_nil)))
      (pss_cons (ps_expr (pe_call (ok_check_number T) (hr.mono (by decide)) (by rfl) T.g_check_number T.F_check_number.kp T.b_check_number .nil pass0 (pa_cons (pv 1) (pa_cons pe_int (pa_cons (pe_glob (v := .int 1000000000000000000) (by rfl) T.g_MOST_PIECES ⟨_, rfl⟩) pa_nil)))))
      (pss_cons (ps_set (i := 2) sc_who.nd rfl (.inl rfl) (pv 1))
      (pss_cons (ps_for PassesOwn.never rfl (pi_enumT (by rfl) T.z_enumerate (pa_cons (pv 0) pa_nil)) (pg_tup (by rfl) (pgs_cons (pg_name (i := 3) sc_who.nd rfl (.inl rfl)) (pgs_cons (pg_tup (by rfl) (pgs_cons (pg_name (i := 4) sc_who.nd rfl (.inl rfl)) (pgs_cons (pg_name (i := 5) sc_who.nd rfl (.inl rfl)) pgs_nil))) pgs_nil)))
        (pss_cons (ps_asg (pe_callB call_divmod (by rfl) T.z_divmod (by decide +kernel) (pa_cons (pe_op op_add (pv 5) (pv 2)) (pa_cons (pv 4) pa_nil))) (pg_tup (by rfl) (pgs_cons (pg_name (i := 6) sc_who.nd rfl (.inl rfl)) (pgs_cons (pg_name (i := 7) sc_who.nd rfl (.inl rfl)) pgs_nil))))
      (pss_cons (ps_if (pt_cmpR op_eq (pv 7) pe_int (nomark _)) (pss_one (ps_ret (pv 3))) pss_nil)
      (pss_one (ps_aug (i := 2) sc_who.nd rfl (.inl rfl) (pv 6) ip_sub)))))
      (pss_one (ps_ret pe_non)))))), ?_⟩
    refine ⟨.ref p, rfl, p, r, rfl, hR, ok, hlen, fun H1 s1 => ?_⟩
    refine ⟨.int n, rfl, n, 1, 1000000000000000000, rfl, n1, n2, ?_⟩
    refine ⟨.int n, rfl, ?_⟩
    obtain ⟨ts, h1, h2, h3⟩ := hR.keep (tupS_of s1)
    refine ⟨.ref p, rfl, p, _, rfl, st_of h1, ?_⟩
    refine for_it (walk_enumT (K := K) (a := p) (xs := ts.map V.ref)) (fun i σ H' => Same H1 H' ∧ reach r n i ∧ ∃ z y3 y4 y5 y6 y7, σ = [some (.ref p), some (.int n), some (.int z), y3, y4, y5, y6, y7] ∧ z = comeF r i n)
      ⟨Same.refl _, fun j _ => Nat.zero_le j, n, none, none, none, none, none, rfl, (come_zero r n).symm⟩ (fun i σ H' _ hp => st_of (hp.1 _ _ h1)) (fun i v σ H2 H3 hi hp hy => ?_) (fun σ H' hp => ?_)
    · obtain ⟨sm, hre, z, y3, y4, y5, y6, y7, rfl, rfl⟩ := hp
      obtain ⟨Tt, x, y, rfl, nT, rfl, ex, ey⟩ := hy
      cases ex
      rw [List.length_map] at hi
      have hir : i < r.length := h2 ▸ hi
      have ht : ts[i]? = some ts[i] := List.getElem?_eq_getElem hi
      have ey2 : y = .ref ts[i] := by
        have ey3 : (ts.map V.ref)[i]? = some y := ey
        rw [List.getElem?_map, ht] at ey3
        exact (Option.some.inj ey3).symm
      subst ey2
      have he := List.getElem?_eq_getElem hir
      obtain ⟨⟨e, c⟩, hec⟩ : ∃ ec, r[i] = ec := ⟨_, rfl⟩
      rw [hec] at he
      have hok : okT (e, c) := hec ▸ ok _ (List.getElem_mem hir)
      have o1 : 2 ≤ e := hok.1
      have o2 : e ≤ 1000 := hok.2.1
      have hrt := h3 i _ _ ht he
      have smT : Same H1 (upd H2 Tt (.tup [.int (i : Nat), .ref ts[i]])) := sm.trans (same_new nT)
      refine ⟨Tt, _, rfl, st_of upd_same, rfl, _, _, rfl, _, _, rfl, ts[i], _, rfl, st_of (smT _ _ hrt), rfl, _, _, rfl, _, _, rfl, rfl, rfl, ?_⟩
      refine ⟨.int c, rfl, .int (comeF r i n), rfl, c, comeF r i n, rfl, rfl, .int e, rfl, _, e, rfl, ⟨by omega, by omega⟩, fun D hD => ?_⟩
      have smD := smT.trans (same_new (o := .tup [.int ((c + comeF r i n) / e), .int ((c + comeF r i n) % e)]) hD)
      refine ⟨D, _, rfl, st_of upd_same, rfl, _, _, rfl, _, _, rfl, rfl, ?_⟩
      have wa := who_at r n i e c he hre
      refine ⟨_, rfl, rfl, _, rfl, ite2 (fun z => ?_) (fun z => ?_)⟩
      · have z1 : (c + comeF r i n) % e = 0 := V.int.inj (of_decide_eq_true z)
        refine ⟨_, rfl, ?_⟩
        have := q _ (s1.trans smD)
        rw [wa.mpr z1] at this
        exact this
      · have z1 : ¬ (c + comeF r i n) % e = 0 := fun z2 => z (decide_eq_true (congrArg V.int z2))
        refine ⟨_, rfl, _, rfl, _, _, rfl, rfl, smD, reach_succ hre (fun z2 => z1 (wa.mp z2)), _, _, _, _, _, _, rfl, (come_succ r n i e c he).symm⟩
    · obtain ⟨sm, hre, z, y3, y4, y5, y6, y7, rfl, rfl⟩ := hp
      have hn : whoF r n = none := by
        cases k : whoF r n with
        | none => rfl
        | some j =>
          have := whoF_lt r n j k
          have := hre j k
          rw [List.length_map] at this
          omega
      have := q _ (s1.trans sm)
      rw [hn] at this
      exact this

/-! what was seen -/
def SeenOk (os : List (Option Nat)) (m : Nat) : Prop := os.length ≤ 200 ∧ ∀ j, some j ∈ os → j < m
def spSeen : Sp := fun vs H Q _ => ∃ (p : Addr) (os : List (Option Nat)), vs = [.ref p] ∧ H p = some (.tup (os.map ofO)) ∧ SeenOk os 8 ∧ ∀ H', Same H H' → Q (.bl true) H'
theorem ok_is_seen (T : Top K mg) : FnOk P w K mg base CX0 2 T.a_is_seen T.fd_is_seen ["thing"] spSeen := by
  refine T.F_is_seen.ok sc_is_seen (fun vs H Q E h => ?_) (fun cdv A outer s H vs Q E hr h => ?_)
  · obtain ⟨p, os, rfl, _⟩ := h
    rfl
  · obtain ⟨p, os, rfl, h1, ⟨hlen, hall⟩, q⟩ := h
    refine ⟨_, (pss_cons (ps_if (PW.pt (pw_or (pt_not (pt_val (pe_callB call_isi (by rfl) T.z_isinstance (by decide +kernel) (pa_cons (pv 0) (pa_cons (pe_bltn (v := .ty "tuple") (by rfl) T.z_tuple (by decide +kernel) rfl) pa_nil))))) (pw_or1 (pt_cmpR op_gt (pe_callB call_len_seq (by rfl) T.z_len (by decide +kernel) (pa_cons (pv 0) pa_nil)) (pe_glob (v := .int 200) (by rfl) T.g_MOST_SEEN ⟨_, rfl⟩) (nomark _))))) (pss_one (ps_ret pe_bl)) pss_nil)
      (pss_one (ps_ret (pe_callB (cr_all rfl) (by rfl) T.z_all (by decide +kernel) (pa_cons (pe_lc (own := [("part", 1)]) (by rfl) sc_is_seen.nd (pi_tup (pv 0))
        (blkOk_by (own := [("part", 1)]) (N := ["thing", "part"]) (sc := defScope s_is_seen) (by decide +kernel))
        (fun _ _ _ _ _ => (pg_name (i := 1) sc_is_seen.nd rfl (.inl rfl))) (fun _ _ _ _ _ => pts_nil) (fun _ _ _ _ _ => (pe_or (pe_cmpR op_isN (pv 1) pe_non (nomark _)) (pe_one (pe_call (ok_is_whole T) (hr.mono (by decide)) (by rfl) T.g_is_whole T.F_is_whole.kp T.b_is_whole .nil pass0 (pa_cons (pv 1) (pa_cons pe_int (pa_cons (pe_op op_sub (pe_glob (v := .int 8) (by rfl) T.g_MOST_TAKERS ⟨_, rfl⟩) pe_int) pa_nil)))))))) pa_nil))))), ?_⟩
    refine ⟨.ref p, rfl, .ref p, .ty "tuple", .type "tuple", .type "tuple", true, rfl, .ty _, .base (.tup h1), kit_ty (by decide +kernel), true, rfl, iteF ?_⟩
    refine ⟨.ref p, rfl, p, _, rfl, .inr (st_of h1), _, _, rfl, rfl, false, ?_, iteF ?_⟩
    · rw [List.length_map]
      have : ¬ ((200 : Int) < (os.length : Int)) := by omega
      show V.bl (decide ((200 : Int) < (os.length : Int))) = _
      rw [decide_eq_false this]
    refine ⟨.ref p, rfl, p, rfl, ⟨_, st_of h1⟩, fun D hD => ?_⟩
    refine lc_tup (K := K) (a := p) (xs := os.map ofO) (fun i H' => Same H H' ∧ H' D = some (.lst ((List.replicate i true).map V.bl))) ⟨same_new hD, upd_same⟩ (fun i H' _ hp => st_of (hp.1 _ _ h1)) (fun i x H' hx hp => ?_) (fun H' hp => ?_)
    · obtain ⟨sm, hd⟩ := hp
      rw [List.getElem?_map] at hx
      obtain ⟨o, ho, hxe⟩ := Option.map_eq_some_iff.mp hx
      subst hxe
      have hi : i < os.length := (List.getElem?_eq_some_iff.mp ho).1
      have fin : ∃ acc, H' D = some (.lst acc) ∧ acc.length < sizeLine ∧ Same H (upd H' D (.lst (acc ++ [V.bl true]))) ∧ (upd H' D (.lst (acc ++ [V.bl true]))) D = some (.lst ((List.replicate (i + 1) true).map V.bl)) := by
        refine ⟨_, hd, ?_, same_upd_new hD sm, ?_⟩
        · rw [List.length_map, List.length_replicate]
          exact small1000 (by omega)
        · rw [upd_same, List.replicate_succ', List.map_append]
          rfl
      refine ⟨rfl, yesT ?_⟩
      cases o with
      | none => exact ⟨.non, rfl, rfl, _, rfl, iteT fin⟩
      | some j =>
        have hj := hall j (List.mem_of_getElem? ho)
        refine ⟨.int (j : Nat), rfl, rfl, _, rfl, iteF ⟨.int (j : Nat), rfl, 8, 1, rfl, rfl, (j : Int), 0, 7, rfl, ?_⟩⟩
        rw [decide_eq_true (show (0 : Int) ≤ (j : Int) by omega), decide_eq_true (show (j : Int) ≤ 7 by omega)]
        exact fin
    · obtain ⟨sm, hd⟩ := hp
      refine ⟨D, _, rfl, sq_of hd, ?_⟩
      have e : (List.replicate (os.map ofO).length true).all id = true := by simp
      rw [e]
      exact q H' sm
def spCheckSeen : Sp := fun vs H Q _ => ∃ (p : Addr) (os : List (Option Nat)), vs = [.ref p] ∧ H p = some (.tup (os.map ofO)) ∧ SeenOk os 8 ∧ ∀ H', Same H H' → Q .non H'
theorem ok_check_seen (T : Top K mg) : FnOk P w K mg base CX0 3 T.a_check_seen T.fd_check_seen ["thing"] spCheckSeen := by
  refine T.F_check_seen.ok sc_check_seen (fun vs H Q E h => ?_) (fun cdv A outer s H vs Q E hr h => ?_)
  · obtain ⟨p, os, rfl, _⟩ := h
    rfl
  · obtain ⟨p, os, rfl, h1, hok, q⟩ := h
    refine ⟨_, (pss_one (ps_if (pt_not (pt_val (pe_call (ok_is_seen T) (hr.mono (by decide)) (by rfl) T.g_is_seen T.F_is_seen.kp T.b_is_seen .nil pass0 (pa_cons (pv 0) pa_nil)))) (pss_one ps_never) pss_nil)), ?_⟩
    exact ⟨.ref p, rfl, p, os, rfl, h1, hok, fun H' sm => ⟨true, rfl, iteF (q H' sm)⟩⟩
def spPlaces : Sp := fun vs H Q _ => ∃ (p : Addr) (os : List (Option Nat)) (m : Nat), vs = [.ref p, .int (m : Nat)] ∧ H p = some (.tup (os.map ofO)) ∧ SeenOk os m ∧ ∀ H', Same H H' → Q .non H'
theorem ok_check_places (T : Top K mg) : FnOk P w K mg base CX0 1 T.a_check_places T.fd_check_places ["seen", "many"] spPlaces := by
  refine T.F_check_places.ok sc_check_places (fun vs H Q E h => ?_) (fun cdv A outer s H vs Q E hr h => ?_)
  · obtain ⟨p, os, m, rfl, _⟩ := h
    rfl
  · obtain ⟨p, os, m, rfl, h1, ⟨hlen, hall⟩, q⟩ := h
    refine ⟨_, (pss_one (ps_if (pt_val (pe_callB (cr_any rfl) (by rfl) T.z_any (by decide +kernel) (pa_cons (pe_lc (own := [("place", 2)]) (by rfl) sc_check_places.nd (pi_tup (pv 0))
        (blkOk_by (own := [("place", 2)]) (N := ["seen", "many", "place"]) (sc := defScope s_check_places) (by decide +kernel))
        (fun _ _ _ _ _ => (pg_name (i := 2) sc_check_places.nd rfl (.inl rfl))) (fun _ _ _ _ _ => pts_nil) (fun _ _ _ _ _ => (pe_and (pe_cmpR op_notN (pv 2) pe_non (nomark _)) (pe_one (pe_cmpR op_ge (pv 2) (pv 1) (nomark _)))))) pa_nil))) (pss_one ps_never) pss_nil)), ?_⟩
    refine ⟨.ref p, rfl, p, rfl, ⟨_, st_of h1⟩, fun D hD => ?_⟩
    refine lc_tup (K := K) (a := p) (xs := os.map ofO) (fun i H' => Same H H' ∧ H' D = some (.lst ((List.replicate i false).map V.bl))) ⟨same_new hD, upd_same⟩ (fun i H' _ hp => st_of (hp.1 _ _ h1)) (fun i x H' hx hp => ?_) (fun H' hp => ?_)
    · obtain ⟨sm, hd⟩ := hp
      rw [List.getElem?_map] at hx
      obtain ⟨o, ho, hxe⟩ := Option.map_eq_some_iff.mp hx
      subst hxe
      have hi : i < os.length := (List.getElem?_eq_some_iff.mp ho).1
      have fin : ∃ acc, H' D = some (.lst acc) ∧ acc.length < sizeLine ∧ Same H (upd H' D (.lst (acc ++ [V.bl false]))) ∧ (upd H' D (.lst (acc ++ [V.bl false]))) D = some (.lst ((List.replicate (i + 1) false).map V.bl)) := by
        refine ⟨_, hd, ?_, same_upd_new hD sm, ?_⟩
        · rw [List.length_map, List.length_replicate]
          exact small1000 (by omega)
        · rw [upd_same, List.replicate_succ', List.map_append]
          rfl
      refine ⟨rfl, yesT ?_⟩
      cases o with
      | none => exact ⟨.non, rfl, rfl, _, rfl, iteF fin⟩
      | some j =>
        have hj := hall j (List.mem_of_getElem? ho)
        refine ⟨.int (j : Nat), rfl, rfl, _, rfl, iteT ⟨.int (j : Nat), rfl, .int (m : Nat), rfl, (j : Int), (m : Int), rfl, rfl, ?_⟩⟩
        show ∃ acc, H' D = some (.lst acc) ∧ acc.length < sizeLine ∧ Same H (upd H' D (.lst (acc ++ [V.bl (decide ((m : Int) ≤ (j : Int)))]))) ∧ (upd H' D (.lst (acc ++ [V.bl (decide ((m : Int) ≤ (j : Int)))]))) D = some (.lst ((List.replicate (i + 1) false).map V.bl))
        rw [decide_eq_false (show ¬ (m : Int) ≤ (j : Int) by omega)]
        exact fin
    · obtain ⟨sm, hd⟩ := hp
      refine ⟨D, _, rfl, sq_of hd, ?_⟩
      have e : (List.replicate (os.map ofO).length false).any id = false := by simp
      rw [e]
      exact ⟨false, rfl, iteF (q H' sm)⟩
/-- a list of takers -/
def TksL (H : Hp) (q : Addr) (ps : List (Int × Int)) : Prop := ∃ ts : List Addr, H q = some (.lst (ts.map V.ref)) ∧ PairsAt H ts ps
theorem TksL.same {H H' : Hp} {q : Addr} {ps : List (Int × Int)} (h : TksL H q ps) (s : Same H H') : TksL H' q ps := by
  obtain ⟨ts, h1, h2⟩ := h
  exact ⟨ts, s _ _ h1, h2.keep (tupS_of s)⟩
theorem pairs_upd {H : Hp} {q : Addr} {ts : List Addr} {ps : List (Int × Int)} {xs : List V} {o : HO} (h : PairsAt H ts ps) (hq : H q = some (.lst xs)) : PairsAt (upd H q o) ts ps :=
  ⟨h.1, fun i t ec a b => by
    have := h.2 i t ec a b
    rw [upd_ne (ne_of this hq (by intro z; cases z))]
    exact this⟩
/-- one more taker -/
theorem TksL.push {H : Hp} {q t : Addr} {ps : List (Int × Int)} {x : Int × Int} {ts : List Addr} (h1 : H q = some (.lst (ts.map V.ref))) (h2 : PairsAt H ts ps) (ht : H t = some (.tup [.int x.1, .int x.2])) :
    TksL (upd H q (.lst (ts.map V.ref ++ [.ref t]))) q (ps ++ [x]) := by
  refine ⟨ts ++ [t], by rw [upd_same, List.map_append]; rfl, ?_⟩
  refine (pairs_upd h2 h1).app (us := [t]) (q := [x]) ⟨rfl, fun i u g a b => ?_⟩
  cases i with
  | zero =>
    cases a; cases b
    rw [upd_ne (ne_of ht h1 (by intro z; cases z))]
    exact ht
  | succ i => simp at a
theorem eq_intsW {K : PySem.W.Frag} {H : Hp} {a b : Addr} {ns ms : List Int} {Q : VK} (ha : SqL K H a (ns.map V.int)) (hb : SqL K H b (ms.map V.int)) (q : Q (.bl (decide (ns = ms))) H) : rEqD K (.ref a) (.ref b) H Q := by
  refine ⟨_, _, dp_ints ha, dp_ints hb, shp_ints ns, shp_ints ms, ?_⟩
  rw [eqv_list]
  exact q
def spTop : Sp := fun vs H Q _ => ∃ (c : Addr) (os : List (Option Nat)) (i : Nat), vs = [.ref c, .int (i : Nat)] ∧ H c = some (.lst (os.map ofO)) ∧ os.length ≤ 200 ∧
  ∀ H' q, Same H H' → H q = none → TksL H' q (fitT (os.map fun o => decide (o = some i))) → Q (.ref q) H'
theorem ok_takers_of_place (T : Top K mg) : FnOk P w K mg base CX0 1 T.a_takers_of_place T.fd_takers_of_place ["coming", "place"] spTop := by
  refine T.F_takers_of_place.ok sc_takers_of_place (fun vs H Q E h => ?_) (fun cdv A outer s H vs Q E hr h => ?_)
  · obtain ⟨c, os, i, rfl, _⟩ := h
    rfl
  · obtain ⟨c, os, pl, rfl, h1, hlen, q⟩ := h
    refine ⟨_, (pss_cons (ps_setLc (i := 2) (g := (gTup K 2 (gCons (gName 6) (gCons (gName 7) gNil)))) (own := [("at", 6), ("thing", 7)]) (by rfl) sc_takers_of_place.nd rfl rfl (sw_true rfl rfl rfl (by decide +kernel)) (pi_enumS (by rfl) T.z_enumerate (pa_cons (pv 0) pa_nil) (pk_cons pe_int pk_nil))
        (blkOk_by (own := [("at", 6), ("thing", 7)]) (N := ["coming", "place", "seen_taken", "told", "every", "counted", "at", "thing"]) (sc := defScope s_takers_of_place) (by decide +kernel))
        (fun _ _ _ _ _ => (pg_tup (by rfl) (pgs_cons (pg_name (i := 6) sc_takers_of_place.nd rfl (.inl rfl)) (pgs_cons (pg_name (i := 7) sc_takers_of_place.nd rfl (.inl rfl)) pgs_nil)))) (fun _ _ _ _ _ => (pts_one (pt_cmpR op_eq (pv 7) (pv 1) (nomark _)))) (fun _ _ _ _ _ => (pv 6)))
      (pss_cons (ps_set (i := 3) sc_takers_of_place.nd rfl (.inl rfl) (pe_lst pa_nil))
      (pss_cons (ps_for PassesOwn.never rfl (pi_range2 (by rfl) T.z_range (pa_cons (pe_glob (v := .int 2) (by rfl) T.g_LEAST_EVERY ⟨_, rfl⟩) (pa_cons (pe_op op_add (pe_glob (v := .int 40) (by rfl) T.g_MOST_EVERY_SEEN ⟨_, rfl⟩) pe_int) pa_nil))) (pg_name (i := 4) sc_takers_of_place.nd rfl (.inl rfl))
        (pss_one (ps_for PassesOwn.never rfl (pi_range1 (by rfl) T.z_range (pa_cons (pv 4) pa_nil)) (pg_name (i := 5) sc_takers_of_place.nd rfl (.inl rfl))
        (pss_one (ps_if (pt_cmpR (op_eqD hr.units) (pe_listRg3 (by rfl) (by rfl) T.z_list (by rfl) T.z_range (pa_cons (pe_op op_sub (pv 4) (pv 5)) (pa_cons (pe_op op_add (pe_callB call_len_seq (by rfl) T.z_len (by decide +kernel) (pa_cons (pv 0) pa_nil)) pe_int) (pa_cons (pv 4) pa_nil)))) (pv 2) (nomark _)) (pss_one (ps_expr (pe_bm PySem.F.plainAttrs_list PySem.F.slot_list_append PySem.F.type_list_append mt_append (pv 3) (pa_cons (pe_tup (pa_cons (pv 4) (pa_cons (pv 5) pa_nil))) pa_nil)))) pss_nil)))))
      (pss_one (ps_ret (pv 3)))))), ?_⟩
    obtain ⟨came, hcame⟩ : ∃ came : List Bool, came = os.map fun o => decide (o = some pl) := ⟨_, rfl⟩
    have cl : came.length = os.length := by rw [hcame, List.length_map]
    -- seen_taken
    refine ⟨.ref c, rfl, c, os.map ofO, 1, rfl, rfl, sq_of h1, by decide, by decide, fun D nD => ?_⟩
    refine lc_it (walk_enumS (K := K) (a := c) (xs := os.map ofO) (k := 1)) (fun i H' => Same H H' ∧ H' D = some (.lst ((posF came i).map V.int))) ⟨same_new nD, upd_same⟩ (fun i H' _ hp => sq_of (hp.1 _ _ h1)) (fun i v H' H'' hi hp hy => ?_) (fun H2 hp => ?_)
    · obtain ⟨sm, hd⟩ := hp
      obtain ⟨Tt, x, y, rfl, nT, rfl, ex, ey⟩ := hy
      cases ex
      rw [List.length_map] at hi
      have hv := List.getElem?_eq_getElem hi
      obtain ⟨o, hoe⟩ : ∃ o, os[i] = o := ⟨_, rfl⟩
      rw [hoe] at hv
      have ey2 : y = ofO o := by
        have ey3 : (os.map ofO)[i]? = some y := ey
        rw [List.getElem?_map, hv] at ey3
        exact (Option.some.inj ey3).symm
      subst ey2
      have hc : came.getD i false = decide (o = some pl) := by
        rw [hcame]
        simp [List.getD, hv]
      have pln := pos_len came i
      have sT := same_new (o := .tup [.int (1 + (i : Nat)), ofO o]) nT
      refine ⟨Tt, _, rfl, st_of upd_same, rfl, _, _, rfl, _, _, rfl, rfl, ?_⟩
      refine ⟨rfl, ofO o, rfl, .int (pl : Nat), rfl, scal_ofO o (some pl), _, rfl, ?_⟩
      have dq : decide (ofO o = V.int (pl : Nat)) = decide (o = some pl) := by
        rw [decide_eq_decide]
        exact ⟨fun z => ofO_inj (b := some pl) z, fun z => by rw [z]; rfl⟩
      rw [dq, ← hc]
      refine ite2 (fun z => ⟨_, rfl, _, sT _ _ hd, ?_, same_upd_new nD (sm.trans sT), ?_⟩) (fun z => ⟨sm.trans sT, ?_⟩)
      · rw [List.length_map]
        exact small1000 (by omega)
      · rw [upd_same, pos_succ, if_pos z, List.map_append]
        show some (HO.lst (_ ++ [V.int (1 + (i : Int))])) = some (HO.lst (_ ++ [V.int ((i : Int) + 1)]))
        rw [Int.add_comm]
      · rw [pos_succ, if_neg z, List.append_nil]
        exact sT _ _ hd
    · obtain ⟨s2, hD⟩ := hp
      rw [List.length_map, ← cl] at hD
      refine ⟨Nat.zero_le _, fun o no => ?_⟩
      have so := same_new (o := .lst []) no
      have noH : H o = none := s2.free no
      refine ⟨40, 1, rfl, rfl, 2, 41, rfl, ⟨by decide, by decide, by decide, by decide⟩, ?_⟩
      refine for_range (lo := 2) (n := 39) (fun j σ H' => Same H2 H' ∧ TksL H' o ((allTo j).filter fun x => agreeB x.1 x.2 came) ∧ ∃ y4 y5 y6 y7 : Option V, σ = [some (.ref c), some (.int (pl : Nat)), some (.ref D), some (.ref o), y4, y5, y6, y7])
        ⟨so, ⟨[], upd_same, rfl, fun i t ec h => nomatch h⟩, none, none, none, none, rfl⟩ (fun j σ H3 hj hp => ?_) (fun σ H3 hp => ?_)
      · obtain ⟨s3, hT3, y4, y5, y6, y7, rfl⟩ := hp
        refine ⟨.int (2 + (j : Int)), rfl, _, rfl, by omega, by omega, ?_⟩
        refine for_range (lo := 0) (n := (2 + (j : Int)).toNat) (fun k σ H' => Same H2 H' ∧ TksL H' o ((allTo j).filter (fun x => agreeB x.1 x.2 came) ++ ((rowT j).take k).filter fun x => agreeB x.1 x.2 came) ∧ ∃ y5 y6 y7 : Option V, σ = [some (.ref c), some (.int (pl : Nat)), some (.ref D), some (.ref o), some (.int (2 + (j : Int))), y5, y6, y7])
          ⟨s3, by rw [List.take_zero]; show TksL H3 o (_ ++ []); rw [List.append_nil]; exact hT3, _, _, _, rfl⟩ (fun k σ H4 hk hp => ?_) (fun σ H4 hp => ?_)
        · obtain ⟨s4, hT4, y5, y6, y7, rfl⟩ := hp
          have hk2 : k < j + 2 := by omega
          have hget := rowT_get hk2
          have e0 : 0 + (k : Int) = (k : Int) := by omega
          obtain ⟨ts, t1, t2⟩ := id hT4
          have tl : ts.length ≤ 819 := by
            have q1 := t2.1
            rw [List.length_append] at q1
            have q2 := List.length_filter_le (fun x : Int × Int => agreeB x.1 x.2 came) (allTo j)
            have q3 := List.length_filter_le (fun x : Int × Int => agreeB x.1 x.2 came) ((rowT j).take k)
            rw [List.length_take, rowT_len] at q3
            have q4 : (allTo j).length + (j + 2) ≤ 819 := by
              have : ∀ j, j < 39 → (allTo j).length + (j + 2) ≤ 819 := by decide +kernel
              exact this j hj
            omega
          have hn0 : 0 ≤ ((os.length : Int) + (k : Int)) / (2 + (j : Int)) := Int.ediv_nonneg (by omega) (by omega)
          have hc4 := (s2.trans s4) _ _ h1
          refine ⟨.int (2 + (j : Int)), rfl, .int (0 + (k : Int)), rfl, _, _, rfl, rfl, .ref c, rfl, c, _, rfl, .inl (sq_of hc4), _, 1, rfl, rfl, .int (2 + (j : Int)), rfl, 2 + (j : Int) - (0 + (k : Int)), ((os.map ofO).length : Int) + 1, 2 + (j : Int), (((os.length : Int) + (k : Int)) / (2 + (j : Int))).toNat, rfl, ?_, ?_, fun U nU => ?_⟩
          · rw [List.length_map]
            refine RgC.pos (by omega) (by omega) (by omega) (by omega) (by omega) (by omega) ?_
            rw [Int.toNat_of_nonneg hn0]
            split
            · rename_i hlt
              rw [show (os.length : Int) + 1 - (2 + (j : Int) - (0 + (k : Int))) - 1 = ((os.length : Int) + (k : Int)) + (2 + (j : Int)) * (-1) by omega, Int.add_mul_ediv_left _ _ (by omega)]
              omega
            · exact Int.ediv_eq_zero_of_lt (by omega) (by omega)
          · have := Int.ediv_le_self (2 + (j : Int)) (show 0 ≤ (os.length : Int) + (k : Int) by omega)
            omega
          have sU := same_new (o := .lst ((rgC (2 + (j : Int) - (0 + (k : Int))) (2 + (j : Int)) (((os.length : Int) + (k : Int)) / (2 + (j : Int))).toNat).map V.int)) nU
          have ag := rg_agree (e := 2 + (j : Int)) (c := (k : Int)) (by omega) (by omega) (by omega) came
          have tk : (rowT j).take (k + 1) = (rowT j).take k ++ [(2 + (j : Int), (k : Int))] := by
            rw [List.take_add_one, hget]
            show _ ++ [(((j + 2 : Nat) : Int), (k : Int))] = _
            rw [show ((j + 2 : Nat) : Int) = 2 + (j : Int) by omega]
          rw [tk, List.filter_append, ← List.append_assoc]
          have s4U := s4.trans sU
          have t2U := t2.keep (tupS_of sU)
          have t1U := sU _ _ t1
          refine ⟨.ref D, rfl, eq_intsW (sq_of upd_same) (sq_of (sU _ _ (s4 _ _ hD))) ⟨agreeB (2 + (j : Int)) (k : Int) came, ?_, ite2 (fun z => ?_) (fun z => ?_)⟩⟩
          · rw [e0, ← ag, cl]
          · refine ⟨.ref o, rfl, .inl ⟨rfl, _, sq_of t1U⟩, _, rfl, _, rfl, by show 2 ≤ sizeLine; decide, fun t nt => ?_⟩
            have st := same_new (o := .tup [.int (2 + (j : Int)), .int (0 + (k : Int))]) nt
            refine ⟨o, _, _, rfl, rfl, st _ _ t1U, ?_, same_upd_new no (s4U.trans st), ?_, _, _, _, rfl⟩
            · rw [List.length_map]
              exact small1000 (by omega)
            · have ef : [(2 + (j : Int), (k : Int))].filter (fun x : Int × Int => agreeB x.1 x.2 came) = [(2 + (j : Int), (k : Int))] := by
                rw [List.filter_cons_of_pos (p := fun x : Int × Int => agreeB x.1 x.2 came) z]
                rfl
              rw [ef]
              exact TksL.push (st _ _ t1U) (t2U.keep (tupS_of st)) (by rw [upd_same, e0])
          · have ef : [(2 + (j : Int), (k : Int))].filter (fun x : Int × Int => agreeB x.1 x.2 came) = [] := by
              rw [List.filter_cons_of_neg (p := fun x : Int × Int => agreeB x.1 x.2 came) z]
              rfl
            rw [ef, List.append_nil]
            exact ⟨s4U, ⟨ts, t1U, t2U⟩, _, _, _, rfl⟩
        · obtain ⟨s4, hT4, y5, y6, y7, rfl⟩ := hp
          have e1 : (rowT j).take (2 + (j : Int)).toNat = rowT j := List.take_of_length_le (by rw [rowT_len]; omega)
          rw [e1, ← List.filter_append, ← allTo_succ] at hT4
          exact ⟨s4, hT4, _, _, _, _, rfl⟩
      · obtain ⟨s3, hT3, y4, y5, y6, y7, rfl⟩ := hp
        have := q _ o (s2.trans s3) noH (by rw [← hcame]; exact hT3)
        exact ⟨.ref o, rfl, this⟩
/-- a list of lists of takers -/
def FitsL (H : Hp) (q : Addr) (pss : List (List (Int × Int))) : Prop := ∃ qs : List Addr, H q = some (.lst (qs.map V.ref)) ∧ qs.length = pss.length ∧ ∀ (i : Nat) (t : Addr) (ps : List (Int × Int)), qs[i]? = some t → pss[i]? = some ps → TksL H t ps
theorem FitsL.same {H H' : Hp} {q : Addr} {pss : List (List (Int × Int))} (h : FitsL H q pss) (s : Same H H') : FitsL H' q pss := by
  obtain ⟨qs, h1, h2, h3⟩ := h
  exact ⟨qs, s _ _ h1, h2, fun i t ps a b => (h3 i t ps a b).same s⟩
theorem TksL.upd_ne {H : Hp} {q t : Addr} {ps : List (Int × Int)} {xs : List V} {o : HO} (h : TksL H t ps) (hq : H q = some (.lst xs)) (hne : t ≠ q) : TksL (upd H q o) t ps := by
  obtain ⟨ts, h1, h2⟩ := h
  exact ⟨ts, by rw [L2.upd_ne hne]; exact h1, pairs_upd h2 hq⟩
def spFits : Sp := fun vs H Q _ => ∃ (p : Addr) (os : List (Option Nat)) (m : Nat), vs = [.ref p, .int (m : Nat)] ∧ H p = some (.tup (os.map ofO)) ∧ SeenOk os m ∧ 1 ≤ m ∧ m ≤ 8 ∧
  ∀ (H' : Hp) (q : Addr) (qs : List Addr), Same H H' → H q = none → H' q = some (.lst (qs.map V.ref)) → (∀ t ∈ qs, H t = none ∧ t ≠ q) → qs.Nodup → FitsL H' q (fitsF os m) → Q (.ref q) H'
theorem ok_fits (T : Top K mg) : FnOk P w K mg base CX0 4 T.a_fits T.fd_fits ["seen", "many"] spFits := by
  refine T.F_fits.ok sc_fits (fun vs H Q E h => ?_) (fun cdv A outer s H vs Q E hr h => ?_)
  · obtain ⟨p, os, m, rfl, _⟩ := h
    rfl
  · obtain ⟨p, os, m, rfl, h1, hok, m1, m8, q⟩ := h
    refine ⟨_, (pss_cons (ps_expr (pe_call (ok_check_seen T) (hr.mono (by decide)) (by rfl) T.g_check_seen T.F_check_seen.kp T.b_check_seen .nil pass0 (pa_cons (pv 0) pa_nil)))
      (pss_cons (ps_expr (pe_call (ok_check_number T) (hr.mono (by decide)) (by rfl) T.g_check_number T.F_check_number.kp T.b_check_number .nil pass0 (pa_cons (pv 1) (pa_cons pe_int (pa_cons (pe_glob (v := .int 8) (by rfl) T.g_MOST_TAKERS ⟨_, rfl⟩) pa_nil)))))
      (pss_cons (ps_expr (pe_call (ok_check_places T) (hr.mono (by decide)) (by rfl) T.g_check_places T.F_check_places.kp T.b_check_places .nil pass0 (pa_cons (pv 0) (pa_cons (pv 1) pa_nil))))
      (pss_cons (ps_set (i := 2) sc_fits.nd rfl (.inl rfl) (pe_lst pa_nil))
      (pss_cons (ps_set (i := 3) sc_fits.nd rfl (.inl rfl) (pe_callTy call_list_of (by rfl) T.z_list (by decide +kernel) (pa_cons (pv 0) pa_nil)))
      (pss_cons (ps_for PassesOwn.never rfl (pi_range1 (by rfl) T.z_range (pa_cons (pv 1) pa_nil)) (pg_name (i := 4) sc_fits.nd rfl (.inr rfl))
        (pss_cons (ps_expr (pe_bm PySem.F.plainAttrs_list PySem.F.slot_list_append PySem.F.type_list_append mt_append (pv 2) (pa_cons (pe_call (ok_takers_of_place T) (hr.mono (by decide)) (by rfl) T.g_takers_of_place T.F_takers_of_place.kp T.b_takers_of_place .nil pass0 (pa_cons (pv 3) (pa_cons (pv 4) pa_nil))) pa_nil)))
      (pss_one (ps_setLc (i := 3) (own := [("thing", 5)]) (by rfl) sc_fits.nd rfl rfl (sw_true rfl rfl rfl (by decide +kernel)) (pi_list (pv 3))
        (blkOk_by (own := [("thing", 5)]) (N := ["seen", "many", "told", "coming", "place", "thing"]) (sc := defScope s_fits) (by decide +kernel))
        (fun _ _ _ _ _ => (pg_name (i := 5) sc_fits.nd rfl (.inl rfl))) (fun _ _ _ _ _ => (pts_one (pt_cmpR op_ne (pv 5) (pv 4) (nomark _)))) (fun _ _ _ _ _ => (pv 5))))))
      (pss_one (ps_ret (pv 2))))))))), ?_⟩
    refine ⟨.ref p, rfl, p, os, rfl, h1, ⟨hok.1, fun j hj => by have := hok.2 j hj; omega⟩, fun H1 s1 => ?_⟩
    refine ⟨.int (m : Nat), rfl, (m : Int), 1, 8, rfl, by omega, by omega, ?_⟩
    refine ⟨.ref p, rfl, .int (m : Nat), rfl, p, os, m, rfl, s1 _ _ h1, hok, fun H2 s2 => ?_⟩
    have s12 := s1.trans s2
    refine ⟨Nat.zero_le _, fun o no => ?_⟩
    have so := same_new (o := .lst []) no
    have noH : H o = none := s12.free no
    refine ⟨.ref p, rfl, p, _, rfl, .inr (st_of (so _ _ (s12 _ _ h1))), fun c nc => ?_⟩
    have sc := same_new (o := .lst (os.map ofO)) nc
    have hlen := hok.1
    refine ⟨.int (m : Nat), rfl, _, rfl, by omega, by omega, ?_⟩
    refine for_range (lo := 0) (n := ((m : Nat) : Int).toNat) (fun i σ H' => Same H2 H' ∧ (∃ c, H' c = some (.lst ((os.filter (geB i)).map ofO)) ∧ c ≠ o ∧ ∃ y4 y5 : Option V, σ = [some (.ref p), some (.int (m : Nat)), some (.ref o), some (.ref c), y4, y5]) ∧
        ∃ qs : List Addr, H' o = some (.lst (qs.map V.ref)) ∧ qs.length = i ∧ (∀ t ∈ qs, H2 t = none ∧ t ≠ o) ∧ qs.Nodup ∧ (∀ t ∈ qs, H' t ≠ none) ∧ ∀ (j : Nat) (t : Addr), qs[j]? = some t → TksL H' t (fitT (cameF os j)))
      ⟨so.trans sc, ⟨c, by rw [ge_zero]; exact upd_same, (ne_of_none (upd_same (a := o)) nc).symm, none, none, rfl⟩, [], sc _ _ upd_same, rfl, (fun t ht => nomatch ht), .nil, (fun t ht => nomatch ht), fun j t h => nomatch h⟩ (fun i σ H3 hi hp => ?_) (fun σ H3 hp => ?_)
    · obtain ⟨s3, ⟨c3, hc3, nco, y4, y5, rfl⟩, qs, g1, g2, g3, g4, g5, g6⟩ := hp
      have hi8 : i < 8 := by omega
      have fl := List.length_filter_le (geB i) os
      refine ⟨.ref o, rfl, .inl ⟨rfl, _, sq_of g1⟩, .ref c3, rfl, _, rfl, c3, os.filter (geB i), i, ?_, hc3, by omega, fun H4 t s4 nt ht => ?_⟩
      · show [V.ref c3, V.int (0 + (i : Int))] = [V.ref c3, V.int (i : Int)]
        rw [Int.zero_add]
      have ht : TksL H4 t (fitT (cameF os i)) := by rw [cameF_eq]; exact ht
      have nto : t ≠ o := fun e => by rw [e, g1] at nt; cases nt
      have g1' := s4 _ _ g1
      refine ⟨o, _, _, rfl, rfl, g1', ?_, ?_⟩
      · rw [List.length_map]
        exact small1000 (by omega)
      have ho5 : (upd H4 o (.lst (qs.map V.ref ++ [.ref t]))) o = some (.lst ((qs ++ [t]).map V.ref)) := by rw [upd_same, List.map_append]; rfl
      have hc5 : (upd H4 o (.lst (qs.map V.ref ++ [.ref t]))) c3 = some (.lst ((os.filter (geB i)).map ofO)) := by rw [L2.upd_ne nco]; exact s4 _ _ hc3
      have s5 : Same H2 (upd H4 o (.lst (qs.map V.ref ++ [.ref t]))) := same_upd_new no (s3.trans s4)
      have g6' : ∀ (j : Nat) (t' : Addr), (qs ++ [t])[j]? = some t' → TksL (upd H4 o (.lst (qs.map V.ref ++ [.ref t]))) t' (fitT (cameF os j)) := by
        intro j t' hj
        rcases Nat.lt_trichotomy j qs.length with z | z | z
        · rw [List.getElem?_append_left z] at hj
          exact ((g6 j t' hj).same s4).upd_ne g1' (g3 t' (List.mem_of_getElem? hj)).2
        · subst z
          have e0 : t = t' := by simpa using hj
          subst e0
          rw [g2]
          exact ht.upd_ne g1' nto
        · rw [List.getElem?_eq_none (by rw [List.length_append]; simp; omega)] at hj
          cases hj
      have hne : ∀ t' ∈ qs ++ [t], (upd H4 o (.lst (qs.map V.ref ++ [.ref t]))) t' ≠ none := fun t' hm => by
        obtain ⟨j, hj⟩ := List.mem_iff_getElem?.mp hm
        obtain ⟨ts, z, _⟩ := g6' j t' hj
        rw [z]
        intro w
        cases w
      have nd : (qs ++ [t]).Nodup := by
        rw [List.nodup_append]
        refine ⟨g4, by simp, fun a ha b hb => ?_⟩
        rw [List.mem_singleton.mp hb]
        intro e
        rw [e] at ha
        exact g5 t ha nt
      have fr : ∀ t' ∈ qs ++ [t], H2 t' = none ∧ t' ≠ o := fun t' hm => by
        rcases List.mem_append.mp hm with z | z
        · exact g3 t' z
        · rw [List.mem_singleton.mp z]
          exact ⟨s3.free nt, nto⟩
      generalize upd H4 o (.lst (qs.map V.ref ++ [.ref t])) = H5 at ho5 hc5 s5 g6' hne ⊢
      refine ⟨.ref c3, rfl, c3, rfl, ⟨_, sq_of hc5⟩, fun D nD => ?_⟩
      refine lc_list (K := K) (a := c3) (xs := (os.filter (geB i)).map ofO) (fun k H' => Same H5 H' ∧ H' D = some (.lst ((((os.filter (geB i)).take k).filter fun o => decide (o ≠ some i)).map ofO))) ⟨same_new nD, upd_same⟩ (fun k H' _ hp => sq_of (hp.1 _ _ hc5)) (fun k v H' hv hp => ?_) (fun H6 hp => ?_)
      · obtain ⟨sm, hd⟩ := hp
        rw [List.getElem?_map] at hv
        obtain ⟨f, hf, hve⟩ := Option.map_eq_some_iff.mp hv
        subst hve
        have hk := (List.getElem?_eq_some_iff.mp hf).1
        have et : ((os.filter (geB i)).take (k + 1)).filter (fun o => decide (o ≠ some i)) = ((os.filter (geB i)).take k).filter (fun o => decide (o ≠ some i)) ++ [f].filter (fun o => decide (o ≠ some i)) := by
          rw [List.take_add_one, hf, List.filter_append]
          rfl
        have dl := List.length_filter_le (fun o => decide (o ≠ some i)) ((os.filter (geB i)).take k)
        rw [List.length_take] at dl
        refine ⟨rfl, ofO f, rfl, _, rfl, by cases f <;> rfl, decide (f ≠ some i), ?_, ite2 (fun z => ⟨ofO f, rfl, _, hd, ?_, same_upd_new nD sm, ?_⟩) (fun z => ⟨sm, ?_⟩)⟩
        · show V.bl (!decide (ofO f = V.int (0 + (i : Int)))) = V.bl (decide (f ≠ some i))
          rw [Int.zero_add]
          have : decide (ofO f = V.int (i : Int)) = decide (f = some i) := by
            rw [decide_eq_decide]
            exact ⟨fun z => ofO_inj (b := some i) z, fun z => by rw [z]; rfl⟩
          rw [this]
          by_cases w : f = some i
          · simp [w]
          · simp [w]
        · rw [List.length_map]
          exact small1000 (by omega)
        · rw [upd_same, et, List.filter_cons_of_pos (p := fun o => decide (o ≠ some i)) z, List.map_append]
          rfl
        · rw [et, List.filter_cons_of_neg (p := fun o => decide (o ≠ some i)) z]
          show H' D = some (.lst ((_ ++ []).map ofO))
          rw [List.append_nil]
          exact hd
      · obtain ⟨sm, hd⟩ := hp
        rw [List.length_map, List.take_length, ge_step] at hd
        refine ⟨s5.trans sm, ⟨D, hd, (ne_of_none ho5 nD).symm, _, _, rfl⟩, qs ++ [t], sm _ _ ho5, by rw [List.length_append, g2]; rfl, fr, nd, fun t' hm => ?_, fun j t' hj => (g6' j t' hj).same sm⟩
        intro z
        have := hne t' hm
        cases w : H5 t' with
        | none => exact this w
        | some o' => rw [sm _ _ w] at z; cases z
    · obtain ⟨s3, ⟨c3, hc3, nco, y4, y5, rfl⟩, qs, g1, g2, g3, g4, g5, g6⟩ := hp
      have e0 : ((m : Nat) : Int).toNat = m := by omega
      rw [e0] at g2
      refine ⟨.ref o, rfl, q _ o qs (s12.trans s3) noH g1 (fun t ht => ⟨s12.free (g3 t ht).1, (g3 t ht).2⟩) g4 ⟨qs, g1, by rw [g2]; simp [fitsF], fun i t ps a b => ?_⟩⟩
      have hi : i < m := by rw [← g2]; exact (List.getElem?_eq_some_iff.mp a).1
      unfold fitsF at b
      rw [List.getElem?_map, List.getElem?_range hi] at b
      cases b
      exact g6 i t a

/-! the law's draws -/
def spCell (K : PySem.W.Frag) : Sp := fun vs H Q _ => ∃ (a : Addr) (ns : List Int) (k : Int), vs = [.ref a, .int k] ∧ SqL K H a (ns.map V.int) ∧ 0 ≤ k ∧ ∀ v : Int, Q (.int v) H
theorem ok__law_cell_at (T : Top K mg) : FnOk P w K mg base CX0 1 T.a__law_cell_at T.fd__law_cell_at ["script", "k"] (spCell K) := by
  refine T.F__law_cell_at.ok sc__law_cell_at (fun vs H Q E h => ?_) (fun cdv A outer s H vs Q E hr h => ?_)
  · obtain ⟨a, ns, k, rfl, _⟩ := h
    rfl
  · obtain ⟨a, ns, k, rfl, hS, k0, q⟩ := h
    refine ⟨_, (pss_cons (ps_if (pt_cmpR op_lt (pv 1) (pe_callB call_len_seq (by rfl) T.z_len (by decide +kernel) (pa_cons (pv 0) pa_nil)) (nomark _)) (pss_one (ps_ret (pe_ix ix_list (pv 0) (pv 1) (fun _ _ => rfl)))) pss_nil)
      (pss_one (ps_ret pe_int))), ?_⟩
    refine ⟨.int k, rfl, .ref a, rfl, a, _, rfl, .inl hS, k, _, rfl, rfl, _, rfl, ite2 (fun e => ?_) (fun e => ?_)⟩
    · have e1 : k < ((ns.map V.int).length : Int) := of_decide_eq_true e
      rw [List.length_map] at e1
      have e2 : k.toNat < ns.length := by omega
      exact ⟨.ref a, rfl, .int k, rfl, a, _, k, .int ns[k.toNat], rfl, rfl, hS, at_of (j := k.toNat) (by omega) (by rw [List.getElem?_map, List.getElem?_eq_getElem e2]; rfl), q _⟩
    · exact q 0
def spDraws : Sp := fun vs H Q _ => ∃ cell : Int, vs = [.int cell, .int 400, .int 1000] ∧
  ∀ H' p (ds : List Int), Same H H' → H p = none → H' p = some (.lst (ds.map V.int)) → ds.length = 400 → (∀ x ∈ ds, 0 ≤ x ∧ x < 1000) → Q (.ref p) H'
theorem grow {ds : List Int} {v : Int} (h : ∀ x ∈ ds, 0 ≤ x ∧ x < 1000) (h0 : 0 ≤ v) (h1 : v < 1000) : ∀ x ∈ ds ++ [v], 0 ≤ x ∧ x < 1000 := fun x hx => by
  rcases List.mem_append.mp hx with z | z
  · exact h x z
  · rw [List.mem_singleton.mp z]
    exact ⟨h0, h1⟩
theorem ok__law_draws (T : Top K mg) : FnOk P w K mg base CX0 1 T.a__law_draws T.fd__law_draws ["cell", "many", "size"] spDraws := by
  refine T.F__law_draws.ok sc__law_draws (fun vs H Q E h => ?_) (fun cdv A outer s H vs Q E hr h => ?_)
  · obtain ⟨cell, rfl, _⟩ := h
    rfl
  · obtain ⟨cell, rfl, q⟩ := h
    refine ⟨_, (pss_cons (ps_set (i := 3) sc__law_draws.nd rfl (.inl rfl) (pe_lst pa_nil))
      (pss_cons (ps_set (i := 4) sc__law_draws.nd rfl (.inl rfl) (pe_op op_mul (pv 0) (pe_callTy call_int1 (by rfl) T.z_int (by decide +kernel) (pa_cons (pe_cmpR op_ge (pv 0) (pe_op op_pow pe_int pe_int) (nomark _)) pa_nil))))
      (pss_cons (ps_set (i := 5) sc__law_draws.nd rfl (.inl rfl) (pe_op op_mod (pv 0) pe_int))
      (pss_cons (ps_for PassesOwn.never rfl (pi_range1 (by rfl) T.z_range (pa_cons (pe_op op_add (pv 1) pe_int) pa_nil)) (pg_name (i := 6) sc__law_draws.nd rfl (.inl rfl))
        (pss_cons (ps_set (i := 5) sc__law_draws.nd rfl (.inl rfl) (pe_op op_mod (pe_op op_add (pe_op op_add (pe_op op_add (pe_op op_mul (pv 5) (pv 5)) (pe_op op_mul pe_int (pv 5))) (pv 6)) pe_int) pe_int))
      (pss_one (ps_if (PW.pt (pw_and (pt_cmpR op_gt (pv 6) pe_int (nomark _)) (pw_and1 (pt_cmpR op_gt (pv 4) pe_int (nomark _))))) (pss_cons (ps_expr (pe_bm PySem.F.plainAttrs_list PySem.F.slot_list_append PySem.F.type_list_append mt_append (pv 3) (pa_cons (pe_op op_mod (pv 4) (pv 2)) pa_nil)))
      (pss_one (ps_set (i := 4) sc__law_draws.nd rfl (.inl rfl) (pe_op op_fdiv (pv 4) (pv 2))))) (pss_one (ps_if (pt_cmpR op_gt (pv 6) pe_int (nomark _)) (pss_one (ps_expr (pe_bm PySem.F.plainAttrs_list PySem.F.slot_list_append PySem.F.type_list_append mt_append (pv 3) (pa_cons (pe_op op_mod (pe_op op_fdiv (pv 5) pe_int) (pv 2)) pa_nil)))) pss_nil))))))
      (pss_one (ps_ret (pv 3))))))), ?_⟩
    refine ⟨Nat.zero_le _, fun o no => ?_⟩
    refine ⟨.int cell, rfl, .int cell, rfl, 10, 18, rfl, rfl, ⟨by decide, by decide, by decide⟩, cell, _, rfl, rfl, .inr ⟨_, rfl, cell, _, rfl, rfl, .inr ?_, ?_⟩⟩
    · split <;> exact ⟨by decide, by decide⟩
    refine ⟨.int cell, rfl, cell, 2305843009213693951, rfl, rfl, (by decide : (0 : Int) < 2305843009213693951), ?_⟩
    refine ⟨.int 400, rfl, 400, 3, rfl, rfl, _, rfl, by decide, by decide, ?_⟩
    refine for_range (lo := 0) (n := 403) (fun i σ H' => Same H H' ∧ ∃ (rest st : Int) (y : Option V) (ds : List Int), σ = [some (.int cell), some (.int 400), some (.int 1000), some (.ref o), some (.int rest), some (.int st), y] ∧ 0 ≤ st ∧ st < 2305843009213693951 ∧ H' o = some (.lst (ds.map V.int)) ∧ ds.length = i - 3 ∧ ∀ x ∈ ds, 0 ≤ x ∧ x < 1000)
      ⟨same_new no, _, _, none, [], rfl, Int.emod_nonneg _ (by decide), Int.emod_lt_of_pos _ (by decide), upd_same, rfl, fun x hx => nomatch hx⟩ (fun i σ H' hi hp => ?_) (fun σ H' hp => ?_)
    · obtain ⟨sm, rest, st, y, ds, rfl, s0, s1, ho, hl, hb⟩ := hp
      refine ⟨.int st, rfl, .int st, rfl, st, st, rfl, rfl, .inl ⟨by omega, by omega⟩, .int st, rfl, 48271, st, rfl, rfl, .inl ⟨by decide, by decide⟩, _, _, rfl, rfl, .int (0 + (i : Int)), rfl, _, _, rfl, rfl, _, _, rfl, rfl, _, 2305843009213693951, rfl, rfl, (by decide : (0 : Int) < 2305843009213693951), ?_⟩
      have nn : ∀ z : Int, 0 ≤ z % 2305843009213693951 ∧ z % 2305843009213693951 < 2305843009213693951 := fun z => ⟨Int.emod_nonneg _ (by decide), Int.emod_lt_of_pos _ (by decide)⟩
      have nk : ∀ z : Int, 0 ≤ z % 1000 ∧ z % 1000 < 1000 := fun z => ⟨Int.emod_nonneg _ (by decide), Int.emod_lt_of_pos _ (by decide)⟩
      have sz : (ds.map V.int).length < sizeLine := by
        rw [List.length_map, hl]
        exact small1000 (by omega)
      refine ⟨.int (0 + (i : Int)), rfl, _, 2, rfl, rfl, _, rfl, ite2 (fun e => ?_) (fun e => ?_)⟩
      · have e1 : (2 : Int) < 0 + (i : Int) := of_decide_eq_true e
        refine ⟨.int rest, rfl, rest, 0, rfl, rfl, _, rfl, ite2 (fun e2 => ?_) (fun e2 => ?_)⟩
        · refine ⟨.ref o, rfl, .inl ⟨rfl, _, sq_of ho⟩, .int rest, rfl, .int 1000, rfl, rest, 1000, rfl, rfl, (by decide : (0 : Int) < 1000), o, _, _, rfl, rfl, ho, sz, ?_⟩
          refine ⟨.int rest, rfl, .int 1000, rfl, rest, 1000, rfl, rfl, ⟨by decide, by decide⟩, same_upd_new no sm, _, _, _, ds ++ [rest % 1000], rfl, (nn _).1, (nn _).2, ?_, ?_, grow hb (nk _).1 (nk _).2⟩
          · rw [upd_same, List.map_append]
            rfl
          · rw [List.length_append, hl]
            show i - 3 + 1 = i + 1 - 3
            omega
        · refine ⟨.int (0 + (i : Int)), rfl, _, 2, rfl, rfl, _, rfl, ?_⟩
          rw [e]
          refine iteT ⟨.ref o, rfl, .inl ⟨rfl, _, sq_of ho⟩, _, rfl, _, 4096, rfl, rfl, ⟨by decide, by decide⟩, .int 1000, rfl, _, 1000, rfl, rfl, (by decide : (0 : Int) < 1000), o, _, _, rfl, rfl, ho, sz, ?_⟩
          refine ⟨same_upd_new no sm, rest, _, _, ds ++ [(st * st + 48271 * st + (0 + (i : Int)) + 1) % 2305843009213693951 / 4096 % 1000], rfl, (nn _).1, (nn _).2, ?_, ?_, grow hb (nk _).1 (nk _).2⟩
          · rw [upd_same, List.map_append]
            rfl
          · rw [List.length_append, hl]
            show i - 3 + 1 = i + 1 - 3
            omega
      · refine iteF ?_
        refine ⟨.int (0 + (i : Int)), rfl, _, 2, rfl, rfl, _, rfl, ?_⟩
        have e0 : ¬ (2 : Int) < 0 + (i : Int) := fun z => e (decide_eq_true z)
        rw [show decide ((2 : Int) < 0 + (i : Int)) = false from decide_eq_false e0]
        exact iteF ⟨sm, rest, _, _, ds, rfl, (nn _).1, (nn _).2, ho, by omega, hb⟩
    · obtain ⟨sm, rest, st, y, ds, rfl, s0, s1, ho, hl, hb⟩ := hp
      exact ⟨.ref o, rfl, q H' o ds sm no ho hl hb⟩
def spBag (K : PySem.W.Frag) : Sp := fun vs H Q _ => ∃ (a : Addr) (ns : List Int) (k : Int), vs = [.ref a, .int k] ∧ SqL K H a (ns.map V.int) ∧ 0 ≤ k ∧ ∀ H' b, Same H H' → H b = none → Bag H' b → Q (.ref b) H'
theorem ok__law_bag (T : Top K mg) : FnOk P w K mg base CX0 2 T.a__law_bag T.fd__law_bag ["script", "k"] (spBag K) := by
  refine T.F__law_bag.ok sc__law_bag (fun vs H Q E h => ?_) (fun cdv A outer s H vs Q E hr h => ?_)
  · obtain ⟨a, ns, k, rfl, _⟩ := h
    rfl
  · obtain ⟨a, ns, k, rfl, hS, k0, q⟩ := h
    refine ⟨_, (pss_one (ps_ret (pe_lst (pa_cons (pe_call (ok__law_draws T) (hr.mono (by decide)) (by rfl) T.g__law_draws T.F__law_draws.kp T.b__law_draws .nil pass0 (pa_cons (pe_call (ok__law_cell_at T) (hr.mono (by decide)) (by rfl) T.g__law_cell_at T.F__law_cell_at.kp T.b__law_cell_at .nil pass0 (pa_cons (pv 0) (pa_cons (pv 1) pa_nil))) (pa_cons pe_int (pa_cons pe_int pa_nil)))) (pa_cons pe_int pa_nil))))), ?_⟩
    refine ⟨.ref a, rfl, .int k, rfl, a, ns, k, rfl, hS, k0, fun v => ⟨v, rfl, fun H1 d ds s1 nd hd hl hb => ⟨by show 2 ≤ sizeLine; decide, fun b nb => q _ b (s1.trans (same_new nb)) (s1.free nb) ?_⟩⟩⟩
    exact ⟨d, ds, 0, upd_same, by rw [upd_ne (ne_of_none hd nb)]; exact hd, hl, hb, Int.le_refl 0⟩
def spBags (K : PySem.W.Frag) : Sp := fun vs H Q _ => ∃ (a : Addr) (ns : List Int) (lim : Int), vs = [.ref a, .int lim] ∧ SqL K H a (ns.map V.int) ∧ 1 ≤ lim ∧ lim ≤ 63 ∧
  ∀ H' p (bs : List Addr), Same H H' → H p = none → H' p = some (.lst (bs.map V.ref)) → (∀ b ∈ bs, Bag H' b) → Q (.ref p) H'
theorem ok__law_bags (T : Top K mg) : FnOk P w K mg base CX0 3 T.a__law_bags T.fd__law_bags ["script", "limit"] (spBags K) := by
  refine T.F__law_bags.ok sc__law_bags (fun vs H Q E h => ?_) (fun cdv A outer s H vs Q E hr h => ?_)
  · obtain ⟨a, ns, lim, rfl, _⟩ := h
    rfl
  · obtain ⟨a, ns, lim, rfl, hS, l1, l2, q⟩ := h
    refine ⟨_, (pss_one (ps_ret (pe_lc (own := [("k", 2)]) (by rfl) sc__law_bags.nd (pi_range1 (by rfl) T.z_range (pa_cons (pe_callB (call_max2 rfl) (by rfl) T.z_max (by decide +kernel) (pa_cons pe_int (pa_cons (pe_callB (call_min2 rfl) (by rfl) T.z_min (by decide +kernel) (pa_cons (pv 1) (pa_cons (pe_callB call_len_seq (by rfl) T.z_len (by decide +kernel) (pa_cons (pv 0) pa_nil)) pa_nil))) pa_nil))) pa_nil))
        (blkOk_by (own := [("k", 2)]) (N := ["script", "limit", "k"]) (sc := defScope s__law_bags) (by decide +kernel))
        (fun _ _ _ _ _ => (pg_name (i := 2) sc__law_bags.nd rfl (.inl rfl))) (fun _ _ _ _ _ => pts_nil) (fun _ _ _ _ _ => (pe_call (ok__law_bag T) (hr.mono (by decide)) (by rfl) T.g__law_bag T.F__law_bag.kp T.b__law_bag .nil pass0 (pa_cons (pv 0) (pa_cons (pv 2) pa_nil))))))), ?_⟩
    obtain ⟨m, hm⟩ : ∃ m : Int, m = if (if ((ns.map V.int).length : Int) < lim then ((ns.map V.int).length : Int) else lim) > 1 then (if ((ns.map V.int).length : Int) < lim then ((ns.map V.int).length : Int) else lim) else 1 := ⟨_, rfl⟩
    have m1 : 1 ≤ m := by rw [hm]; split <;> omega
    have m2 : m ≤ 63 := by rw [hm]; split <;> (try split) <;> omega
    refine ⟨.int lim, rfl, .ref a, rfl, a, _, rfl, .inl hS, lim, _, rfl, 1, _, rfl, m, congrArg (fun z => [V.int z]) hm.symm, by omega, by omega, fun D hD => ?_⟩
    refine lc_range (lo := 0) (n := m.toNat) (fun i H' => Same H H' ∧ ∃ bs : List Addr, H' D = some (.lst (bs.map V.ref)) ∧ bs.length = i ∧ ∀ b ∈ bs, Bag H' b)
      ⟨same_new hD, [], upd_same, rfl, fun b hb => nomatch hb⟩ (fun i H' hi hp => ?_) (fun H' hp => ?_)
    · obtain ⟨sm, bs, h1, h2, h3⟩ := hp
      refine ⟨rfl, yesT ?_⟩
      refine ⟨.ref a, rfl, .int (0 + (i : Int)), rfl, a, ns, _, rfl, sm.seq hS, by omega, fun H4 b s4 nb hb => ⟨_, s4 _ _ h1, ?_, same_upd_new hD (sm.trans s4), bs ++ [b], ?_, ?_, fun b' hb' => ?_⟩⟩
      · rw [List.length_map, h2]
        exact small1000 (by omega)
      · rw [upd_same, List.map_append]
        rfl
      · rw [List.length_append, h2]
        rfl
      · have k4 : Bag H4 b' := by
          rcases List.mem_append.mp hb' with z | z
          · exact (h3 b' z).same s4
          · rw [List.mem_singleton.mp z]
            exact hb
        exact k4.upd_refs (s4 _ _ h1)
    · obtain ⟨sm, bs, h1, h2, h3⟩ := hp
      exact q H' D bs sm hD h1 h3
def spTake : Sp := fun vs H Q _ => ∃ (b : Addr) (m : Int), vs = [.ref b, .int m] ∧ Bag H b ∧ 0 < m ∧ ∀ H' (r : Int), Kb b H H' → Bag H' b → 0 ≤ r → r < m → Q (.int r) H'
theorem ok__law_take (T : Top K mg) : FnOk P w K mg base CX0 1 T.a__law_take T.fd__law_take ["bag", "many"] spTake := by
  refine T.F__law_take.ok sc__law_take (fun vs H Q E h => ?_) (fun cdv A outer s H vs Q E hr h => ?_)
  · obtain ⟨b, m, rfl, _⟩ := h
    rfl
  · obtain ⟨b, m, rfl, hB, m0, q⟩ := h
    obtain ⟨d, ds, c, h1, h2, h3, h4, h5⟩ := id hB
    refine ⟨_, (pss_cons (ps_asg (pe_op op_add (pe_ix ix_list (pv 0) pe_int (fun _ _ => rfl)) pe_int) (pg_sub (pv 0) pe_int set_list))
      (pss_one (ps_ret (pe_op op_mod (pe_ix ix_list (pe_ix ix_list (pv 0) pe_int (fun _ _ => rfl)) (pe_op op_mod (pe_ix ix_list (pv 0) pe_int (fun _ _ => rfl)) (pe_callB call_len_seq (by rfl) T.z_len (by decide +kernel) (pa_cons (pe_ix ix_list (pv 0) pe_int (fun _ _ => rfl)) pa_nil))) (fun _ _ => rfl)) (pv 1))))), ?_⟩
    refine ⟨.ref b, rfl, b, _, 1, .int c, rfl, rfl, sq_of h1, rfl, c, 1, rfl, rfl, .ref b, rfl, b, _, 1, 1, rfl, rfl, h1, rfl, ?_⟩
    have ndb : d ≠ b := ne_of h2 h1 (by
      intro z
      have z2 := congrArg List.length (HO.lst.inj z)
      rw [List.length_map, h3] at z2
      simp at z2)
    have g1 : (upd H b (.lst [.ref d, .int (c + 1)])) b = some (.lst [.ref d, .int (c + 1)]) := upd_same
    have g2 : (upd H b (.lst [.ref d, .int (c + 1)])) d = some (.lst (ds.map V.int)) := by rw [upd_ne ndb]; exact h2
    have j0 : 0 ≤ (c + 1) % 400 := Int.emod_nonneg _ (by decide)
    have j1 : (c + 1) % 400 < 400 := Int.emod_lt_of_pos _ (by decide)
    have jl : ((c + 1) % 400).toNat < ds.length := by omega
    have ll : ((ds.map V.int).length : Int) = 400 := by rw [List.length_map, h3]; rfl
    refine ⟨.ref b, rfl, b, _, 0, .ref d, rfl, rfl, sq_of g1, rfl, .ref b, rfl, b, _, 1, .int (c + 1), rfl, rfl, sq_of g1, rfl, .ref b, rfl, b, _, 0, .ref d, rfl, rfl, sq_of g1, rfl, d, _, rfl, .inl (sq_of g2), c + 1, 400, rfl, congrArg V.int ll, (by decide : (0 : Int) < 400),
      d, _, (c + 1) % 400, .int ds[((c + 1) % 400).toNat], rfl, rfl, sq_of g2, at_of (j := ((c + 1) % 400).toNat) (by omega) (by rw [List.getElem?_map, List.getElem?_eq_getElem jl]; rfl), .int m, rfl, _, m, rfl, rfl, m0, ?_⟩
    exact q _ _ (fun a o na ha => by rw [upd_ne na]; exact ha) ⟨d, ds, c + 1, g1, g2, h3, h4, by omega⟩ (Int.emod_nonneg _ (by omega)) (Int.emod_lt_of_pos _ m0)

/-! drawn rows -/
def spTk : Sp := fun vs H Q _ => ∃ (b : Addr) (far : Int), vs = [.ref b, .int far] ∧ Bag H b ∧ 2 ≤ far ∧ far ≤ 1000 ∧
  ∀ H' t (e c : Int), Kb b H H' → Bag H' b → H t = none → H' t = some (.tup [.int e, .int c]) → okT (e, c) → e ≤ far → Q (.ref t) H'
theorem at2 {a b : V} {i : Int} (h0 : 0 ≤ i) (h1 : i < 2) : atI [a, b] i = some (if i = 0 then a else b) := by
  have : i = 0 ∨ i = 1 := by omega
  rcases this with rfl | rfl <;> rfl
theorem at3 {a b c : V} {i : Int} (h0 : 0 ≤ i) (h1 : i < 3) : atI [a, b, c] i = some (if i = 0 then a else if i = 1 then b else c) := by
  have : i = 0 ∨ i = 1 ∨ i = 2 := by omega
  rcases this with rfl | rfl | rfl <;> rfl
theorem keepL {b L : Addr} {H H' : Hp} {xs : List V} (h : H L = some (.lst xs)) (hb : Bag H b) (k : Kb b H H') (hx : ∀ d, xs[0]? ≠ some (.ref d)) : H' L = some (.lst xs) :=
  k _ _ (ne_bag h hb hx) h
theorem ok__law_taker (T : Top K mg) : FnOk P w K mg base CX0 2 T.a__law_taker T.fd__law_taker ["bag", "far"] spTk := by
  refine T.F__law_taker.ok sc__law_taker (fun vs H Q E h => ?_) (fun cdv A outer s H vs Q E hr h => ?_)
  · obtain ⟨b, far, rfl, _⟩ := h
    rfl
  · obtain ⟨b, far, rfl, hB, f1, f2, q⟩ := h
    refine ⟨_, (pss_cons (ps_set (i := 2) sc__law_taker.nd rfl (.inl rfl) (pe_op op_add pe_int (pe_ix ix_list (pe_lst (pa_cons (pe_call (ok__law_take T) (hr.mono (by decide)) (by rfl) T.g__law_take T.F__law_take.kp T.b__law_take .nil pass0 (pa_cons (pv 0) (pa_cons (pe_callB (call_min2 rfl) (by rfl) T.z_min (by decide +kernel) (pa_cons pe_int (pa_cons (pe_op op_sub (pv 1) pe_int) pa_nil))) pa_nil))) (pa_cons (pe_call (ok__law_take T) (hr.mono (by decide)) (by rfl) T.g__law_take T.F__law_take.kp T.b__law_take .nil pass0 (pa_cons (pv 0) (pa_cons (pe_op op_sub (pv 1) pe_int) pa_nil))) pa_nil))) (pe_call (ok__law_take T) (hr.mono (by decide)) (by rfl) T.g__law_take T.F__law_take.kp T.b__law_take .nil pass0 (pa_cons (pv 0) (pa_cons pe_int pa_nil))) (fun _ _ => rfl))))
      (pss_one (ps_ret (pe_tup (pa_cons (pv 2) (pa_cons (pe_ix ix_list (pe_lst (pa_cons pe_int (pa_cons (pe_call (ok__law_take T) (hr.mono (by decide)) (by rfl) T.g__law_take T.F__law_take.kp T.b__law_take .nil pass0 (pa_cons (pv 0) (pa_cons (pv 2) pa_nil))) (pa_cons (pe_op op_sub (pv 2) pe_int) pa_nil)))) (pe_call (ok__law_take T) (hr.mono (by decide)) (by rfl) T.g__law_take T.F__law_take.kp T.b__law_take .nil pass0 (pa_cons (pv 0) (pa_cons pe_int pa_nil))) (fun _ _ => rfl)) pa_nil)))))), ?_⟩
    obtain ⟨mi, hmi⟩ : ∃ mi : Int, mi = if far - 1 < 4 then far - 1 else 4 := ⟨_, rfl⟩
    have mi1 : 0 < mi := by rw [hmi]; split <;> omega
    have mi2 : mi ≤ far - 1 := by rw [hmi]; split <;> omega
    refine ⟨.ref b, rfl, .int far, rfl, far, 1, rfl, rfl, 4, far - 1, rfl, b, mi, by rw [hmi]; rfl, hB, mi1, fun H1 r1 k1 B1 lo1 hi1 => ?_⟩
    refine ⟨.ref b, rfl, .int far, rfl, far, 1, rfl, rfl, b, far - 1, rfl, B1, by omega, fun H2 r2 k2 B2 lo2 hi2 => ?_⟩
    refine ⟨by show 2 ≤ sizeLine; decide, fun L nL => ?_⟩
    have B2' : Bag (upd H2 L (.lst [.int r1, .int r2])) b := B2.same (same_new nL)
    refine ⟨.ref b, rfl, b, 2, rfl, B2', by decide, fun H3 r3 k3 B3 lo3 hi3 => ?_⟩
    have hL : H3 L = some (.lst [.int r1, .int r2]) := keepL upd_same B2' k3 (by intro d z; cases z)
    obtain ⟨v, hv⟩ : ∃ v : Int, (if r3 = 0 then V.int r1 else V.int r2) = .int v ∧ 0 ≤ v ∧ v < far - 1 := by
      split
      · exact ⟨r1, rfl, lo1, by omega⟩
      · exact ⟨r2, rfl, lo2, hi2⟩
    obtain ⟨hv, v0, v1⟩ := hv
    refine ⟨L, _, r3, .int v, rfl, rfl, sq_of hL, by rw [at2 lo3 hi3, hv], 2, v, rfl, rfl, ?_⟩
    have kH3 : Kb b H H3 := (k1.trans k2).trans ((Kb.of (same_new nL)).trans k3)
    refine ⟨.int (2 + v), rfl, .ref b, rfl, .int (2 + v), rfl, b, 2 + v, rfl, B3, by omega, fun H4 r4 k4 B4 lo4 hi4 => ?_⟩
    refine ⟨.int (2 + v), rfl, 2 + v, 1, rfl, rfl, by show 3 ≤ sizeLine; decide, fun M nM => ?_⟩
    have B4' : Bag (upd H4 M (.lst [.int 0, .int r4, .int (2 + v - 1)])) b := B4.same (same_new nM)
    refine ⟨.ref b, rfl, b, 3, rfl, B4', by decide, fun H5 r5 k5 B5 lo5 hi5 => ?_⟩
    have hM : H5 M = some (.lst [.int 0, .int r4, .int (2 + v - 1)]) := keepL upd_same B4' k5 (by intro d z; cases z)
    obtain ⟨c, hc, c0, c1⟩ : ∃ c : Int, (if r5 = 0 then V.int 0 else if r5 = 1 then V.int r4 else V.int (2 + v - 1)) = .int c ∧ 0 ≤ c ∧ c ≤ 2 + v - 1 := by
      split
      · exact ⟨0, rfl, by omega, by omega⟩
      · split
        · exact ⟨r4, rfl, lo4, by omega⟩
        · exact ⟨2 + v - 1, rfl, by omega, by omega⟩
    refine ⟨M, _, r5, .int c, rfl, rfl, sq_of hM, by rw [at3 lo5 hi5, hc], by show 2 ≤ sizeLine; decide, fun t nt => ?_⟩
    have kH5 : Kb b H H5 := kH3.trans (k4.trans ((Kb.of (same_new nM)).trans k5))
    exact q _ t (2 + v) c (kH5.trans (Kb.of (same_new nt))) (B5.same (same_new nt)) (kH5.free B5 nt) upd_same ⟨by show 2 ≤ 2 + v; omega, by show 2 + v ≤ 1000; omega, c0, c1⟩ (by omega)
def spDrawn : Sp := fun vs H Q _ => ∃ (b : Addr) (tk far : Int), vs = [.ref b, .int tk, .int far] ∧ Bag H b ∧ 0 ≤ tk ∧ tk ≤ 8 ∧ 2 ≤ far ∧ far ≤ 1000 ∧
  ∀ H' p (r : List (Int × Int)), Kb b H H' → Bag H' b → RowAt H' p r → (∀ ec ∈ r, okT ec) → (∀ ec ∈ r, ec.1 ≤ far) → (r.length : Int) ≤ tk → Q (.ref p) H'
theorem ok__law_drawn_row (T : Top K mg) : FnOk P w K mg base CX0 3 T.a__law_drawn_row T.fd__law_drawn_row ["bag", "takers", "far"] spDrawn := by
  refine T.F__law_drawn_row.ok sc__law_drawn_row (fun vs H Q E h => ?_) (fun cdv A outer s H vs Q E hr h => ?_)
  · obtain ⟨b, tk, far, rfl, _⟩ := h
    rfl
  · obtain ⟨b, tk, far, rfl, hB, t1, t2, f1, f2, q⟩ := h
    refine ⟨_, (pss_one (ps_ret (pe_callTy call_tuple_of (by rfl) T.z_tuple (by decide +kernel) (pa_cons (pe_lc (own := [("turn", 3)]) (by rfl) sc__law_drawn_row.nd (pi_range1 (by rfl) T.z_range (pa_cons (pe_call (ok__law_take T) (hr.mono (by decide)) (by rfl) T.g__law_take T.F__law_take.kp T.b__law_take .nil pass0 (pa_cons (pv 0) (pa_cons (pe_op op_add (pv 1) pe_int) pa_nil))) pa_nil))
        (blkOk_by (own := [("turn", 3)]) (N := ["bag", "takers", "far", "turn"]) (sc := defScope s__law_drawn_row) (by decide +kernel))
        (fun _ _ _ _ _ => (pg_name (i := 3) sc__law_drawn_row.nd rfl (.inl rfl))) (fun _ _ _ _ _ => pts_nil) (fun _ _ _ _ _ => (pe_call (ok__law_taker T) (hr.mono (by decide)) (by rfl) T.g__law_taker T.F__law_taker.kp T.b__law_taker .nil pass0 (pa_cons (pv 0) (pa_cons (pv 2) pa_nil))))) pa_nil)))), ?_⟩
    refine ⟨.ref b, rfl, .int tk, rfl, tk, 1, rfl, rfl, b, tk + 1, rfl, hB, by omega, fun H1 m k1 B1 lo1 hi1 => ?_⟩
    refine ⟨m, rfl, by omega, by omega, fun D hD => ?_⟩
    refine lc_range (lo := 0) (n := m.toNat) (fun i H' => Kb b H H' ∧ Bag H' b ∧ (∀ a o, a ≠ b → H1 a = some o → H' a = some o) ∧ ∃ (ts : List Addr) (r : List (Int × Int)), H' D = some (.lst (ts.map V.ref)) ∧ ts.length = i ∧ r.length = i ∧ (∀ ec ∈ r, okT ec) ∧ (∀ ec ∈ r, ec.1 ≤ far) ∧
        ∀ (j : Nat) (t : Addr) (ec : Int × Int), ts[j]? = some t → r[j]? = some ec → H' t = some (.tup [.int ec.1, .int ec.2]))
      ⟨k1.trans (Kb.of (same_new hD)), B1.same (same_new hD), fun a o _ h => same_new hD a o h, [], [], upd_same, rfl, rfl, (fun ec h => nomatch h), (fun ec h => nomatch h), fun j t ec h => nomatch h⟩ (fun i H' hi hp => ?_) (fun H' hp => ?_)
    · obtain ⟨kk, BB, kd, ts, r, g1, g2, g3, g4, g5, g6⟩ := hp
      refine ⟨rfl, yesT ?_⟩
      refine ⟨.ref b, rfl, .int far, rfl, b, far, rfl, BB, f1, f2, fun H4 t e c k4 B4 nt ht okt hle => ?_⟩
      have nDb : D ≠ b := fun z => by
        obtain ⟨d, ds, c', z1, _⟩ := B1
        rw [z, z1] at hD
        cases hD
      have gD : H4 D = some (.lst (ts.map V.ref)) := k4 _ _ nDb g1
      refine ⟨_, gD, ?_, ?_, B4.upd_refs gD, ?_, ts ++ [t], r ++ [(e, c)], ?_, ?_, ?_, ?_, ?_, ?_⟩
      · rw [List.length_map, g2]
        exact small1000 (by omega)
      · intro a o na ha
        rw [upd_ne (ne_of_none ha (k1.free B1 hD))]
        exact (kk.trans k4) a o na ha
      · intro a o na ha
        rw [upd_ne (ne_of_none ha hD)]
        exact k4 _ _ na (kd _ _ na ha)
      · rw [upd_same, List.map_append]
        rfl
      · rw [List.length_append, g2]
        rfl
      · rw [List.length_append, g3]
        rfl
      · intro ec hm
        rcases List.mem_append.mp hm with z | z
        · exact g4 _ z
        · rw [List.mem_singleton.mp z]
          exact okt
      · intro ec hm
        rcases List.mem_append.mp hm with z | z
        · exact g5 _ z
        · rw [List.mem_singleton.mp z]
          exact hle
      · intro j t' ec a1 a2
        have h4 : H4 t' = some (.tup [.int ec.1, .int ec.2]) := by
          by_cases hj : j < i
          · rw [List.getElem?_append_left (by omega)] at a1 a2
            exact (k4.tup BB) _ _ (g6 j t' ec a1 a2)
          · have hji : j = i := by
              have := (List.getElem?_eq_some_iff.mp a1).1
              rw [List.length_append, g2] at this
              simp at this
              omega
            subst hji
            rw [List.getElem?_append_right (by omega), g2, Nat.sub_self] at a1
            rw [List.getElem?_append_right (by omega), g3, Nat.sub_self] at a2
            cases a1
            cases a2
            exact ht
        rw [upd_ne (ne_of h4 gD (by intro z; cases z))]
        exact h4
    · obtain ⟨kk, BB, kd, ts, r, g1, g2, g3, g4, g5, g6⟩ := hp
      refine ⟨D, _, rfl, .inl ⟨sq_of g1, fun l nl => ?_⟩⟩
      have sl := same_new (o := .tup (ts.map V.ref)) nl
      refine q _ l r (kk.trans (Kb.of sl)) (BB.same sl) ⟨ts, upd_same, by omega, fun j t ec a1 a2 => sl _ _ (g6 j t ec a1 a2)⟩ g4 g5 ?_
      omega

/-! between two turns of the law's loop -/
def spLaw (K : PySem.W.Frag) : Sp := fun vs H Q _ => ∃ (a : Addr) (ns : List Int), vs = [.ref a] ∧ SqL K H a (ns.map V.int) ∧ ns.length ≤ 63 ∧ ∀ H', Q (.bl true) H'
theorem refs1 {bs : List Addr} : ∀ d, (bs.map V.ref)[1]? ≠ some (.int d) := fun d h => by
  rw [List.getElem?_map] at h
  cases q : bs[1]? <;> rw [q] at h <;> cases h
theorem os0 {os : List (Option Nat)} : ∀ d, (os.map ofO)[0]? ≠ some (.ref d) := fun d h => by
  rw [List.getElem?_map] at h
  cases q : os[0]? with
  | none => rw [q] at h; cases h
  | some o => rw [q] at h; cases o <;> cases h
theorem ints0 {ns : List Int} : ∀ d, (ns.map V.int)[0]? ≠ some (.ref d) := fun d h => by
  rw [List.getElem?_map] at h
  cases q : ns[0]? <;> rw [q] at h <;> cases h
structure Std (H : Hp) (L : Addr) (bs : List Addr) : Prop where
  l : H L = some (.lst (bs.map V.ref))
  b : ∀ b ∈ bs, Bag H b
theorem Std.same {H H' : Hp} {L : Addr} {bs : List Addr} (h : Std H L bs) (s : Same H H') : Std H' L bs := ⟨s _ _ h.l, fun b hb => (h.b b hb).same s⟩
theorem Std.kb {H H' : Hp} {L b : Addr} {bs : List Addr} (h : Std H L bs) (hb : b ∈ bs) (k : Kb b H H') (hn : Bag H' b) : Std H' L bs :=
  ⟨k _ _ (ne_bag2 h.l (h.b b hb) refs1) h.l, fun b' hb' => (h.b b hb).keep k hn (h.b b' hb')⟩
theorem ok_pair {r : List (Int × Int)} (h : r.all (fun ec => decide (2 ≤ ec.1) && decide (ec.1 ≤ 1000) && decide (0 ≤ ec.2) && decide (ec.2 ≤ ec.1 - 1)) = true) : ∀ ec ∈ r, okT ec := fun ec hm => by
  have := List.all_eq_true.mp h ec hm
  simp only [Bool.and_eq_true, decide_eq_true_eq] at this
  exact ⟨this.1.1.1, this.1.1.2, this.1.2, this.2⟩

/-! what is seen beside what is seen; takers among takers -/
def ofD : Option Nat → PyData
  | none => .none
  | some j => .int (j : Nat)
theorem dp_of {K : PySem.W.Frag} {H : Hp} : ∀ o : Option Nat, Dp K H (ofO o) (ofD o)
  | none => .non
  | some j => .int _
theorem all_of {K : PySem.W.Frag} {H : Hp} : ∀ os : List (Option Nat), DpAll K H (os.map ofO) (os.map ofD)
  | [] => .nil
  | o :: os => .cons (dp_of o) (all_of os)
theorem lay_of : ∀ os : List (Option Nat), PyData.canLayAll0 (os.map ofD) = true
  | [] => rfl
  | o :: os => by
    show (PyData.canLay0 (ofD o) && PyData.canLayAll0 (os.map ofD)) = true
    rw [lay_of os]
    cases o <;> rfl
theorem deep_of : ∀ os : List (Option Nat), PyData.depthAll (os.map ofD) = 0
  | [] => rfl
  | o :: os => by
    show max (PyData.depth (ofD o)) (PyData.depthAll (os.map ofD)) = 0
    rw [deep_of os]
    cases o <;> rfl
theorem shp_of (os : List (Option Nat)) : SeqAt.shaped (.tuple (os.map ofD)) = true := by
  unfold SeqAt.shaped
  rw [show PyData.canLay0 (.tuple (os.map ofD)) = PyData.canLayAll0 (os.map ofD) from rfl, lay_of, show PyData.depth (.tuple (os.map ofD)) = PyData.depthAll (os.map ofD) + 1 from rfl, deep_of]
  decide
theorem eqv_one (a b : Option Nat) : PyData.eqv (ofD a) (ofD b) = decide (a = b) := by
  cases a with
  | none => cases b <;> rfl
  | some x =>
    cases b with
    | none => rfl
    | some y =>
      show ((x : Int) == (y : Int)) = decide (some x = some y)
      rw [Bool.eq_iff_iff, beq_iff_eq, decide_eq_true_iff]
      constructor
      · intro h; congr 1; omega
      · intro h; have := Option.some.inj h; omega
theorem eqv_of : ∀ os us : List (Option Nat), PyData.eqvAll (os.map ofD) (us.map ofD) = decide (os = us)
  | [], [] => rfl
  | [], _ :: _ => rfl
  | _ :: _, [] => rfl
  | o :: os, u :: us => by
    show (PyData.eqv (ofD o) (ofD u) && PyData.eqvAll (os.map ofD) (us.map ofD)) = _
    rw [eqv_of os us, eqv_one, Bool.eq_iff_iff]
    simp
theorem ne_seen {K : PySem.W.Frag} {H : Hp} {a b : Addr} {os us : List (Option Nat)} {Q : VK} (ha : H a = some (.tup (os.map ofO))) (hb : H b = some (.tup (us.map ofO))) (e : os = us) (q : Q (.bl false) H) : rNeD K (.ref a) (.ref b) H Q := by
  refine ⟨_, _, .tup (st_of ha) (all_of os), .tup (st_of hb) (all_of us), shp_of os, shp_of us, ?_⟩
  rw [PyData.eqv, eqv_of, decide_eq_true e]
  exact q
theorem eq_seen {K : PySem.W.Frag} {H : Hp} {a b : Addr} {os us : List (Option Nat)} {Q : VK} (ha : H a = some (.tup (os.map ofO))) (hb : H b = some (.tup (us.map ofO))) (e : os ≠ us) (q : Q (.bl false) H) : rEqD K (.ref a) (.ref b) H Q := by
  refine ⟨_, _, .tup (st_of ha) (all_of os), .tup (st_of hb) (all_of us), shp_of os, shp_of us, ?_⟩
  rw [PyData.eqv, eqv_of, decide_eq_false e]
  exact q
theorem shp_tks (ps : List (Int × Int)) : SeqAt.shaped (.list (ps.map tkD)) = true := by
  unfold SeqAt.shaped
  have h1 : PyData.canLay0 (.list (ps.map tkD)) = true := lay_row ps
  have h2 : PyData.depth (.list (ps.map tkD)) ≤ 64 := by
    show PyData.depthAll (ps.map tkD) + 1 ≤ 64
    have := deep_row ps
    omega
  rw [h1, decide_eq_true h2]
  rfl
theorem dp_tks {K : PySem.W.Frag} {H : Hp} {t : Addr} {ps : List (Int × Int)} (h : TksL H t ps) : Dp K H (.ref t) (.list (ps.map tkD)) := by
  obtain ⟨ts, h1, h2⟩ := h
  exact .lst (sq_of h1) (all_tks ts ps h2.1 h2.2)
theorem any_tks (ps : List (Int × Int)) (x : Int × Int) : ((ps.map tkD).any fun z => PyData.eqv z (tkD x)) = decide (x ∈ ps) := by
  induction ps with
  | nil => rfl
  | cons u us ih =>
    rw [List.map_cons, List.any_cons, ih, eqv_tk, Bool.eq_iff_iff]
    simp only [Bool.or_eq_true, decide_eq_true_eq, List.mem_cons]
    constructor
    · rintro (z | z)
      · exact .inl z.symm
      · exact .inr z
    · rintro (z | z)
      · exact .inl z.symm
      · exact .inr z
theorem notIn_tks {K : PySem.W.Frag} {H : Hp} {u t : Addr} {x : Int × Int} {ps : List (Int × Int)} {Q : VK} (hu : H u = some (.tup [.int x.1, .int x.2])) (ht : TksL H t ps) (q : Q (.bl (!decide (x ∈ ps))) H) : rNotInD K (.ref u) (.ref t) H Q := by
  refine ⟨tkD x, _, dp_tk hu, dp_tks ht, rfl, shp_tks ps, ?_⟩
  rw [any_tks]
  exact q
theorem TksL.kb {H H' : Hp} {b q : Addr} {ps : List (Int × Int)} (h : TksL H q ps) (hB : Bag H b) (k : Kb b H H') : TksL H' q ps := by
  obtain ⟨ts, h1, h2⟩ := h
  exact ⟨ts, k _ _ (ne_bag2 h1 hB refs1) h1, h2.keep (k.tup hB)⟩
theorem FitsL.kb {H H' : Hp} {b q : Addr} {pss : List (List (Int × Int))} (h : FitsL H q pss) (hB : Bag H b) (k : Kb b H H') : FitsL H' q pss := by
  obtain ⟨qs, h1, h2, h3⟩ := h
  exact ⟨qs, k _ _ (ne_bag2 h1 hB refs1) h1, h2, fun i t ps a c => (h3 i t ps a c).kb hB k⟩
/-- between two statements of a turn -/
structure Turn (L : Addr) (bs : List Addr) (H : Hp) (p : Addr) (r : List (Int × Int)) (m : Nat) (S tq : Addr) : Prop where
  std : Std H L bs
  row : RowAt H p r
  seen : H S = some (.tup ((seenF r m).map ofO))
  told : FitsL H tq (fitsF (seenF r m) r.length)
theorem Turn.same {L : Addr} {bs : List Addr} {H H' : Hp} {p : Addr} {r : List (Int × Int)} {m : Nat} {S tq : Addr} (h : Turn L bs H p r m S tq) (s : Same H H') : Turn L bs H' p r m S tq := ⟨h.std.same s, h.row.keep (tupS_of s), s _ _ h.seen, h.told.same s⟩
theorem Turn.kb {L b : Addr} {bs : List Addr} {H H' : Hp} {p : Addr} {r : List (Int × Int)} {m : Nat} {S tq : Addr} (h : Turn L bs H p r m S tq) (hb : b ∈ bs) (k : Kb b H H') (hB : Bag H' b) : Turn L bs H' p r m S tq :=
  ⟨h.std.kb hb k hB, h.row.keep (k.tup (h.std.b b hb)), k.tup (h.std.b b hb) _ _ h.seen, h.told.kb (h.std.b b hb) k⟩
theorem seen_ok (r : List (Int × Int)) (n : Nat) (h : n ≤ 200) : SeenOk (seenF r n) r.length := by
  refine ⟨by rw [len_seenF]; exact h, fun j hj => ?_⟩
  unfold seenF at hj
  obtain ⟨k, _, e⟩ := List.mem_map.mp hj
  exact whoF_lt r _ j e
theorem tks_ks {H : Hp} : ∀ (tt : List Addr) (ps : List (Int × Int)), PairsAt H tt ps → ∃ ks : List (Addr × List Int), (ks.map fun p => V.ref p.1) = tt.map V.ref ∧ (∀ p ∈ ks, H p.1 = some (.tup (p.2.map V.int))) ∧ ks.map (·.2) = ps.map fun x => [x.1, x.2]
  | [], [], _ => ⟨[], rfl, (fun p h => nomatch h), rfl⟩
  | [], _ :: _, h => by cases h.1
  | _ :: _, [], h => by cases h.1
  | t :: tt, x :: ps, h => by
    obtain ⟨ks, h1, h2, h3⟩ := tks_ks tt ps ⟨Nat.succ.inj h.1, fun i u g a b => h.2 (i + 1) u g (by simpa using a) (by simpa using b)⟩
    refine ⟨(t, [x.1, x.2]) :: ks, by rw [List.map_cons, List.map_cons, h1], fun p hp => ?_, by rw [List.map_cons, List.map_cons, h3]⟩
    rcases List.mem_cons.mp hp with rfl | z
    · exact h.2 0 t _ rfl rfl
    · exact h2 p z
theorem lexI_pair {x y : Int × Int} (h : x.1 < y.1 ∨ (x.1 = y.1 ∧ x.2 < y.2)) : lexI [x.1, x.2] [y.1, y.2] = true := by
  show (decide (x.1 < y.1) || (decide (x.1 = y.1) && (decide (x.2 < y.2) || (decide (x.2 = y.2) && false)))) = true
  rcases h with h | ⟨h1, h2⟩
  · rw [decide_eq_true h]
    rfl
  · rw [decide_eq_true h1, decide_eq_true h2]
    simp
theorem ne_tks {K : PySem.W.Frag} {H : Hp} {a b : Addr} {ps : List (Int × Int)} {Q : VK} (ha : TksL H a ps) (hb : TksL H b ps) (q : Q (.bl false) H) : rNeD K (.ref a) (.ref b) H Q := by
  refine ⟨_, _, dp_tks ha, dp_tks hb, shp_tks ps, shp_tks ps, ?_⟩
  rw [PyData.eqv, eqv_tks, decide_eq_true rfl]
  exact q
/-! the law -/
theorem ok_law (T : Top K mg) : FnOk P w K mg base CX0 6 T.a_law T.fd_law ["script"] (spLaw K) := by
  refine T.F_law.ok sc_law (fun vs H Q E h => ?_) (fun cdv A outer s H vs Q E hr h => ?_)
  · obtain ⟨a, ns, rfl, _⟩ := h
    rfl
  · obtain ⟨a, ns, rfl, hS, hlen, q⟩ := h
    refine ⟨_, (pss_cons (ps_for PassesOwn.never rfl (pi_list (pe_call (ok__law_bags T) (hr.mono (by decide)) (by rfl) T.g__law_bags T.F__law_bags.kp T.b__law_bags .nil pass0 (pa_cons (pv 0) (pa_cons pe_int pa_nil)))) (pg_name (i := 1) sc_law.nd rfl (.inr rfl))
        (C8.pss_cut (ps_set (i := 2) sc_law.nd rfl (.inr rfl) (pe_op op_catA (pe_call (ok__law_drawn_row T) (hr.mono (by decide)) (by rfl) T.g__law_drawn_row T.F__law_drawn_row.kp T.b__law_drawn_row .nil pass0 (pa_cons (pv 1) (pa_cons pe_int (pa_cons (pe_ix ix_list (pe_lst (pa_cons pe_int (pa_cons pe_int pa_nil))) (pe_call (ok__law_take T) (hr.mono (by decide)) (by rfl) T.g__law_take T.F__law_take.kp T.b__law_take .nil pass0 (pa_cons (pv 1) (pa_cons pe_int pa_nil))) (fun _ _ => rfl)) pa_nil)))) (pe_tup (pa_cons (pe_call (ok__law_taker T) (hr.mono (by decide)) (by rfl) T.g__law_taker T.F__law_taker.kp T.b__law_taker .nil pass0 (pa_cons (pv 1) (pa_cons pe_int pa_nil))) pa_nil))))
      (C8.pss_cut (ps_par (by rfl) sc_law.nd (i := 7) (j := 8) rfl rfl (by decide) rfl rfl (pa_cons (pe_callB call_len_seq (by rfl) T.z_len (by decide +kernel) (pa_cons (pv 2) pa_nil)) (pa_cons (pe_call (ok__law_take T) (hr.mono (by decide)) (by rfl) T.g__law_take T.F__law_take.kp T.b__law_take .nil pass0 (pa_cons (pv 1) (pa_cons pe_int pa_nil))) pa_nil)) (by rfl))
      (C8.pss_cut (ps_set (i := 3) sc_law.nd rfl (.inl rfl) (pe_callTy call_tuple_of (by rfl) T.z_tuple (by decide +kernel) (pa_cons (pe_lc (own := [("piece", 14)]) (by rfl) sc_law.nd (pi_range1 (by rfl) T.z_range (pa_cons (pv 8) pa_nil))
        (blkOk_by (own := [("piece", 14)]) (N := ["script", "bag", "house", "seen", "told", "turn", "less", "many", "size", "other", "some", "wide", "place", "taker", "piece", "one"]) (sc := defScope s_law) (by decide +kernel))
        (fun _ _ _ _ _ => (pg_name (i := 14) sc_law.nd rfl (.inl rfl))) (fun _ _ _ _ _ => pts_nil) (fun _ _ _ _ _ => (pe_call (ok_who T) (hr.mono (by decide)) (by rfl) T.g_who T.F_who.kp T.b_who .nil pass0 (pa_cons (pv 2) (pa_cons (pe_op op_add (pv 14) pe_int) pa_nil))))) pa_nil)))
      (C8.pss_cut (ps_set (i := 4) sc_law.nd rfl (.inl rfl) (pe_call (ok_fits T) (hr.mono (by decide)) (by rfl) T.g_fits T.F_fits.kp T.b_fits .nil pass0 (pa_cons (pv 3) (pa_cons (pv 7) pa_nil))))
      (C8.pss_cut (ps_if (pt_cmpR (op_neD hr.units) (pe_lc (g := (gTup K 2 (gCons (gName 15) (gCons (gName 10) gNil)))) (tt := tTest (tOp (rNotInD K) (tVar 15) (tVar 10))) (own := [("one", 15), ("some", 10)]) (by rfl) sc_law.nd (pi_zipM (by rfl) T.z_zip (pa_cons (pv 2) (pa_cons (pv 4) pa_nil)))
        (blkOk_by (own := [("one", 15), ("some", 10)]) (N := ["script", "bag", "house", "seen", "told", "turn", "less", "many", "size", "other", "some", "wide", "place", "taker", "piece", "one"]) (sc := defScope s_law) (by decide +kernel))
        (fun _ _ _ _ _ => (pg_tup (by rfl) (pgs_cons (pg_name (i := 15) sc_law.nd rfl (.inl rfl)) (pgs_cons (pg_name (i := 10) sc_law.nd rfl (.inl rfl)) pgs_nil)))) (fun _ _ _ _ _ => (pts_one (pt_cmpR (op_notInD (room65 hr)) (pv 15) (pv 10) (by rfl)))) (fun _ _ _ _ _ => pe_int)) (pe_lst pa_nil) (nomark _)) (pss_one (ps_ret pe_bl)) pss_nil)
      (C8.pss_cut (ps_for PassesOwn.never rfl (pi_range1 (by rfl) T.z_range (pa_cons pe_int pa_nil)) (pg_name (i := 5) sc_law.nd rfl (.inl rfl))
        (pss_cons (ps_set (i := 9) sc_law.nd rfl (.inr rfl) (pe_callTy call_tuple_of (by rfl) T.z_tuple (by decide +kernel) (pa_cons (pe_lc (te := tOp (rIxL K) (tVar 10) (tCall spTake [] E0 (tCons (tVar 1) (tCons (tCB (fun xs H Q => ∃ p ys, xs = [V.ref p] ∧ (SqL K H p ys ∨ SqT K H p ys) ∧ Q (V.int (ys.length : Nat)) H) (tCons (tVar 10) tNil)) tNil)))) (own := [("some", 10)]) (by rfl) sc_law.nd (pi_list (pv 4))
        (blkOk_by (own := [("some", 10)]) (N := ["script", "bag", "house", "seen", "told", "turn", "less", "many", "size", "other", "some", "wide", "place", "taker", "piece", "one"]) (sc := defScope s_law) (by decide +kernel))
        (fun _ _ _ _ _ => (pg_name (i := 10) sc_law.nd rfl (.inl rfl))) (fun _ _ _ _ _ => pts_nil) (fun _ _ _ _ _ => (pe_ix ix_list (pv 10) (pe_call (ok__law_take T) (hr.mono (by decide)) (by rfl) T.g__law_take T.F__law_take.kp T.b__law_take .nil pass0 (pa_cons (pv 1) (pa_cons (pe_callB call_len_seq (by rfl) T.z_len (by decide +kernel) (pa_cons (pv 10) pa_nil)) pa_nil))) (fun _ _ => rfl)))) pa_nil)))
      (pss_cons (ps_if (pt_cmpR (op_neD hr.units) (pe_callTy call_tuple_of (by rfl) T.z_tuple (by decide +kernel) (pa_cons (pe_lc (own := [("piece", 14)]) (by rfl) sc_law.nd (pi_range1 (by rfl) T.z_range (pa_cons (pv 8) pa_nil))
        (blkOk_by (own := [("piece", 14)]) (N := ["script", "bag", "house", "seen", "told", "turn", "less", "many", "size", "other", "some", "wide", "place", "taker", "piece", "one"]) (sc := defScope s_law) (by decide +kernel))
        (fun _ _ _ _ _ => (pg_name (i := 14) sc_law.nd rfl (.inl rfl))) (fun _ _ _ _ _ => pts_nil) (fun _ _ _ _ _ => (pe_call (ok_who T) (hr.mono (by decide)) (by rfl) T.g_who T.F_who.kp T.b_who .nil pass0 (pa_cons (pv 9) (pa_cons (pe_op op_add (pv 14) pe_int) pa_nil))))) pa_nil)) (pv 3) (nomark _)) (pss_one (ps_ret pe_bl)) pss_nil)
      (pss_cons (ps_par (by rfl) sc_law.nd (i := 12) (j := 13) rfl rfl (by decide) rfl rfl (pa_cons (pe_call (ok__law_take T) (hr.mono (by decide)) (by rfl) T.g__law_take T.F__law_take.kp T.b__law_take .nil pass0 (pa_cons (pv 1) (pa_cons (pv 7) pa_nil))) (pa_cons (pe_call (ok__law_taker T) (hr.mono (by decide)) (by rfl) T.g__law_taker T.F__law_taker.kp T.b__law_taker .nil pass0 (pa_cons (pv 1) (pa_cons pe_int pa_nil))) pa_nil)) (by rfl))
      (pss_one (ps_if (pt_cmpR (op_notInD (room65 hr)) (pv 13) (pe_ix ix_list (pv 4) (pv 12) (fun _ _ => rfl)) (by rfl)) (pss_cons (ps_set (i := 9) sc_law.nd rfl (.inr rfl) (pe_op op_catA (pe_op op_catA (pe_slice sl_tupA (pv 9) po_none (po_some (pv 12))) (pe_tup (pa_cons (pv 13) pa_nil))) (pe_slice sl_tupA (pv 9) (po_some (pe_op op_add (pv 12) pe_int)) po_none)))
      (pss_one (ps_if (pt_cmpR (op_eqD hr.units) (pe_callTy call_tuple_of (by rfl) T.z_tuple (by decide +kernel) (pa_cons (pe_lc (own := [("piece", 14)]) (by rfl) sc_law.nd (pi_range1 (by rfl) T.z_range (pa_cons (pv 8) pa_nil))
        (blkOk_by (own := [("piece", 14)]) (N := ["script", "bag", "house", "seen", "told", "turn", "less", "many", "size", "other", "some", "wide", "place", "taker", "piece", "one"]) (sc := defScope s_law) (by decide +kernel))
        (fun _ _ _ _ _ => (pg_name (i := 14) sc_law.nd rfl (.inl rfl))) (fun _ _ _ _ _ => pts_nil) (fun _ _ _ _ _ => (pe_call (ok_who T) (hr.mono (by decide)) (by rfl) T.g_who T.F_who.kp T.b_who .nil pass0 (pa_cons (pv 9) (pa_cons (pe_op op_add (pv 14) pe_int) pa_nil))))) pa_nil)) (pv 3) (nomark _)) (pss_one (ps_ret pe_bl)) pss_nil))) pss_nil))))))
      (C8.pss_cut (ps_set (i := 6) sc_law.nd rfl (.inl rfl) (pe_call (ok_fits T) (hr.mono (by decide)) (by rfl) T.g_fits T.F_fits.kp T.b_fits .nil pass0 (pa_cons (pe_slice sl_tupA (pv 3) po_none (po_some (pe_call (ok__law_take T) (hr.mono (by decide)) (by rfl) T.g__law_take T.F__law_take.kp T.b__law_take .nil pass0 (pa_cons (pv 1) (pa_cons (pe_op op_add (pv 8) pe_int) pa_nil))))) (pa_cons (pv 7) pa_nil))))
      (pss_one (ps_for PassesOwn.never rfl (pi_zip (by rfl) T.z_zip (pa_cons (pv 4) (pa_cons (pv 6) pa_nil))) (pg_tup (by rfl) (pgs_cons (pg_name (i := 10) sc_law.nd rfl (.inl rfl)) (pgs_cons (pg_name (i := 11) sc_law.nd rfl (.inr rfl)) pgs_nil)))
        (pss_one (ps_if (PW.pt (pw_or (pt_cmpR (op_neD hr.units) (pv 10) (pe_sortSetT (by rfl) hr.units (pa_cons (pv 10) pa_nil) (by rfl) T.z_sorted (by rfl) T.z_set) (nomark _)) (pw_or1 (pt_cmpR (op_neD hr.units) (pe_lc (tt := tTest (tOp (rNotInD K) (tVar 15) (tVar 11))) (own := [("one", 15)]) (by rfl) sc_law.nd (pi_list (pv 10))
        (blkOk_by (own := [("one", 15)]) (N := ["script", "bag", "house", "seen", "told", "turn", "less", "many", "size", "other", "some", "wide", "place", "taker", "piece", "one"]) (sc := defScope s_law) (by decide +kernel))
        (fun _ _ _ _ _ => (pg_name (i := 15) sc_law.nd rfl (.inl rfl))) (fun _ _ _ _ _ => (pts_one (pt_cmpR (op_notInD (room65 hr)) (pv 15) (pv 11) (by rfl)))) (fun _ _ _ _ _ => (pv 15))) (pe_lst pa_nil) (nomark _))))) (pss_one (ps_ret pe_bl)) pss_nil))))))))))))
      (pss_one (ps_ret pe_bl))), ?_⟩
    refine ⟨.ref a, rfl, a, ns, 5, rfl, hS, by decide, by decide, fun H1 L bs s1 nL hL hB => ⟨L, rfl, ⟨_, sq_of hL⟩, ?_⟩⟩
    refine for_list (K := K) (a := L) (xs := bs.map V.ref) (fun i σ H' => Std H' L bs ∧ ∃ y1 y2 y3 y4 y5 y6 y7 y8 y9 y10 y11 y12 y13 y14 y15, σ = [some (.ref a), y1, y2, y3, y4, y5, y6, y7, y8, y9, y10, y11, y12, y13, y14, y15])
      ⟨⟨hL, hB⟩, none, none, none, none, none, none, none, none, none, none, none, none, none, none, none, rfl⟩ (fun i σ H' _ hp => sq_of hp.1.l) (fun i x σ H2 hx hp => ?_) (fun σ H2 hp => q _)
    obtain ⟨std, y1, y2, y3, y4, y5, y6, y7, y8, y9, y10, y11, y12, y13, y14, y15, rfl⟩ := hp
    rw [List.getElem?_map] at hx
    obtain ⟨b, hb, hxe⟩ := Option.map_eq_some_iff.mp hx
    subst hxe
    have bm : b ∈ bs := List.mem_of_getElem? hb
    -- house
    refine ⟨fun σ H' => Std H' L bs ∧ ∃ p r, RowAt H' p r ∧ (∀ ec ∈ r, ec ∈ allT) ∧ 1 ≤ r.length ∧ r.length ≤ 8 ∧ ∃ y3 y4 y5 y6 y7 y8 y9 y10 y11 y12 y13 y14 y15, σ = [some (.ref a), some (.ref b), some (.ref p), y3, y4, y5, y6, y7, y8, y9, y10, y11, y12, y13, y14, y15], ?_, fun σ H3 hM => ?_⟩
    · refine ⟨.ref b, rfl, by show 2 ≤ sizeLine; decide, fun M nM => ?_⟩
      have sM := same_new (o := .lst [.int 4, .int 39]) nM
      have stdM := std.same sM
      have hM : (upd H2 M (.lst [.int 4, .int 39])) M = some (.lst [.int 4, .int 39]) := upd_same
      generalize upd H2 M (.lst [.int 4, .int 39]) = H3 at sM stdM hM ⊢
      refine ⟨.ref b, rfl, b, 2, rfl, stdM.b b bm, by decide, fun H4 r4 k4 B4 lo4 hi4 => ?_⟩
      have hM4 := keepL hM (stdM.b b bm) k4 (by intro d z; cases z)
      have std4 := stdM.kb bm k4 B4
      obtain ⟨far, hfar, f1, f2⟩ : ∃ far : Int, (if r4 = 0 then V.int 4 else V.int 39) = .int far ∧ 2 ≤ far ∧ far ≤ 39 := by
        split
        · exact ⟨4, rfl, by decide, by decide⟩
        · exact ⟨39, rfl, by decide, by decide⟩
      refine ⟨M, _, r4, .int far, rfl, rfl, sq_of hM4, by rw [at2 lo4 hi4, hfar], b, 7, far, rfl, B4, by decide, by decide, f1, by omega, fun H5 p r k5 B5 hR ok bd hl => ?_⟩
      have std5 := std4.kb bm k5 B5
      refine ⟨.ref b, rfl, b, 39, rfl, B5, by decide, by decide, fun H6 t e c k6 B6 nt ht okt le39 => ⟨by show 1 ≤ sizeLine; decide, fun u nu => ?_⟩⟩
      have std6 := std5.kb bm k6 B6
      have su := same_new (o := .tup [.ref t]) nu
      obtain ⟨ts, h1, hpa⟩ := ((hR.keep (k6.tup B5)).keep (tupS_of su)).pairs
      refine cat_use h1 upd_same (by rw [List.length_map, hpa.1]; exact Nat.le_of_lt (small1000 (by simp; omega))) fun p2 H7 s7 hp2 => ?_
      refine ⟨(std6.same su).same s7, p2, r ++ [(e, c)], ?_, fun ec hm => ?_, by simp, by simp; omega, _, _, _, _, _, _, _, _, _, _, _, _, _, rfl⟩
      · refine ((hpa.keep (tupS_of s7)).app (us := [t]) (q := [(e, c)]) ⟨rfl, fun i' u' g a1 a2 => ?_⟩).row (by rw [hp2, List.map_append]; rfl)
        cases i' with
        | zero => cases a1; cases a2; exact s7 _ _ (su _ _ ht)
        | succ i' => simp at a1
      · rcases List.mem_append.mp hm with z | z
        · have o1 := ok ec z
          have o2 := bd ec z
          exact mem_allT.mpr ⟨o1.1, by omega, o1.2.2.1, o1.2.2.2⟩
        · rw [List.mem_singleton.mp z]
          exact mem_allT.mpr ⟨okt.1, by show e ≤ 40; omega, okt.2.2.1, okt.2.2.2⟩
    clear std y1 y2 y3 y4 y5 y6 y7 y8 y9 y10 y11 y12 y13 y14 y15
    obtain ⟨std3, p, r, hR3, hr, r1, r8, y3, y4, y5, y6, y7, y8, y9, y10, y11, y12, y13, y14, y15, rfl⟩ := hM
    have ok : ∀ ec ∈ r, okT ec := fun ec h => okT_of (hr ec h)
    -- many and size
    refine ⟨fun σ H' => Std H' L bs ∧ RowAt H' p r ∧ ∃ m : Nat, m ≤ 200 ∧ σ = [some (.ref a), some (.ref b), some (.ref p), y3, y4, y5, y6, some (.int (r.length : Nat)), some (.int (m : Nat)), y9, y10, y11, y12, y13, y14, y15], ?_, fun σ H4 hM => ?_⟩
    · obtain ⟨ts, h1, h2, h3⟩ := id hR3
      refine ⟨.ref p, rfl, p, _, rfl, .inr (st_of h1), .ref b, rfl, b, 201, rfl, std3.b b bm, by decide, fun H4 m k4 B4 lo4 hi4 => ?_⟩
      obtain ⟨mn, rfl⟩ : ∃ mn : Nat, m = (mn : Int) := ⟨m.toNat, by omega⟩
      refine ⟨_, _, rfl, std3.kb bm k4 B4, hR3.keep (k4.tup (std3.b b bm)), mn, by omega, ?_⟩
      rw [List.length_map, h2]
      rfl
    obtain ⟨std4, hR4, m, m200, rfl⟩ := hM
    clear std3 hR3
    -- seen
    refine ⟨fun σ H' => Std H' L bs ∧ RowAt H' p r ∧ ∃ S, H' S = some (.tup ((seenF r m).map ofO)) ∧ ∃ y14, σ = [some (.ref a), some (.ref b), some (.ref p), some (.ref S), y4, y5, y6, some (.int (r.length : Nat)), some (.int (m : Nat)), y9, y10, y11, y12, y13, y14, y15], ?_, fun σ H5 hM => ?_⟩
    · refine ⟨.int (m : Nat), rfl, _, rfl, by omega, by omega, fun D nD => ?_⟩
      refine lc_range (lo := 0) (n := ((m : Nat) : Int).toNat) (fun i H' => Same H4 H' ∧ H' D = some (.lst ((seenF r i).map ofO))) ⟨same_new nD, upd_same⟩ (fun i H' hi hp => ?_) (fun H' hp => ?_)
      · obtain ⟨sm, hd⟩ := hp
        refine ⟨rfl, yesT ?_⟩
        refine ⟨.ref p, rfl, _, rfl, _, 1, rfl, rfl, p, r, (i : Int) + 1, ?_, hR4.keep (tupS_of sm), ok, r8, by omega, by omega, fun H5 s5 => ⟨_, s5 _ _ hd, ?_, same_upd_new nD (sm.trans s5), ?_⟩⟩
        · show [V.ref p, V.int (0 + (i : Int) + 1)] = [V.ref p, V.int ((i : Int) + 1)]
          rw [Int.zero_add]
        · rw [List.length_map, len_seenF, sizeLine_eq]
          omega
        · rw [upd_same, seen_succ, List.map_append]
          rfl
      · obtain ⟨sm, hd⟩ := hp
        rw [show ((m : Nat) : Int).toNat = m by omega] at hd
        refine ⟨D, _, rfl, .inl ⟨sq_of hd, fun l nl => ?_⟩⟩
        have sl := sm.trans (same_new (o := .tup ((seenF r m).map ofO)) nl)
        exact ⟨std4.same sl, hR4.keep (tupS_of sl), l, upd_same, _, rfl⟩
    obtain ⟨std5, hR5, S, hS5, y14, rfl⟩ := hM
    clear std4 hR4
    -- told
    refine ⟨fun σ H' => ∃ tq, Turn L bs H' p r m S tq ∧ σ = [some (.ref a), some (.ref b), some (.ref p), some (.ref S), some (.ref tq), y5, y6, some (.int (r.length : Nat)), some (.int (m : Nat)), y9, y10, y11, y12, y13, y14, y15], ?_, fun σ H6 hM => ?_⟩
    · exact ⟨.ref S, rfl, .int (r.length : Nat), rfl, S, seenF r m, r.length, rfl, hS5, seen_ok r m m200, r1, r8, fun H6 tq qs s6 ntq hq1 hq2 hq3 hq4 => ⟨tq, ⟨std5.same s6, hR5.keep (tupS_of s6), s6 _ _ hS5, hq4⟩, rfl⟩⟩
    obtain ⟨tq, tn6, rfl⟩ := hM
    clear std5 hR5 hS5
    have toldAt : ∀ {H' : Hp}, Turn L bs H' p r m S tq → ∃ qs : List Addr, H' tq = some (.lst (qs.map V.ref)) ∧ qs.length = r.length ∧ ∀ (i : Nat) (t : Addr), qs[i]? = some t → TksL H' t (fitT (cameF (seenF r m) i)) := fun {H'} tn => by
      obtain ⟨qs, q1, q2, q3⟩ := tn.told
      rw [fits_length] at q2
      exact ⟨qs, q1, q2, fun i t hi => q3 i t _ hi (fits_at (by rw [← q2]; exact (List.getElem?_eq_some_iff.mp hi).1))⟩
    -- each fits
    refine ⟨fun σ H' => Turn L bs H' p r m S tq ∧ ∃ y10 y15, σ = [some (.ref a), some (.ref b), some (.ref p), some (.ref S), some (.ref tq), y5, y6, some (.int (r.length : Nat)), some (.int (m : Nat)), y9, y10, y11, y12, y13, y14, y15], ?_, fun σ H7 hM => ?_⟩
    · obtain ⟨qs, q1, q2, q3⟩ := toldAt tn6
      obtain ⟨ts, h1, h2, h3⟩ := id tn6.row
      refine ⟨.ref p, rfl, .ref tq, rfl, p, tq, _, _, rfl, st_of h1, sq_of q1, fun D nD => ?_⟩
      refine lc_it (walk_zipM (K := K) (a := p) (b := tq) (xs := ts.map V.ref) (ys := qs.map V.ref) (n := r.length) (by rw [List.length_map, List.length_map]; omega)) (fun j H' => Same H6 H' ∧ H' D = some (.lst [])) ⟨same_new nD, upd_same⟩ (fun j H' _ hp => ⟨st_of (hp.1 _ _ h1), sq_of (hp.1 _ _ q1)⟩) (fun j v H' H'' hj hp hy => ?_) (fun H7 hp => ?_)
      · obtain ⟨sm, hd⟩ := hp
        obtain ⟨Tt, x, y, rfl, nT, rfl, ex, ey⟩ := hy
        have ht := List.getElem?_eq_getElem (show j < ts.length by omega)
        have hq := List.getElem?_eq_getElem (show j < qs.length by omega)
        have ex2 : x = .ref ts[j] := by
          have e0 : (ts.map V.ref)[j]? = some x := ex
          rw [List.getElem?_map, ht] at e0
          exact (Option.some.inj e0).symm
        have ey2 : y = .ref qs[j] := by
          have e0 : (qs.map V.ref)[j]? = some y := ey
          rw [List.getElem?_map, hq] at e0
          exact (Option.some.inj e0).symm
        subst ex2
        subst ey2
        have hrj := List.getElem?_eq_getElem hj
        have sT := same_new (o := .tup [.ref ts[j], .ref qs[j]]) nT
        have smT := sm.trans sT
        refine ⟨Tt, _, rfl, st_of upd_same, rfl, _, _, rfl, _, _, rfl, rfl, ?_⟩
        refine ⟨rfl, .ref ts[j], rfl, .ref qs[j], rfl, notIn_tks (x := r[j]) (smT _ _ (h3 j _ _ ht hrj)) ((q3 j _ hq).same smT) ⟨false, ?_, iteF ⟨smT, sT _ _ hd⟩⟩⟩
        rw [decide_eq_true (own_fits hr hrj m)]
        rfl
      · obtain ⟨s7, hD⟩ := hp
        refine ⟨Nat.zero_le _, fun B nB => ?_⟩
        have sB := same_new (o := .lst []) nB
        refine ne_ints (ns := []) (sq_of (sB _ _ hD)) (sq_of upd_same) ⟨false, rfl, iteF ?_⟩
        exact ⟨(tn6.same s7).same sB, _, _, rfl⟩
    obtain ⟨tn7, y10, y15, rfl⟩ := hM
    clear tn6
    -- rows put together
    refine ⟨fun σ H' => Turn L bs H' p r m S tq ∧ ∃ y5 y9 y10 y12 y13 y14, σ = [some (.ref a), some (.ref b), some (.ref p), some (.ref S), some (.ref tq), y5, y6, some (.int (r.length : Nat)), some (.int (m : Nat)), y9, y10, y11, y12, y13, y14, y15], ?_, fun σ H8 hM => ?_⟩
    · refine ⟨3, rfl, by decide, by decide, ?_⟩
      refine for_range (lo := 0) (n := 3) (fun i σ H' => Turn L bs H' p r m S tq ∧ ∃ y5 y9 y10 y12 y13 y14, σ = [some (.ref a), some (.ref b), some (.ref p), some (.ref S), some (.ref tq), y5, y6, some (.int (r.length : Nat)), some (.int (m : Nat)), y9, y10, y11, y12, y13, y14, y15]) ⟨tn7, _, _, _, _, _, _, rfl⟩ (fun i σ H8 hi hp => ?_) (fun σ H8 hp => hp)
      obtain ⟨tn8, z5, z9, z10, z12, z13, z14, rfl⟩ := hp
      obtain ⟨qs, q1, q2, q3⟩ := toldAt tn8
      refine ⟨.ref tq, rfl, tq, rfl, ⟨_, sq_of q1⟩, fun D nD => ?_⟩
      refine lc_list (K := K) (a := tq) (xs := qs.map V.ref) (fun j H' => Turn L bs H' p r m S tq ∧ Kb b H8 H' ∧ ∃ (us : List Addr) (r' : List (Int × Int)), H' D = some (.lst (us.map V.ref)) ∧ PairsAt H' us r' ∧ r'.length = j ∧ ∀ (i : Nat) (x : Int × Int), r'[i]? = some x → x ∈ fitT (cameF (seenF r m) i))
        ⟨tn8.same (same_new nD), Kb.of (same_new nD), [], [], upd_same, ⟨rfl, fun i t ec h => nomatch h⟩, rfl, fun i x h => nomatch h⟩ (fun j H' _ hp => sq_of (hp.2.1 _ _ (ne_bag2 q1 (tn8.std.b b bm) refs1) q1)) (fun j x H' hx hp => ?_) (fun H9 hp => ?_)
      · obtain ⟨tn', kb', us, r', d1, d2, d3, d4⟩ := hp
        rw [List.getElem?_map] at hx
        obtain ⟨t, ht, rfl⟩ := Option.map_eq_some_iff.mp hx
        have hj : j < r.length := q2 ▸ (List.getElem?_eq_some_iff.mp ht).1
        have B' := tn'.std.b b bm
        obtain ⟨tt, t1, t2⟩ := (q3 j t ht).kb (tn8.std.b b bm) kb'
        have ownm := own_fits hr (List.getElem?_eq_getElem hj) m
        have pos : 0 < (fitT (cameF (seenF r m) j)).length := List.length_pos_of_mem ownm
        have tl := t2.1
        have ul := d2.1
        refine ⟨rfl, yesT ⟨.ref t, rfl, .ref b, rfl, .ref t, rfl, t, _, rfl, .inl (sq_of t1), b, _, rfl, B', by rw [List.length_map]; omega, fun H9 z k9 B9 lo hi => ?_⟩⟩
        rw [List.length_map] at hi
        obtain ⟨zn, rfl⟩ : ∃ zn : Nat, z = (zn : Int) := ⟨z.toNat, by omega⟩
        have hzt := List.getElem?_eq_getElem (show zn < tt.length by omega)
        have hzf := List.getElem?_eq_getElem (show zn < (fitT (cameF (seenF r m) j)).length by omega)
        have t19 := k9 _ _ (ne_bag2 t1 B' refs1) t1
        have d19 := k9 _ _ (ne_bag2 d1 B' refs1) d1
        have hval := k9.tup B' _ _ (t2.2 zn _ _ hzt hzf)
        refine ⟨t, _, _, .ref tt[zn], rfl, rfl, sq_of t19, at_of rfl (by rw [List.getElem?_map, hzt]; rfl), _, d19, ?_, ?_, ?_, us ++ [tt[zn]], r' ++ [(fitT (cameF (seenF r m) j))[zn]], ?_, ?_, ?_, ?_⟩
        · rw [List.length_map]
          exact small1000 (by omega)
        · refine tn8.kb bm (fun c o hn ho => ?_) (B9.upd_refs d19)
          rw [upd_ne (ne_of_none ho nD)]
          exact k9 c o hn (kb' c o hn ho)
        · exact fun c o hn ho => by
            rw [upd_ne (ne_of_none ho nD)]
            exact k9 c o hn (kb' c o hn ho)
        · rw [upd_same, List.map_append]
          rfl
        · refine (((d2.keep (k9.tup B')).app (us := [tt[zn]]) (q := [(fitT (cameF (seenF r m) j))[zn]]) ⟨rfl, fun i' u' g a1 a2 => ?_⟩)).keep fun c xs hc => ?_
          · cases i' with
            | zero => cases a1; cases a2; exact hval
            | succ i' => simp at a1
          · rw [upd_ne (ne_of hc d19 (by intro y; cases y))]
            exact hc
        · rw [List.length_append, d3]
          rfl
        · intro i' x hx'
          rcases Nat.lt_trichotomy i' j with c | c | c
          · rw [List.getElem?_append_left (by omega)] at hx'
            exact d4 i' x hx'
          · rw [List.getElem?_append_right (by omega), show i' - r'.length = 0 by omega] at hx'
            cases hx'
            rw [c]
            exact List.getElem_mem _
          · rw [List.getElem?_eq_none (by rw [List.length_append]; simp; omega)] at hx'
            cases hx'
      obtain ⟨tn9, kb9, us, r', d1, d2, d3, d4⟩ := hp
      rw [List.length_map, q2] at d3
      refine ⟨D, _, rfl, .inl ⟨sq_of d1, fun l nl => ?_⟩⟩
      have sl := same_new (o := .tup (us.map V.ref)) nl
      have hl' : RowAt (upd H9 l (.tup (us.map V.ref))) l r' := (d2.keep (tupS_of sl)).row upd_same
      have tn10 := tn9.same sl
      generalize upd H9 l (.tup (us.map V.ref)) = H10 at sl hl' tn10 ⊢
      obtain ⟨hall, hseen⟩ := fitting_rows hr d3 d4
      have ok' : ∀ ec ∈ r', okT ec := fun ec h => okT_of (hall ec h)
      have len' : r'.length ≤ 8 := by omega
      refine ⟨.int (m : Nat), rfl, _, rfl, by omega, by omega, fun D2 nD2 => ?_⟩
      refine lc_range (lo := 0) (n := ((m : Nat) : Int).toNat) (fun i H' => Same H10 H' ∧ H' D2 = some (.lst ((seenF r' i).map ofO))) ⟨same_new nD2, upd_same⟩ (fun i H' hi hp => ?_) (fun H' hp => ?_)
      · obtain ⟨sm, hd⟩ := hp
        refine ⟨rfl, yesT ?_⟩
        refine ⟨.ref l, rfl, _, rfl, _, 1, rfl, rfl, l, r', (i : Int) + 1, ?_, hl'.keep (tupS_of sm), ok', len', by omega, by omega, fun H5 s5 => ⟨_, s5 _ _ hd, ?_, same_upd_new nD2 (sm.trans s5), ?_⟩⟩
        · show [V.ref l, V.int (0 + (i : Int) + 1)] = [V.ref l, V.int ((i : Int) + 1)]
          rw [Int.zero_add]
        · rw [List.length_map, len_seenF, sizeLine_eq]
          omega
        · rw [upd_same, seen_succ, List.map_append]
          rfl
      obtain ⟨sm, hd⟩ := hp
      rw [show ((m : Nat) : Int).toNat = m by omega] at hd
      refine ⟨D2, _, rfl, .inl ⟨sq_of hd, fun l2 nl2 => ?_⟩⟩
      have sl2 := sm.trans (same_new (o := .tup ((seenF r' m).map ofO)) nl2)
      have hl2 : (upd H' l2 (.tup ((seenF r' m).map ofO))) l2 = some (.tup ((seenF r' m).map ofO)) := upd_same
      generalize upd H' l2 (.tup ((seenF r' m).map ofO)) = H11 at sl2 hl2 ⊢
      have tn11 := tn10.same sl2
      refine ⟨.ref S, rfl, ne_seen hl2 tn11.seen hseen ⟨false, rfl, iteF ?_⟩⟩
      have hl11 := hl'.keep (tupS_of sl2)
      have B11 := tn11.std.b b bm
      refine ⟨.ref b, rfl, .int (r.length : Nat), rfl, b, _, rfl, B11, by omega, fun H12 pl k12 B12 lo12 hi12 => ?_⟩
      obtain ⟨pn, rfl⟩ : ∃ pn : Nat, pl = (pn : Int) := ⟨pl.toNat, by omega⟩
      refine ⟨.ref b, rfl, b, 39, rfl, B12, by decide, by decide, fun H13 t e c k13 B13 nt ht okt le39 => ⟨_, _, rfl, ?_⟩⟩
      have tn13 := (tn11.kb bm k12 B12).kb bm k13 B13
      have hl13 := (hl11.keep (k12.tup B11)).keep (k13.tup B12)
      obtain ⟨qs2, w1, w2, w3⟩ := toldAt tn13
      have hpr : pn < r.length := by omega
      have hqp := List.getElem?_eq_getElem (show pn < qs2.length by omega)
      refine ⟨.ref t, rfl, .ref tq, rfl, .int (pn : Nat), rfl, tq, _, _, .ref qs2[pn], rfl, rfl, sq_of w1, at_of rfl (by rw [List.getElem?_map, hqp]; rfl), notIn_tks (x := (e, c)) ht (w3 pn _ hqp) ⟨_, rfl, ite2 (fun z => ?_) (fun z => ⟨tn13, _, _, _, _, _, _, rfl⟩)⟩⟩
      have hnot : (e, c) ∉ fitT (cameF (seenF r m) pn) := by simpa using z
      obtain ⟨ts, h1, hpa⟩ := hl13.pairs
      have h2 := hpa.1
      refine ⟨.ref l, rfl, .int (pn : Nat), rfl, (pn : Int), rfl, slice_use h1 fun g1 H14 s14 hg1 => ?_⟩
      rw [cut_to rfl (by rw [List.length_map]; omega)] at hg1
      refine ⟨.ref t, rfl, by show 1 ≤ sizeLine; decide, fun u nu => ?_⟩
      have su := same_new (o := .tup [.ref t]) nu
      refine cat_use (su _ _ hg1) upd_same (by rw [List.length_take, List.length_map]; exact Nat.le_of_lt (small1000 (by simp; omega))) fun g3 H15 s15 hg3 => ?_
      have s135 := (s14.trans su).trans s15
      refine ⟨.ref l, rfl, .int (pn : Nat), rfl, (pn : Int), 1, rfl, rfl, (pn : Int) + 1, rfl, ?_⟩
      dsimp only [tNoPart]
      refine slice_use (K := K) (lo := some ((pn : Int) + 1)) (hi := none) (s135 _ _ h1) fun g4 H16 s16 hg4 => ?_
      rw [cut_from (k := pn + 1) (by omega) (by rw [List.length_map]; omega)] at hg4
      refine cat_use (s16 _ _ hg3) hg4 (by rw [List.length_append, List.length_take, List.length_drop, List.length_map]; exact Nat.le_of_lt (small1000 (by simp; omega))) fun q5 H17 s17 hq5 => ?_
      have s1317 := (s135.trans s16).trans s17
      have pr := hpa.keep (tupS_of s1317)
      have px : PairsAt H17 [t] [(e, c)] := ⟨rfl, fun i' u' g a1 a2 => by
        cases i' with
        | zero => cases a1; cases a2; exact s1317 _ _ ht
        | succ i' => simp at a1⟩
      obtain ⟨r17, hr17⟩ : ∃ r17, r17 = r'.take pn ++ [(e, c)] ++ r'.drop (pn + 1) := ⟨_, rfl⟩
      have hl17 : RowAt H17 q5 r17 := by
        rw [hr17]
        refine (((pr.take pn).app px).app (pr.drop (pn + 1))).row ?_
        rw [hq5, List.map_append, List.map_append, List.map_take, List.map_drop]
        rfl
      have all17 : ∀ ec ∈ r17, ec ∈ allT := fun ec hm => by
        rw [hr17] at hm
        rcases List.mem_append.mp hm with y | y
        · rcases List.mem_append.mp y with y | y
          · exact hall _ (List.mem_of_mem_take y)
          · rw [List.mem_singleton.mp y]
            exact mem_allT.mpr ⟨okt.1, by show e ≤ 40; omega, okt.2.2.1, okt.2.2.2⟩
        · exact hall _ (List.mem_of_mem_drop y)
      have ok17 : ∀ ec ∈ r17, okT ec := fun ec h => okT_of (all17 ec h)
      have len17 : r17.length ≤ 8 := by
        rw [hr17, List.length_append, List.length_append, List.length_take, List.length_drop]
        simp
        omega
      have at17 : r17[pn]? = some (e, c) := by
        rw [hr17, List.append_assoc, List.getElem?_append_right (by rw [List.length_take]; omega), List.length_take, Nat.min_eq_left (by omega), Nat.sub_self]
        rfl
      have tn17 := tn13.same s1317
      refine ⟨.int (m : Nat), rfl, _, rfl, by omega, by omega, fun D3 nD3 => ?_⟩
      refine lc_range (lo := 0) (n := ((m : Nat) : Int).toNat) (fun i H' => Same H17 H' ∧ H' D3 = some (.lst ((seenF r17 i).map ofO))) ⟨same_new nD3, upd_same⟩ (fun i H' hi hp => ?_) (fun H' hp => ?_)
      · obtain ⟨sm, hd⟩ := hp
        refine ⟨rfl, yesT ?_⟩
        refine ⟨.ref q5, rfl, _, rfl, _, 1, rfl, rfl, q5, r17, (i : Int) + 1, ?_, hl17.keep (tupS_of sm), ok17, len17, by omega, by omega, fun H5 s5 => ⟨_, s5 _ _ hd, ?_, same_upd_new nD3 (sm.trans s5), ?_⟩⟩
        · show [V.ref q5, V.int (0 + (i : Int) + 1)] = [V.ref q5, V.int ((i : Int) + 1)]
          rw [Int.zero_add]
        · rw [List.length_map, len_seenF, sizeLine_eq]
          omega
        · rw [upd_same, seen_succ, List.map_append]
          rfl
      obtain ⟨sm, hd⟩ := hp
      rw [show ((m : Nat) : Int).toNat = m by omega] at hd
      refine ⟨D3, _, rfl, .inl ⟨sq_of hd, fun l3 nl3 => ?_⟩⟩
      have sl3 := sm.trans (same_new (o := .tup ((seenF r17 m).map ofO)) nl3)
      have hl3 : (upd H' l3 (.tup ((seenF r17 m).map ofO))) l3 = some (.tup ((seenF r17 m).map ofO)) := upd_same
      generalize upd H' l3 (.tup ((seenF r17 m).map ofO)) = H18 at sl3 hl3 ⊢
      have tn18 := tn17.same sl3
      exact ⟨.ref S, rfl, eq_seen hl3 tn18.seen (unfitting_row all17 at17 hnot) ⟨false, rfl, iteF ⟨tn18, _, _, _, _, _, _, rfl⟩⟩⟩
    obtain ⟨tn8, y5, y9, y10, y12, y13, y14, rfl⟩ := hM
    clear tn7
    -- less
    refine ⟨fun σ H' => Turn L bs H' p r m S tq ∧ ∃ lq m', m' ≤ m ∧ FitsL H' lq (fitsF (seenF r m') r.length) ∧ σ = [some (.ref a), some (.ref b), some (.ref p), some (.ref S), some (.ref tq), y5, some (.ref lq), some (.int (r.length : Nat)), some (.int (m : Nat)), y9, y10, y11, y12, y13, y14, y15], ?_, fun σ H9 hM => ?_⟩
    · have B8 := tn8.std.b b bm
      refine ⟨.ref S, rfl, .ref b, rfl, .int (m : Nat), rfl, (m : Int), 1, rfl, rfl, b, _, rfl, B8, by omega, fun H9 z k9 B9 lo hi => ?_⟩
      obtain ⟨m', rfl⟩ : ∃ m' : Nat, z = (m' : Int) := ⟨z.toNat, by omega⟩
      have tn9 := tn8.kb bm k9 B9
      refine ⟨(m' : Int), rfl, ?_⟩
      dsimp only
      refine slice_use (K := K) (lo := none) (hi := some (m' : Int)) tn9.seen fun sp H10 s10 hsp => ?_
      rw [cut_to rfl (by rw [List.length_map, len_seenF]; omega), ← List.map_take, seen_take r (show m' ≤ m by omega)] at hsp
      have tn10 := tn9.same s10
      exact ⟨.int (r.length : Nat), rfl, sp, seenF r m', r.length, rfl, hsp, seen_ok r m' (by omega), r1, r8, fun H11 lq qs s11 nlq hq1 hq2 hq3 hq4 => ⟨tn10.same s11, lq, m', by omega, hq4, rfl⟩⟩
    obtain ⟨tn9, lq, m', hm', hlq, rfl⟩ := hM
    clear tn8
    obtain ⟨qs, q1, q2, q3⟩ := toldAt tn9
    obtain ⟨ls, l1, l2, l3⟩ := id hlq
    rw [fits_length] at l2
    refine ⟨.ref tq, rfl, .ref lq, rfl, tq, lq, _, _, rfl, sq_of q1, sq_of l1, ?_⟩
    refine for_it (walk_zip (K := K) (a := tq) (b := lq) (xs := qs.map V.ref) (ys := ls.map V.ref) (n := r.length) (by rw [List.length_map, List.length_map]; omega)) (fun i σ H' => Same H9 H' ∧ ∃ y10 y11 y15, σ = [some (.ref a), some (.ref b), some (.ref p), some (.ref S), some (.ref tq), y5, some (.ref lq), some (.int (r.length : Nat)), some (.int (m : Nat)), y9, y10, y11, y12, y13, y14, y15])
      ⟨Same.refl _, _, _, _, rfl⟩ (fun i σ H' _ hp => ⟨sq_of (hp.1 _ _ q1), sq_of (hp.1 _ _ l1)⟩) (fun j v σ H' H'' hj hp hy => ?_) (fun σ H' hp => ?_)
    · obtain ⟨sm, z10, z11, z15, rfl⟩ := hp
      obtain ⟨Tt, x, y, rfl, nT, rfl, ex, ey⟩ := hy
      have hqj := List.getElem?_eq_getElem (show j < qs.length by omega)
      have hlj := List.getElem?_eq_getElem (show j < ls.length by omega)
      have ex2 : x = .ref qs[j] := by
        have e0 : (qs.map V.ref)[j]? = some x := ex
        rw [List.getElem?_map, hqj] at e0
        exact (Option.some.inj e0).symm
      have ey2 : y = .ref ls[j] := by
        have e0 : (ls.map V.ref)[j]? = some y := ey
        rw [List.getElem?_map, hlj] at e0
        exact (Option.some.inj e0).symm
      subst ex2
      subst ey2
      have sT := same_new (o := .tup [.ref qs[j], .ref ls[j]]) nT
      have smT := sm.trans sT
      have hsome := (q3 j _ hqj).same smT
      have hwide := (l3 j _ _ hlj (fits_at hj)).same smT
      refine ⟨Tt, _, rfl, st_of upd_same, rfl, _, _, rfl, _, _, rfl, rfl, ?_⟩
      generalize upd H' Tt (.tup [.ref qs[j], .ref ls[j]]) = G at sT smT hsome hwide ⊢
      obtain ⟨tt, t1, t2⟩ := id hsome
      obtain ⟨ks, k1, k2, k3⟩ := tks_ks tt _ t2
      have kl : ks.length = (fitT (cameF (seenF r m) j)).length := by
        have := congrArg List.length k3
        rw [List.length_map, List.length_map] at this
        exact this
      have fl := fit_len (cameF (seenF r m) j)
      have krise : ks.Pairwise (fun p q => lexI p.2 q.2 = true) := by
        have z : (ks.map (·.2)).Pairwise (fun a b => lexI a b = true) := by
          rw [k3, List.pairwise_map]
          exact (fit_rise _).imp fun {a b} h => lexI_pair h
        exact List.pairwise_map.mp z
      have ksome : ∀ p ∈ ks, p.2 ≠ [] := fun p hp e => by
        have hm : p.2 ∈ ks.map (·.2) := List.mem_map.mpr ⟨p, hp, rfl⟩
        rw [k3] at hm
        obtain ⟨x, _, ex⟩ := List.mem_map.mp hm
        rw [e] at ex
        cases ex
      refine ⟨.ref qs[j], rfl, .ref qs[j], rfl, .ref qs[j], rfl, qs[j], ks, rfl, sq_of (by rw [k1]; exact t1), (fun p hp => st_of (k2 p hp)), by omega, (fun _ => ksome), krise, fun g ng => ?_⟩
      have sg := same_new (o := .lst (ks.map fun p => V.ref p.1)) ng
      refine ne_tks (hsome.same sg) ⟨tt, by rw [upd_same, k1], t2.keep (tupS_of sg)⟩ ⟨false, rfl, iteF ?_⟩
      have smg := smT.trans sg
      have hw2 := hwide.same sg
      have t1' := sg _ _ t1
      have t2' := t2.keep (tupS_of sg)
      generalize upd G g (.lst (ks.map fun p => V.ref p.1)) = G2 at smg hw2 t1' t2' ⊢
      refine ⟨.ref qs[j], rfl, qs[j], rfl, ⟨_, sq_of t1'⟩, fun D nD => ?_⟩
      refine lc_list (K := K) (a := qs[j]) (xs := tt.map V.ref) (fun i H' => Same G2 H' ∧ H' D = some (.lst [])) ⟨same_new nD, upd_same⟩ (fun i H' _ hp => sq_of (hp.1 _ _ t1')) (fun i x H' hx hp => ?_) (fun G3 hp => ?_)
      · obtain ⟨sn, hd⟩ := hp
        rw [List.getElem?_map] at hx
        obtain ⟨t, ht, rfl⟩ := Option.map_eq_some_iff.mp hx
        have til := (List.getElem?_eq_some_iff.mp ht).1
        have tl := t2'.1
        have hf := List.getElem?_eq_getElem (show i < (fitT (cameF (seenF r m) j)).length by omega)
        refine ⟨rfl, .ref t, rfl, .ref ls[j], rfl, notIn_tks (x := (fitT (cameF (seenF r m) j))[i]) (sn _ _ (t2'.2 i t _ ht hf)) (hw2.same sn) ⟨false, ?_, iteF ⟨sn, hd⟩⟩⟩
        rw [decide_eq_true (fits_more hr hj hm' (List.mem_of_getElem? hf))]
        rfl
      · obtain ⟨sn, hD⟩ := hp
        refine ⟨Nat.zero_le _, fun B nB => ?_⟩
        have sB := same_new (o := .lst []) nB
        refine ne_ints (ns := []) (sq_of (sB _ _ hD)) (sq_of upd_same) ⟨false, rfl, iteF ?_⟩
        exact ⟨(smg.trans sn).trans sB, _, _, _, rfl⟩
    · obtain ⟨sm, z10, z11, z15, rfl⟩ := hp
      exact ⟨(tn9.same sm).std, _, _, _, _, _, _, _, _, _, _, _, _, _, _, _, rfl⟩

end
theorem all_mk {l : PySem.W.OpenLaw} {w : World} {K : PySem.W.Frag} {h : Heap} {mg : Str → Option Value} {fa : Addr} (X : K.In h) (G : h.Ns mainGlobals mg) (hfa : mg "law" = some (.ref fa))
    {f1 f2 f3 f4 f5 f6 f7 f8 f9 f10 f11 f12 f13 f14 f15 f16 f17 f18 f19 : Addr} {od1 an1 od2 an2 od3 an3 od4 an4 od5 an5 od6 an6 od7 an7 od8 an8 od9 an9 od10 an10 od11 an11 od12 an12 od13 an13 od14 an14 od15 an15 od16 an16 od17 an17 od18 an18 od19 an19 : Option Addr} {sl1 sl2 sl3 sl4 sl5 sl6 sl7 sl8 sl9 sl10 sl11 sl12 sl13 sl14 sl15 sl16 sl17 sl18 sl19 : Array (Option Value)} {oc1 kV1 dc1 pm1 cd1 ct1 oc2 kV2 dc2 pm2 cd2 ct2 oc3 kV3 dc3 pm3 cd3 ct3 oc4 kV4 dc4 pm4 cd4 ct4 oc5 kV5 dc5 pm5 cd5 ct5 oc6 kV6 dc6 pm6 cd6 ct6 oc7 kV7 dc7 pm7 cd7 ct7 oc8 kV8 dc8 pm8 cd8 ct8 oc9 kV9 dc9 pm9 cd9 ct9 oc10 kV10 dc10 pm10 cd10 ct10 oc11 kV11 dc11 pm11 cd11 ct11 oc12 kV12 dc12 pm12 cd12 ct12 oc13 kV13 dc13 pm13 cd13 ct13 oc14 kV14 dc14 pm14 cd14 ct14 oc15 kV15 dc15 pm15 cd15 ct15 oc16 kV16 dc16 pm16 cd16 ct16 oc17 kV17 dc17 pm17 cd17 ct17 oc18 kV18 dc18 pm18 cd18 ct18 oc19 kV19 dc19 pm19 cd19 ct19 : Value}
    (a1 : PySem.W.nsIn K mainGlobals "is_whole" = some (some (.ref f1)))
    (l1 : K.lookup f1 = some ⟨oc1, od1, .func (PySem.W.fnOf "is_whole" "is_whole" (defArgs s_is_whole) (defBody s_is_whole) (defScope s_is_whole) .none kV1 dc1 pm1 an1 cd1 ct1), sl1⟩)
    (c1 : PySem.W.codeIn K cd1 "is_whole" = true) (k1 : PySem.W.keepIn K (.ref f1) = true)
    (a2 : PySem.W.nsIn K mainGlobals "check_number" = some (some (.ref f2)))
    (l2 : K.lookup f2 = some ⟨oc2, od2, .func (PySem.W.fnOf "check_number" "check_number" (defArgs s_check_number) (defBody s_check_number) (defScope s_check_number) .none kV2 dc2 pm2 an2 cd2 ct2), sl2⟩)
    (c2 : PySem.W.codeIn K cd2 "check_number" = true) (k2 : PySem.W.keepIn K (.ref f2) = true)
    (a3 : PySem.W.nsIn K mainGlobals "is_taker" = some (some (.ref f3)))
    (l3 : K.lookup f3 = some ⟨oc3, od3, .func (PySem.W.fnOf "is_taker" "is_taker" (defArgs s_is_taker) (defBody s_is_taker) (defScope s_is_taker) .none kV3 dc3 pm3 an3 cd3 ct3), sl3⟩)
    (c3 : PySem.W.codeIn K cd3 "is_taker" = true) (k3 : PySem.W.keepIn K (.ref f3) = true)
    (a4 : PySem.W.nsIn K mainGlobals "is_row" = some (some (.ref f4)))
    (l4 : K.lookup f4 = some ⟨oc4, od4, .func (PySem.W.fnOf "is_row" "is_row" (defArgs s_is_row) (defBody s_is_row) (defScope s_is_row) .none kV4 dc4 pm4 an4 cd4 ct4), sl4⟩)
    (c4 : PySem.W.codeIn K cd4 "is_row" = true) (k4 : PySem.W.keepIn K (.ref f4) = true)
    (a5 : PySem.W.nsIn K mainGlobals "check_row" = some (some (.ref f5)))
    (l5 : K.lookup f5 = some ⟨oc5, od5, .func (PySem.W.fnOf "check_row" "check_row" (defArgs s_check_row) (defBody s_check_row) (defScope s_check_row) .none kV5 dc5 pm5 an5 cd5 ct5), sl5⟩)
    (c5 : PySem.W.codeIn K cd5 "check_row" = true) (k5 : PySem.W.keepIn K (.ref f5) = true)
    (a6 : PySem.W.nsIn K mainGlobals "who" = some (some (.ref f6)))
    (l6 : K.lookup f6 = some ⟨oc6, od6, .func (PySem.W.fnOf "who" "who" (defArgs s_who) (defBody s_who) (defScope s_who) .none kV6 dc6 pm6 an6 cd6 ct6), sl6⟩)
    (c6 : PySem.W.codeIn K cd6 "who" = true) (k6 : PySem.W.keepIn K (.ref f6) = true)
    (a7 : PySem.W.nsIn K mainGlobals "is_seen" = some (some (.ref f7)))
    (l7 : K.lookup f7 = some ⟨oc7, od7, .func (PySem.W.fnOf "is_seen" "is_seen" (defArgs s_is_seen) (defBody s_is_seen) (defScope s_is_seen) .none kV7 dc7 pm7 an7 cd7 ct7), sl7⟩)
    (c7 : PySem.W.codeIn K cd7 "is_seen" = true) (k7 : PySem.W.keepIn K (.ref f7) = true)
    (a8 : PySem.W.nsIn K mainGlobals "check_seen" = some (some (.ref f8)))
    (l8 : K.lookup f8 = some ⟨oc8, od8, .func (PySem.W.fnOf "check_seen" "check_seen" (defArgs s_check_seen) (defBody s_check_seen) (defScope s_check_seen) .none kV8 dc8 pm8 an8 cd8 ct8), sl8⟩)
    (c8 : PySem.W.codeIn K cd8 "check_seen" = true) (k8 : PySem.W.keepIn K (.ref f8) = true)
    (a9 : PySem.W.nsIn K mainGlobals "check_places" = some (some (.ref f9)))
    (l9 : K.lookup f9 = some ⟨oc9, od9, .func (PySem.W.fnOf "check_places" "check_places" (defArgs s_check_places) (defBody s_check_places) (defScope s_check_places) .none kV9 dc9 pm9 an9 cd9 ct9), sl9⟩)
    (c9 : PySem.W.codeIn K cd9 "check_places" = true) (k9 : PySem.W.keepIn K (.ref f9) = true)
    (a10 : PySem.W.nsIn K mainGlobals "fits" = some (some (.ref f10)))
    (l10 : K.lookup f10 = some ⟨oc10, od10, .func (PySem.W.fnOf "fits" "fits" (defArgs s_fits) (defBody s_fits) (defScope s_fits) .none kV10 dc10 pm10 an10 cd10 ct10), sl10⟩)
    (c10 : PySem.W.codeIn K cd10 "fits" = true) (k10 : PySem.W.keepIn K (.ref f10) = true)
    (a11 : PySem.W.nsIn K mainGlobals "takers_of_place" = some (some (.ref f11)))
    (l11 : K.lookup f11 = some ⟨oc11, od11, .func (PySem.W.fnOf "takers_of_place" "takers_of_place" (defArgs s_takers_of_place) (defBody s_takers_of_place) (defScope s_takers_of_place) .none kV11 dc11 pm11 an11 cd11 ct11), sl11⟩)
    (c11 : PySem.W.codeIn K cd11 "takers_of_place" = true) (k11 : PySem.W.keepIn K (.ref f11) = true)
    (a12 : PySem.W.nsIn K mainGlobals "_law_cell_at" = some (some (.ref f12)))
    (l12 : K.lookup f12 = some ⟨oc12, od12, .func (PySem.W.fnOf "_law_cell_at" "_law_cell_at" (defArgs s__law_cell_at) (defBody s__law_cell_at) (defScope s__law_cell_at) .none kV12 dc12 pm12 an12 cd12 ct12), sl12⟩)
    (c12 : PySem.W.codeIn K cd12 "_law_cell_at" = true) (k12 : PySem.W.keepIn K (.ref f12) = true)
    (a13 : PySem.W.nsIn K mainGlobals "_law_draws" = some (some (.ref f13)))
    (l13 : K.lookup f13 = some ⟨oc13, od13, .func (PySem.W.fnOf "_law_draws" "_law_draws" (defArgs s__law_draws) (defBody s__law_draws) (defScope s__law_draws) .none kV13 dc13 pm13 an13 cd13 ct13), sl13⟩)
    (c13 : PySem.W.codeIn K cd13 "_law_draws" = true) (k13 : PySem.W.keepIn K (.ref f13) = true)
    (a14 : PySem.W.nsIn K mainGlobals "_law_bag" = some (some (.ref f14)))
    (l14 : K.lookup f14 = some ⟨oc14, od14, .func (PySem.W.fnOf "_law_bag" "_law_bag" (defArgs s__law_bag) (defBody s__law_bag) (defScope s__law_bag) .none kV14 dc14 pm14 an14 cd14 ct14), sl14⟩)
    (c14 : PySem.W.codeIn K cd14 "_law_bag" = true) (k14 : PySem.W.keepIn K (.ref f14) = true)
    (a15 : PySem.W.nsIn K mainGlobals "_law_bags" = some (some (.ref f15)))
    (l15 : K.lookup f15 = some ⟨oc15, od15, .func (PySem.W.fnOf "_law_bags" "_law_bags" (defArgs s__law_bags) (defBody s__law_bags) (defScope s__law_bags) .none kV15 dc15 pm15 an15 cd15 ct15), sl15⟩)
    (c15 : PySem.W.codeIn K cd15 "_law_bags" = true) (k15 : PySem.W.keepIn K (.ref f15) = true)
    (a16 : PySem.W.nsIn K mainGlobals "_law_take" = some (some (.ref f16)))
    (l16 : K.lookup f16 = some ⟨oc16, od16, .func (PySem.W.fnOf "_law_take" "_law_take" (defArgs s__law_take) (defBody s__law_take) (defScope s__law_take) .none kV16 dc16 pm16 an16 cd16 ct16), sl16⟩)
    (c16 : PySem.W.codeIn K cd16 "_law_take" = true) (k16 : PySem.W.keepIn K (.ref f16) = true)
    (a17 : PySem.W.nsIn K mainGlobals "_law_taker" = some (some (.ref f17)))
    (l17 : K.lookup f17 = some ⟨oc17, od17, .func (PySem.W.fnOf "_law_taker" "_law_taker" (defArgs s__law_taker) (defBody s__law_taker) (defScope s__law_taker) .none kV17 dc17 pm17 an17 cd17 ct17), sl17⟩)
    (c17 : PySem.W.codeIn K cd17 "_law_taker" = true) (k17 : PySem.W.keepIn K (.ref f17) = true)
    (a18 : PySem.W.nsIn K mainGlobals "_law_drawn_row" = some (some (.ref f18)))
    (l18 : K.lookup f18 = some ⟨oc18, od18, .func (PySem.W.fnOf "_law_drawn_row" "_law_drawn_row" (defArgs s__law_drawn_row) (defBody s__law_drawn_row) (defScope s__law_drawn_row) .none kV18 dc18 pm18 an18 cd18 ct18), sl18⟩)
    (c18 : PySem.W.codeIn K cd18 "_law_drawn_row" = true) (k18 : PySem.W.keepIn K (.ref f18) = true)
    (a19 : PySem.W.nsIn K mainGlobals "law" = some (some (.ref f19)))
    (l19 : K.lookup f19 = some ⟨oc19, od19, .func (PySem.W.fnOf "law" "law" (defArgs s_law) (defBody s_law) (defScope s_law) .none kV19 dc19 pm19 an19 cd19 ct19), sl19⟩)
    (c19 : PySem.W.codeIn K cd19 "law" = true) (k19 : PySem.W.keepIn K (.ref f19) = true)
    {t0 : Tok} (v0 : PySem.W.nsIn K mainGlobals "MOST_TAKERS" = some (some (.int 8 t0)))
    {t1 : Tok} (v1 : PySem.W.nsIn K mainGlobals "LEAST_EVERY" = some (some (.int 2 t1)))
    {t2 : Tok} (v2 : PySem.W.nsIn K mainGlobals "MOST_EVERY" = some (some (.int 1000 t2)))
    {t3 : Tok} (v3 : PySem.W.nsIn K mainGlobals "MOST_PIECES" = some (some (.int 1000000000000000000 t3)))
    {t4 : Tok} (v4 : PySem.W.nsIn K mainGlobals "MOST_SEEN" = some (some (.int 200 t4)))
    {t5 : Tok} (v5 : PySem.W.nsIn K mainGlobals "MOST_EVERY_SEEN" = some (some (.int 40 t5)))
    (z0 : PySem.W.nsIn K mainGlobals "all" = some none)
    (z1 : PySem.W.nsIn K mainGlobals "any" = some none)
    (z2 : PySem.W.nsIn K mainGlobals "bool" = some none)
    (z3 : PySem.W.nsIn K mainGlobals "divmod" = some none)
    (z4 : PySem.W.nsIn K mainGlobals "enumerate" = some none)
    (z5 : PySem.W.nsIn K mainGlobals "int" = some none)
    (z6 : PySem.W.nsIn K mainGlobals "isinstance" = some none)
    (z7 : PySem.W.nsIn K mainGlobals "len" = some none)
    (z8 : PySem.W.nsIn K mainGlobals "list" = some none)
    (z9 : PySem.W.nsIn K mainGlobals "max" = some none)
    (z10 : PySem.W.nsIn K mainGlobals "min" = some none)
    (z11 : PySem.W.nsIn K mainGlobals "range" = some none)
    (z12 : PySem.W.nsIn K mainGlobals "set" = some none)
    (z13 : PySem.W.nsIn K mainGlobals "sorted" = some none)
    (z14 : PySem.W.nsIn K mainGlobals "tuple" = some none)
    (z15 : PySem.W.nsIn K mainGlobals "zip" = some none)
    : ∃ fd : FuncData, (∀ (s : Shared) (v : Value), BindsTo s fd ⟨[v], []⟩ [("script", v)]) ∧ ∀ base : Heap, K.In base → base.Ns mainGlobals mg → FnOk l.prog w K mg base CX0 6 fa fd ["script"] (spLaw K) := by
  have e := hfa.symm.trans (PySem.W.mg_of X G a19)
  cases e
  let T : Top K mg := {
    a_is_whole := f1, fd_is_whole := _, F_is_whole := fun_mk (st := s_is_whole) l1 c1 k1,
    b_is_whole := (fun_mk (st := s_is_whole) l1 c1 k1).binds (ps := ["thing", "least", "most"]) fun _ _ _ _ _ _ us hl => match us, hl with | [_, _, _], _ => rfl,
    g_is_whole := PySem.W.mg_of X G a1,
    a_check_number := f2, fd_check_number := _, F_check_number := fun_mk (st := s_check_number) l2 c2 k2,
    b_check_number := (fun_mk (st := s_check_number) l2 c2 k2).binds (ps := ["thing", "least", "most"]) fun _ _ _ _ _ _ us hl => match us, hl with | [_, _, _], _ => rfl,
    g_check_number := PySem.W.mg_of X G a2,
    a_is_taker := f3, fd_is_taker := _, F_is_taker := fun_mk (st := s_is_taker) l3 c3 k3,
    b_is_taker := (fun_mk (st := s_is_taker) l3 c3 k3).binds (ps := ["thing"]) fun _ _ _ _ _ _ us hl => match us, hl with | [_], _ => rfl,
    g_is_taker := PySem.W.mg_of X G a3,
    a_is_row := f4, fd_is_row := _, F_is_row := fun_mk (st := s_is_row) l4 c4 k4,
    b_is_row := (fun_mk (st := s_is_row) l4 c4 k4).binds (ps := ["thing"]) fun _ _ _ _ _ _ us hl => match us, hl with | [_], _ => rfl,
    g_is_row := PySem.W.mg_of X G a4,
    a_check_row := f5, fd_check_row := _, F_check_row := fun_mk (st := s_check_row) l5 c5 k5,
    b_check_row := (fun_mk (st := s_check_row) l5 c5 k5).binds (ps := ["thing"]) fun _ _ _ _ _ _ us hl => match us, hl with | [_], _ => rfl,
    g_check_row := PySem.W.mg_of X G a5,
    a_who := f6, fd_who := _, F_who := fun_mk (st := s_who) l6 c6 k6,
    b_who := (fun_mk (st := s_who) l6 c6 k6).binds (ps := ["row", "piece"]) fun _ _ _ _ _ _ us hl => match us, hl with | [_, _], _ => rfl,
    g_who := PySem.W.mg_of X G a6,
    a_is_seen := f7, fd_is_seen := _, F_is_seen := fun_mk (st := s_is_seen) l7 c7 k7,
    b_is_seen := (fun_mk (st := s_is_seen) l7 c7 k7).binds (ps := ["thing"]) fun _ _ _ _ _ _ us hl => match us, hl with | [_], _ => rfl,
    g_is_seen := PySem.W.mg_of X G a7,
    a_check_seen := f8, fd_check_seen := _, F_check_seen := fun_mk (st := s_check_seen) l8 c8 k8,
    b_check_seen := (fun_mk (st := s_check_seen) l8 c8 k8).binds (ps := ["thing"]) fun _ _ _ _ _ _ us hl => match us, hl with | [_], _ => rfl,
    g_check_seen := PySem.W.mg_of X G a8,
    a_check_places := f9, fd_check_places := _, F_check_places := fun_mk (st := s_check_places) l9 c9 k9,
    b_check_places := (fun_mk (st := s_check_places) l9 c9 k9).binds (ps := ["seen", "many"]) fun _ _ _ _ _ _ us hl => match us, hl with | [_, _], _ => rfl,
    g_check_places := PySem.W.mg_of X G a9,
    a_fits := f10, fd_fits := _, F_fits := fun_mk (st := s_fits) l10 c10 k10,
    b_fits := (fun_mk (st := s_fits) l10 c10 k10).binds (ps := ["seen", "many"]) fun _ _ _ _ _ _ us hl => match us, hl with | [_, _], _ => rfl,
    g_fits := PySem.W.mg_of X G a10,
    a_takers_of_place := f11, fd_takers_of_place := _, F_takers_of_place := fun_mk (st := s_takers_of_place) l11 c11 k11,
    b_takers_of_place := (fun_mk (st := s_takers_of_place) l11 c11 k11).binds (ps := ["coming", "place"]) fun _ _ _ _ _ _ us hl => match us, hl with | [_, _], _ => rfl,
    g_takers_of_place := PySem.W.mg_of X G a11,
    a__law_cell_at := f12, fd__law_cell_at := _, F__law_cell_at := fun_mk (st := s__law_cell_at) l12 c12 k12,
    b__law_cell_at := (fun_mk (st := s__law_cell_at) l12 c12 k12).binds (ps := ["script", "k"]) fun _ _ _ _ _ _ us hl => match us, hl with | [_, _], _ => rfl,
    g__law_cell_at := PySem.W.mg_of X G a12,
    a__law_draws := f13, fd__law_draws := _, F__law_draws := fun_mk (st := s__law_draws) l13 c13 k13,
    b__law_draws := (fun_mk (st := s__law_draws) l13 c13 k13).binds (ps := ["cell", "many", "size"]) fun _ _ _ _ _ _ us hl => match us, hl with | [_, _, _], _ => rfl,
    g__law_draws := PySem.W.mg_of X G a13,
    a__law_bag := f14, fd__law_bag := _, F__law_bag := fun_mk (st := s__law_bag) l14 c14 k14,
    b__law_bag := (fun_mk (st := s__law_bag) l14 c14 k14).binds (ps := ["script", "k"]) fun _ _ _ _ _ _ us hl => match us, hl with | [_, _], _ => rfl,
    g__law_bag := PySem.W.mg_of X G a14,
    a__law_bags := f15, fd__law_bags := _, F__law_bags := fun_mk (st := s__law_bags) l15 c15 k15,
    b__law_bags := (fun_mk (st := s__law_bags) l15 c15 k15).binds (ps := ["script", "limit"]) fun _ _ _ _ _ _ us hl => match us, hl with | [_, _], _ => rfl,
    g__law_bags := PySem.W.mg_of X G a15,
    a__law_take := f16, fd__law_take := _, F__law_take := fun_mk (st := s__law_take) l16 c16 k16,
    b__law_take := (fun_mk (st := s__law_take) l16 c16 k16).binds (ps := ["bag", "many"]) fun _ _ _ _ _ _ us hl => match us, hl with | [_, _], _ => rfl,
    g__law_take := PySem.W.mg_of X G a16,
    a__law_taker := f17, fd__law_taker := _, F__law_taker := fun_mk (st := s__law_taker) l17 c17 k17,
    b__law_taker := (fun_mk (st := s__law_taker) l17 c17 k17).binds (ps := ["bag", "far"]) fun _ _ _ _ _ _ us hl => match us, hl with | [_, _], _ => rfl,
    g__law_taker := PySem.W.mg_of X G a17,
    a__law_drawn_row := f18, fd__law_drawn_row := _, F__law_drawn_row := fun_mk (st := s__law_drawn_row) l18 c18 k18,
    b__law_drawn_row := (fun_mk (st := s__law_drawn_row) l18 c18 k18).binds (ps := ["bag", "takers", "far"]) fun _ _ _ _ _ _ us hl => match us, hl with | [_, _, _], _ => rfl,
    g__law_drawn_row := PySem.W.mg_of X G a18,
    a_law := fa, fd_law := _, F_law := fun_mk (st := s_law) l19 c19 k19,
    b_law := (fun_mk (st := s_law) l19 c19 k19).binds (ps := ["script"]) fun _ _ _ _ _ _ us hl => match us, hl with | [_], _ => rfl,
    g_law := PySem.W.mg_of X G a19,
    t_MOST_TAKERS := t0, g_MOST_TAKERS := PySem.W.mg_of X G v0,
    t_LEAST_EVERY := t1, g_LEAST_EVERY := PySem.W.mg_of X G v1,
    t_MOST_EVERY := t2, g_MOST_EVERY := PySem.W.mg_of X G v2,
    t_MOST_PIECES := t3, g_MOST_PIECES := PySem.W.mg_of X G v3,
    t_MOST_SEEN := t4, g_MOST_SEEN := PySem.W.mg_of X G v4,
    t_MOST_EVERY_SEEN := t5, g_MOST_EVERY_SEEN := PySem.W.mg_of X G v5,
    z_all := PySem.W.mg_none_of X G z0,
    z_any := PySem.W.mg_none_of X G z1,
    z_bool := PySem.W.mg_none_of X G z2,
    z_divmod := PySem.W.mg_none_of X G z3,
    z_enumerate := PySem.W.mg_none_of X G z4,
    z_int := PySem.W.mg_none_of X G z5,
    z_isinstance := PySem.W.mg_none_of X G z6,
    z_len := PySem.W.mg_none_of X G z7,
    z_list := PySem.W.mg_none_of X G z8,
    z_max := PySem.W.mg_none_of X G z9,
    z_min := PySem.W.mg_none_of X G z10,
    z_range := PySem.W.mg_none_of X G z11,
    z_set := PySem.W.mg_none_of X G z12,
    z_sorted := PySem.W.mg_none_of X G z13,
    z_tuple := PySem.W.mg_none_of X G z14,
    z_zip := PySem.W.mg_none_of X G z15 }
  exact ⟨T.fd_law, fun s v => .of_eq rfl, fun base _ _ => ok_law T⟩
end Lk09
open PySem PySem.W PyProof.Rows
set_option maxHeartbeats 0 in
theorem PySem.Challenge.cw_takenth_k09_whole_each_taker_is_free_of_holds : PySem.Challenge.rw_takenth_k09_whole_each_taker_is_free_of.Holds := by
  w_on; o_law; k_head; (case hw => w_witness2)
  k_fill
  refine L2.walk_of (l := PySem.Challenge.rw_takenth_k09_whole_each_taker_is_free_of) (n := 63) (k := 6) (x := "script") (CX := fun _ => L2.CX0) (sp := fun w => Lk09.spLaw _) rfl (by decide) rfl ⟨rfl, by decide, by decide⟩ (fun w h Y => PySem.W.kIn_of Y) ?F (fun _ _ a ns hl _ hS => ⟨a, ns, rfl, hS, hl, fun _ => rfl⟩) (fun _ _ _ _ _ h => h)
  case F =>
    intro w mg fa h KX G hmg
    refine' Lk09.all_mk KX G hmg ?a1 ?l1 ?c1 ?k1 ?a2 ?l2 ?c2 ?k2 ?a3 ?l3 ?c3 ?k3 ?a4 ?l4 ?c4 ?k4 ?a5 ?l5 ?c5 ?k5 ?a6 ?l6 ?c6 ?k6 ?a7 ?l7 ?c7 ?k7 ?a8 ?l8 ?c8 ?k8 ?a9 ?l9 ?c9 ?k9 ?a10 ?l10 ?c10 ?k10 ?a11 ?l11 ?c11 ?k11 ?a12 ?l12 ?c12 ?k12 ?a13 ?l13 ?c13 ?k13 ?a14 ?l14 ?c14 ?k14 ?a15 ?l15 ?c15 ?k15 ?a16 ?l16 ?c16 ?k16 ?a17 ?l17 ?c17 ?k17 ?a18 ?l18 ?c18 ?k18 ?a19 ?l19 ?c19 ?k19 ?v0 ?v1 ?v2 ?v3 ?v4 ?v5 ?z0 ?z1 ?z2 ?z3 ?z4 ?z5 ?z6 ?z7 ?z8 ?z9 ?z10 ?z11 ?z12 ?z13 ?z14 ?z15
    (case a1 => k_is)
    (case l1 => k_is)
    (case c1 => k_is)
    (case k1 => k_is)
    (case a2 => k_is)
    (case l2 => k_is)
    (case c2 => k_is)
    (case k2 => k_is)
    (case a3 => k_is)
    (case l3 => k_is)
    (case c3 => k_is)
    (case k3 => k_is)
    (case a4 => k_is)
    (case l4 => k_is)
    (case c4 => k_is)
    (case k4 => k_is)
    (case a5 => k_is)
    (case l5 => k_is)
    (case c5 => k_is)
    (case k5 => k_is)
    (case a6 => k_is)
    (case l6 => k_is)
    (case c6 => k_is)
    (case k6 => k_is)
    (case a7 => k_is)
    (case l7 => k_is)
    (case c7 => k_is)
    (case k7 => k_is)
    (case a8 => k_is)
    (case l8 => k_is)
    (case c8 => k_is)
    (case k8 => k_is)
    (case a9 => k_is)
    (case l9 => k_is)
    (case c9 => k_is)
    (case k9 => k_is)
    (case a10 => k_is)
    (case l10 => k_is)
    (case c10 => k_is)
    (case k10 => k_is)
    (case a11 => k_is)
    (case l11 => k_is)
    (case c11 => k_is)
    (case k11 => k_is)
    (case a12 => k_is)
    (case l12 => k_is)
    (case c12 => k_is)
    (case k12 => k_is)
    (case a13 => k_is)
    (case l13 => k_is)
    (case c13 => k_is)
    (case k13 => k_is)
    (case a14 => k_is)
    (case l14 => k_is)
    (case c14 => k_is)
    (case k14 => k_is)
    (case a15 => k_is)
    (case l15 => k_is)
    (case c15 => k_is)
    (case k15 => k_is)
    (case a16 => k_is)
    (case l16 => k_is)
    (case c16 => k_is)
    (case k16 => k_is)
    (case a17 => k_is)
    (case l17 => k_is)
    (case c17 => k_is)
    (case k17 => k_is)
    (case a18 => k_is)
    (case l18 => k_is)
    (case c18 => k_is)
    (case k18 => k_is)
    (case a19 => k_is)
    (case l19 => k_is)
    (case c19 => k_is)
    (case k19 => k_is)
    (case v0 => k_is)
    (case v1 => k_is)
    (case v2 => k_is)
    (case v3 => k_is)
    (case v4 => k_is)
    (case v5 => k_is)
    (case z0 => k_is)
    (case z1 => k_is)
    (case z2 => k_is)
    (case z3 => k_is)
    (case z4 => k_is)
    (case z5 => k_is)
    (case z6 => k_is)
    (case z7 => k_is)
    (case z8 => k_is)
    (case z9 => k_is)
    (case z10 => k_is)
    (case z11 => k_is)
    (case z12 => k_is)
    (case z13 => k_is)
    (case z14 => k_is)
    (case z15 => k_is)
