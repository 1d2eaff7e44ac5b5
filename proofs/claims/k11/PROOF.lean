import PyProof.Rows.All
import Wide.All
import OpenK.AllK
import Wide.FinOn
import HandS.ForMost
import HandS.IsInst
import HandS.TupAny
import HandS.Walk
import HandS.Rev
import KE.GoesMore
import HandS.Conv
import HandS.Style
import HandS.Wide
import HandS.More
import HandS.SortKw
import KE.DataMinMax
import HandS.Exc
import HandS.ExcOwn
import HandS.TryOnly
import HandS.WordsExc
import HandS.Lambda
import HandS.ExcCtx
import HandS.ExcIs
import HandS.Hot
import HandS.HotCalls
import HandS.EndTab
import KE.KNestM
import PySem.Challenge.RW_takenth_k11_where_two_rows_part
set_option Elab.async false
set_option linter.all false
set_option maxRecDepth 100000
set_option maxHeartbeats 4000000
namespace TK
/-- who takes piece n (from 1 on) -/
def whoF : List (Int × Int) → Int → Option Nat
  | [], _ => none
  | (e, c) :: r, n => if (c + n) % e = 0 then some 0 else (whoF r (n - (c + n) / e)).map (· + 1)
/-- how many each one takes of n, the left over last -/
def takenF : List (Int × Int) → Int → List Int
  | [], n => [n]
  | (e, c) :: r, n => (c + n) / e :: takenF r (n - (c + n) / e)
/-- what each has counted behind n pieces -/
def cntF : List (Int × Int) → Int → List Int
  | [], _ => []
  | (e, c) :: r, n => (c + n) % e :: cntF r (n - (c + n) / e)
/-- how many of n pieces come to place i -/
def comeF : List (Int × Int) → Nat → Int → Int
  | _, 0, n => n
  | [], _ + 1, n => n
  | (e, c) :: r, i + 1, n => comeF r i (n - (c + n) / e)
theorem come_zero (r : List (Int × Int)) (n : Int) : comeF r 0 n = n := by cases r <;> rfl
def okT (ec : Int × Int) : Prop := 2 ≤ ec.1 ∧ ec.1 ≤ 1000 ∧ 0 ≤ ec.2 ∧ ec.2 ≤ ec.1 - 1

theorem div_step0 {a e : Int} (he : 0 < e) (h : (a + 1) % e = 0) : (a + 1) / e = a / e + 1 := by
  have h1 := Int.mul_ediv_add_emod (a + 1) e
  have h2 := Int.mul_ediv_add_emod a e
  have h3 := Int.emod_nonneg a (Int.ne_of_gt he)
  have h4 := Int.emod_lt_of_pos a he
  rw [h] at h1
  have h5 : e * ((a + 1) / e) = e * (a / e) + (a % e + 1) := by omega
  have h6 : e * ((a + 1) / e - a / e) = a % e + 1 := by rw [Int.mul_sub]; omega
  have h7 : (a + 1) / e - a / e = 1 := by
    have p : 0 < (a + 1) / e - a / e := by
      rcases Int.lt_or_le 0 ((a + 1) / e - a / e) with h | h
      · exact h
      · have := Int.mul_nonpos_of_nonneg_of_nonpos (Int.le_of_lt he) h
        omega
    rcases Int.lt_or_le 1 ((a + 1) / e - a / e) with h | h
    · have : e * 2 ≤ e * ((a + 1) / e - a / e) := Int.mul_le_mul_of_nonneg_left (by omega) (Int.le_of_lt he)
      omega
    · omega
  omega
theorem div_stepN {a e : Int} (he : 0 < e) (h : (a + 1) % e ≠ 0) : (a + 1) / e = a / e := by
  have h1 := Int.mul_ediv_add_emod (a + 1) e
  have h2 := Int.mul_ediv_add_emod a e
  have h3 := Int.emod_nonneg a (Int.ne_of_gt he)
  have h4 := Int.emod_lt_of_pos a he
  have h3' := Int.emod_nonneg (a + 1) (Int.ne_of_gt he)
  have h4' := Int.emod_lt_of_pos (a + 1) he
  have h6 : e * ((a + 1) / e - a / e) = a % e + 1 - (a + 1) % e := by rw [Int.mul_sub]; omega
  have h7 : (a + 1) / e - a / e = 0 := by
    rcases Int.lt_or_le 0 ((a + 1) / e - a / e) with h | h
    · have : e * 1 ≤ e * ((a + 1) / e - a / e) := Int.mul_le_mul_of_nonneg_left (by omega) (Int.le_of_lt he)
      omega
    · rcases Int.lt_or_le ((a + 1) / e - a / e) 0 with h | h
      · have : e * ((a + 1) / e - a / e) ≤ e * (-1) := Int.mul_le_mul_of_nonneg_left (by omega) (Int.le_of_lt he)
        omega
      · omega
  omega
theorem mod_step (a e : Int) : (a % e + 1) % e = (a + 1) % e := by
  rw [Int.add_emod, Int.emod_emod_of_dvd _ (Int.dvd_refl e), ← Int.add_emod]

theorem len_takenF : ∀ (r : List (Int × Int)) (n : Int), (takenF r n).length = r.length + 1
  | [], _ => rfl
  | (e, c) :: r, n => by simp [takenF, len_takenF r]
theorem len_cntF : ∀ (r : List (Int × Int)) (n : Int), (cntF r n).length = r.length
  | [], _ => rfl
  | (e, c) :: r, n => by simp [cntF, len_cntF r]
theorem whoF_lt : ∀ (r : List (Int × Int)) (n : Int) (j : Nat), whoF r n = some j → j < r.length
  | [], _, _, h => by simp [whoF] at h
  | (e, c) :: r, n, j, h => by
    unfold whoF at h
    split at h
    · have := Option.some.inj h
      simp; omega
    · cases q : whoF r (n - (c + n) / e) with
      | none => rw [q] at h; simp at h
      | some k =>
        rw [q] at h
        have := whoF_lt r _ k q
        simp at h
        simp; omega
theorem come_succ : ∀ (r : List (Int × Int)) (n : Int) (i : Nat) (e c : Int), r[i]? = some (e, c) → comeF r (i + 1) n = comeF r i n - (c + comeF r i n) / e
  | [], _, _, _, _, h => by simp at h
  | (e, c) :: r, n, 0, e', c', h => by
    simp at h
    obtain ⟨rfl, rfl⟩ := h
    simp [comeF]
  | (e, c) :: r, n, i + 1, e', c', h => by
    have := come_succ r (n - (c + n) / e) i e' c' (by simpa using h)
    simpa [comeF] using this
theorem taken_get : ∀ (r : List (Int × Int)) (n : Int) (i : Nat) (e c : Int), r[i]? = some (e, c) → (takenF r n)[i]? = some ((c + comeF r i n) / e)
  | [], _, _, _, _, h => by simp at h
  | (e, c) :: r, n, 0, e', c', h => by
    simp at h
    obtain ⟨rfl, rfl⟩ := h
    simp [takenF, comeF]
  | (e, c) :: r, n, i + 1, e', c', h => by
    have := taken_get r (n - (c + n) / e) i e' c' (by simpa using h)
    simpa [takenF, comeF] using this
theorem taken_last : ∀ (r : List (Int × Int)) (n : Int), (takenF r n)[r.length]? = some (comeF r r.length n)
  | [], _ => by simp [takenF, comeF]
  | (e, c) :: r, n => by
    have := taken_last r (n - (c + n) / e)
    simpa [takenF, comeF] using this
/-- the place i is reached by piece n + 1 -/
def reach (r : List (Int × Int)) (n : Int) (i : Nat) : Prop := ∀ j, whoF r n = some j → i ≤ j
theorem come_step : ∀ (r : List (Int × Int)) (n : Int) (i : Nat), (∀ ec ∈ r, okT ec) → i ≤ r.length → reach r (n + 1) i → comeF r i (n + 1) = comeF r i n + 1
  | _, _, 0, _, _, _ => by simp [comeF]
  | [], _, i + 1, _, hi, _ => by simp at hi
  | (e, c) :: r, n, i + 1, ok, hi, h => by
    have he : (0 : Int) < e := by have := ok (e, c) (by simp); unfold okT at this; simp at this; omega
    have ea : c + (n + 1) = c + n + 1 := by omega
    by_cases q : (c + (n + 1)) % e = 0
    · have : i + 1 ≤ 0 := h 0 (by simp [whoF, q])
      omega
    · have e1 : (c + (n + 1)) / e = (c + n) / e := by rw [ea] at q ⊢; exact div_stepN he q
      unfold comeF
      rw [e1]
      have := come_step r (n - (c + n) / e) i (fun x hx => ok x (by simp [hx])) (by simp at hi; omega) (fun j hj => by
        have := h (j + 1) (by
          unfold whoF
          rw [if_neg q, e1, show n + 1 - (c + n) / e = n - (c + n) / e + 1 by omega, hj]
          rfl)
        omega)
      rw [← this]
      congr 1
      omega
theorem cnt_get : ∀ (r : List (Int × Int)) (n : Int) (i : Nat) (e c : Int), r[i]? = some (e, c) → (cntF r n)[i]? = some ((c + comeF r i n) % e)
  | [], _, _, _, _, h => by simp at h
  | (e, c) :: r, n, 0, e', c', h => by
    simp at h
    obtain ⟨rfl, rfl⟩ := h
    simp [cntF, comeF]
  | (e, c) :: r, n, i + 1, e', c', h => by
    have := cnt_get r (n - (c + n) / e) i e' c' (by simpa using h)
    simpa [cntF, comeF] using this
theorem who_at : ∀ (r : List (Int × Int)) (n : Int) (i : Nat) (e c : Int), r[i]? = some (e, c) → reach r n i → (whoF r n = some i ↔ (c + comeF r i n) % e = 0)
  | [], _, _, _, _, h, _ => by simp at h
  | (e, c) :: r, n, 0, e', c', h, hr => by
    simp at h
    obtain ⟨rfl, rfl⟩ := h
    simp [whoF, comeF]
  | (e, c) :: r, n, i + 1, e', c', h, hr => by
    have q : (c + n) % e ≠ 0 := fun q => by
      have := hr 0 (by simp [whoF, q])
      omega
    have := who_at r (n - (c + n) / e) i e' c' (by simpa using h) (fun j hj => by
      have := hr (j + 1) (by unfold whoF; rw [if_neg q, hj]; rfl)
      omega)
    unfold whoF comeF
    rw [if_neg q, ← this]
    cases whoF r (n - (c + n) / e) with
    | none => simp
    | some k => simp
theorem reach_succ {r : List (Int × Int)} {n : Int} {i : Nat} (h : reach r n i) (h2 : whoF r n ≠ some i) : reach r n (i + 1) := fun j hj => by
  have := h j hj
  rcases Nat.lt_or_ge i j with q | q
  · omega
  · have e : j = i := by omega
    subst e
    exact absurd hj h2
/-- behind the taker of piece n + 1 nothing is counted -/
theorem cnt_same : ∀ (r : List (Int × Int)) (n : Int) (i j : Nat), (∀ ec ∈ r, okT ec) → whoF r (n + 1) = some j → j < i → (cntF r (n + 1))[i]? = (cntF r n)[i]?
  | [], _, _, _, _, h, _ => by simp [whoF] at h
  | (e, c) :: r, n, 0, j, _, _, h => by omega
  | (e, c) :: r, n, i + 1, j, ok, h, hj => by
    have he : (0 : Int) < e := by have := ok (e, c) (by simp); unfold okT at this; simp at this; omega
    have ea : c + (n + 1) = c + n + 1 := by omega
    unfold whoF at h
    by_cases q : (c + (n + 1)) % e = 0
    · have e1 : (c + (n + 1)) / e = (c + n) / e + 1 := by rw [ea] at q ⊢; exact div_step0 he q
      unfold cntF
      rw [e1, show n + 1 - ((c + n) / e + 1) = n - (c + n) / e by omega]
      simp
    · have e1 : (c + (n + 1)) / e = (c + n) / e := by rw [ea] at q ⊢; exact div_stepN he q
      rw [if_neg q, e1, show n + 1 - (c + n) / e = n - (c + n) / e + 1 by omega] at h
      cases k : whoF r (n - (c + n) / e + 1) with
      | none => rw [k] at h; simp at h
      | some j' =>
        rw [k] at h
        simp at h
        have := cnt_same r (n - (c + n) / e) i j' (fun x hx => ok x (by simp [hx])) k (by omega)
        unfold cntF
        rw [e1, show n + 1 - (c + n) / e = n - (c + n) / e + 1 by omega]
        simpa using this
/-- the index that is counted up by who takes piece n: the last one where it is left over -/
def slot (r : List (Int × Int)) : Option Nat → Nat
  | none => r.length
  | some j => j
theorem taken_step : ∀ (r : List (Int × Int)) (n : Int) (i : Nat) (v : Int), (∀ ec ∈ r, okT ec) → (takenF r n)[i]? = some v →
    (takenF r (n + 1))[i]? = some (v + if i = slot r (whoF r (n + 1)) then 1 else 0)
  | [], n, i, v, _, h => by
    cases i with
    | zero => simp [takenF, whoF, slot] at h ⊢; omega
    | succ i => simp [takenF] at h
  | (e, c) :: r, n, i, v, ok, h => by
    have he : (0 : Int) < e := by have := ok (e, c) (by simp); unfold okT at this; simp at this; omega
    have ea : c + (n + 1) = c + n + 1 := by omega
    by_cases q : (c + (n + 1)) % e = 0
    · have e1 : (c + (n + 1)) / e = (c + n) / e + 1 := by rw [ea] at q ⊢; exact div_step0 he q
      unfold takenF at h ⊢
      rw [e1, show n + 1 - ((c + n) / e + 1) = n - (c + n) / e by omega]
      have hw : whoF ((e, c) :: r) (n + 1) = some 0 := by simp [whoF, q]
      rw [hw]
      cases i with
      | zero => simp [slot] at h ⊢; omega
      | succ i => simp [slot] at h ⊢; exact h
    · have e1 : (c + (n + 1)) / e = (c + n) / e := by rw [ea] at q ⊢; exact div_stepN he q
      have hw : whoF ((e, c) :: r) (n + 1) = (whoF r (n - (c + n) / e + 1)).map (· + 1) := by
        conv => lhs; unfold whoF
        rw [if_neg q, e1, show n + 1 - (c + n) / e = n - (c + n) / e + 1 by omega]
      have hs : slot ((e, c) :: r) (whoF ((e, c) :: r) (n + 1)) = slot r (whoF r (n - (c + n) / e + 1)) + 1 := by
        rw [hw]
        cases whoF r (n - (c + n) / e + 1) <;> simp [slot]
      rw [hs]
      unfold takenF at h ⊢
      rw [e1, show n + 1 - (c + n) / e = n - (c + n) / e + 1 by omega]
      cases i with
      | zero => simp at h ⊢; omega
      | succ i =>
        have := taken_step r (n - (c + n) / e) i v (fun x hx => ok x (by simp [hx])) (by simpa using h)
        simpa using this
theorem taken_zero : ∀ (r : List (Int × Int)), (∀ ec ∈ r, okT ec) → takenF r 0 = List.replicate (r.length + 1) 0
  | [], _ => rfl
  | (e, c) :: r, ok => by
    have h := ok (e, c) (by simp)
    unfold okT at h
    simp at h
    have e0 : (c + 0) / e = 0 := by rw [Int.add_zero]; exact Int.ediv_eq_zero_of_lt h.2.2.1 (by omega)
    unfold takenF
    rw [e0, show (0 : Int) - 0 = 0 by omega, taken_zero r fun x hx => ok x (by simp [hx])]
    rfl
theorem cnt_zero : ∀ (r : List (Int × Int)), (∀ ec ∈ r, okT ec) → cntF r 0 = r.map (·.2)
  | [], _ => rfl
  | (e, c) :: r, ok => by
    have h := ok (e, c) (by simp)
    unfold okT at h
    simp at h
    have e0 : (c + 0) / e = 0 := by rw [Int.add_zero]; exact Int.ediv_eq_zero_of_lt h.2.2.1 (by omega)
    unfold cntF
    rw [e0, show (0 : Int) - 0 = 0 by omega, cnt_zero r fun x hx => ok x (by simp [hx])]
    simp
    exact Int.emod_eq_of_lt h.2.2.1 (by omega)
/-- who takes the first m pieces -/
def seenF (r : List (Int × Int)) (m : Nat) : List (Option Nat) := (List.range m).map fun (k : Nat) => whoF r ((k : Int) + 1)
theorem seen_succ (r : List (Int × Int)) (m : Nat) : seenF r (m + 1) = seenF r m ++ [whoF r ((m : Int) + 1)] := by
  unfold seenF
  rw [List.range_succ, List.map_append]
  rfl
theorem len_seenF (r : List (Int × Int)) (m : Nat) : (seenF r m).length = m := by simp [seenF]
theorem slot_inj {r : List (Int × Int)} {n : Int} {i : Nat} {o : Option Nat} (ho : ∀ j, o = some j → j < r.length) : i = slot r (whoF r n) ∧ i = slot r o → whoF r n = o := by
  intro ⟨h1, h2⟩
  cases q : whoF r n with
  | none =>
    rw [q] at h1
    cases o with
    | none => rfl
    | some j =>
      have := ho j rfl
      simp [slot] at h1 h2
      omega
  | some k =>
    have := whoF_lt r n k q
    rw [q] at h1
    cases o with
    | none => simp [slot] at h1 h2; omega
    | some j => simp [slot] at h1 h2; congr 1; omega
/-- counted among the pieces seen: what takenF tells -/
theorem taken_count (r : List (Int × Int)) (ok : ∀ ec ∈ r, okT ec) (o : Option Nat) (ho : ∀ j, o = some j → j < r.length) :
    ∀ m : Nat, (takenF r (m : Int))[slot r o]? = some (((seenF r m).countP fun x => decide (x = o) : Nat) : Int)
  | 0 => by
    rw [show ((0 : Nat) : Int) = 0 from rfl, taken_zero r ok, List.getElem?_replicate]
    rw [if_pos]
    · simp [seenF]
    · cases o with
      | none => simp [slot]
      | some j => have := ho j rfl; simp [slot]; omega
  | m + 1 => by
    have ih := taken_count r ok o ho m
    have := taken_step r (m : Int) (slot r o) _ ok ih
    rw [show ((m + 1 : Nat) : Int) = (m : Int) + 1 by omega, this, seen_succ, List.countP_append]
    by_cases q : whoF r ((m : Int) + 1) = o
    · rw [if_pos (by rw [q])]
      simp [q]
    · rw [if_neg (fun z => q (slot_inj ho ⟨z, rfl⟩))]
      simp [q]
end TK

namespace TK
/-- which piece is the m-th that passes all of the row -/
def passF : List (Int × Int) → Int → Int
  | [], m => m
  | (e, c) :: r, m => passF r m + (c + passF r m - 1) / (e - 1)
theorem pass_one {e c m : Int} (he : 2 ≤ e) (p : Int) (hp : p = m + (c + m - 1) / (e - 1)) : (c + p) / e = p - m ∧ (c + p) % e ≠ 0 := by
  have d1 := Int.mul_ediv_add_emod (c + m - 1) (e - 1)
  have d2 := Int.emod_nonneg (c + m - 1) (show e - 1 ≠ 0 by omega)
  have d3 := Int.emod_lt_of_pos (c + m - 1) (show 0 < e - 1 by omega)
  have hq : (c + m - 1) / (e - 1) = p - m := by omega
  rw [hq] at d1
  have key : c + p = e * (p - m) + ((c + m - 1) % (e - 1) + 1) := by
    rw [Int.sub_mul, Int.one_mul] at d1
    omega
  have q1 : (c + p) / e = p - m := by
    rw [key, Int.add_comm, Int.add_mul_ediv_left _ _ (by omega), Int.ediv_eq_zero_of_lt (by omega) (by omega), Int.zero_add]
  refine ⟨q1, ?_⟩
  rw [key, Int.add_comm, Int.add_mul_emod_self_left, Int.emod_eq_of_lt (by omega) (by omega)]
  omega
theorem pass_back {e c n : Int} (he : 2 ≤ e) (h : (c + n) % e ≠ 0) : n - (c + n) / e + (c + (n - (c + n) / e) - 1) / (e - 1) = n := by
  have d1 := Int.mul_ediv_add_emod (c + n) e
  have d2 := Int.emod_nonneg (c + n) (show e ≠ 0 by omega)
  have d3 := Int.emod_lt_of_pos (c + n) (show 0 < e by omega)
  obtain ⟨q, hq⟩ : ∃ q, q = (c + n) / e := ⟨_, rfl⟩
  rw [← hq] at d1 ⊢
  have key : c + (n - q) - 1 = ((c + n) % e - 1) + (e - 1) * q := by
    rw [Int.sub_mul, Int.one_mul]
    omega
  rw [key, Int.add_mul_ediv_left _ _ (by omega), Int.ediv_eq_zero_of_lt (by omega) (by omega)]
  omega
theorem pass_ge : ∀ (r : List (Int × Int)) (m : Int), (∀ ec ∈ r, okT ec) → 1 ≤ m → m ≤ passF r m
  | [], m, _, _ => Int.le_refl m
  | (e, c) :: r, m, ok, hm => by
    have h := ok (e, c) (by simp)
    unfold okT at h
    simp at h
    have ih := pass_ge r m (fun x hx => ok x (by simp [hx])) hm
    have : 0 ≤ (c + passF r m - 1) / (e - 1) := Int.ediv_nonneg (by omega) (by omega)
    unfold passF
    omega
theorem pass_lt : ∀ (r : List (Int × Int)) (m n : Int), (∀ ec ∈ r, okT ec) → m < n → passF r m < passF r n
  | [], m, n, _, h => h
  | (e, c) :: r, m, n, ok, hm => by
    have h := ok (e, c) (by simp)
    unfold okT at h
    simp at h
    have ih := pass_lt r m n (fun x hx => ok x (by simp [hx])) hm
    have : (c + passF r m - 1) / (e - 1) ≤ (c + passF r n - 1) / (e - 1) := Int.ediv_le_ediv (by omega) (by omega)
    unfold passF
    omega
/-- the piece that comes to what stands behind pre as the x-th -/
theorem who_pass : ∀ (pre rest : List (Int × Int)) (x : Int), (∀ ec ∈ pre, okT ec) →
    whoF (pre ++ rest) (passF pre x) = (whoF rest x).map (· + pre.length) ∧ comeF (pre ++ rest) pre.length (passF pre x) = x
  | [], rest, x, _ => by
    constructor
    · cases h : whoF rest x <;> simp [passF, h]
    · simp [passF, come_zero]
  | (e, c) :: pre, rest, x, ok => by
    have h := ok (e, c) (by simp)
    unfold okT at h
    simp at h
    obtain ⟨ih1, ih2⟩ := who_pass pre rest x (fun y hy => ok y (by simp [hy]))
    obtain ⟨p1, p2⟩ := pass_one (c := c) (m := passF pre x) h.1 _ rfl
    have e1 : passF pre x + (c + passF pre x - 1) / (e - 1) - (c + (passF pre x + (c + passF pre x - 1) / (e - 1))) / e = passF pre x := by
      rw [p1]
      omega
    constructor
    · rw [List.cons_append]
      conv => lhs; unfold passF whoF
      rw [if_neg p2, e1, ih1]
      cases whoF rest x with
      | none => rfl
      | some j =>
        show some (j + pre.length + 1) = some (j + (pre.length + 1))
        rfl
    · rw [List.cons_append]
      unfold passF
      simp only [List.length_cons, comeF]
      rw [e1]
      exact ih2
theorem pass_come : ∀ (r : List (Int × Int)) (k : Nat) (n : Int), (∀ ec ∈ r, okT ec) → k ≤ r.length → reach r n k → passF (r.take k) (comeF r k n) = n
  | r, 0, n, _, _, _ => by simp [passF, come_zero]
  | [], k + 1, n, _, h, _ => by simp at h
  | (e, c) :: r, k + 1, n, ok, hk, hr => by
    have h := ok (e, c) (by simp)
    unfold okT at h
    simp at h
    have q : (c + n) % e ≠ 0 := fun q => by
      have := hr 0 (by simp [whoF, q])
      omega
    have ih := pass_come r k (n - (c + n) / e) (fun x hx => ok x (by simp [hx])) (by simp at hk; omega) (fun j hj => by
      have := hr (j + 1) (by unfold whoF; rw [if_neg q, hj]; rfl)
      omega)
    simp only [List.take_succ_cons, passF, comeF]
    rw [ih]
    exact pass_back h.1 q
/-- which piece is told -/
def pieceF (r : List (Int × Int)) (o : Option Nat) (n : Int) : Int := match o with
  | none => passF r n
  | some k => match r[k]? with
    | some (e, c) => passF (r.take k) (n * e - c)
    | none => 0
theorem split_at {r : List (Int × Int)} {k : Nat} {e c : Int} (h : r[k]? = some (e, c)) : r = r.take k ++ (e, c) :: r.drop (k + 1) := by
  obtain ⟨hk, he⟩ := List.getElem?_eq_some_iff.mp h
  rw [← he, ← List.drop_eq_getElem_cons hk, List.take_append_drop]
theorem take_ok {r : List (Int × Int)} (ok : ∀ ec ∈ r, okT ec) (k : Nat) : ∀ ec ∈ r.take k, okT ec := fun ec h => ok ec (List.mem_of_mem_take h)
/-- all that is asked of a told piece -/
theorem piece_facts (r : List (Int × Int)) (ok : ∀ ec ∈ r, okT ec) (o : Option Nat) (ho : ∀ j, o = some j → j < r.length) (n : Int) (hn : 1 ≤ n) :
    whoF r (pieceF r o n) = o ∧ (takenF r (pieceF r o n))[slot r o]? = some n ∧ 1 ≤ pieceF r o n := by
  cases o with
  | none =>
    obtain ⟨h1, h2⟩ := who_pass r [] n ok
    rw [List.append_nil] at h1 h2
    refine ⟨by simpa [pieceF, whoF] using h1, ?_, ?_⟩
    · show (takenF r (passF r n))[r.length]? = some n
      rw [taken_last, h2]
    · have := pass_ge r n ok hn
      show 1 ≤ passF r n
      omega
  | some k =>
    have hk := ho k rfl
    obtain ⟨⟨e, c⟩, hec⟩ : ∃ ec, r[k]? = some ec := ⟨_, List.getElem?_eq_getElem hk⟩
    have hok : okT (e, c) := ok _ (List.mem_of_getElem? hec)
    unfold okT at hok
    simp at hok
    have sp := split_at hec
    have lt : (r.take k).length = k := by rw [List.length_take]; omega
    have pe : pieceF r (some k) n = passF (r.take k) (n * e - c) := by
      unfold pieceF
      simp only [hec]
    obtain ⟨h1, h2⟩ := who_pass (r.take k) ((e, c) :: r.drop (k + 1)) (n * e - c) (take_ok ok k)
    rw [← sp, lt] at h1 h2
    have hx : c + (n * e - c) = n * e := by omega
    have m0 : (c + (n * e - c)) % e = 0 := by rw [hx]; exact Int.mul_emod_left n e
    have w1 : whoF ((e, c) :: r.drop (k + 1)) (n * e - c) = some 0 := by
      unfold whoF
      rw [if_pos m0]
    rw [w1] at h1
    refine ⟨?_, ?_, ?_⟩
    · rw [pe, h1]
      simp
    · rw [pe]
      show (takenF r _)[k]? = some n
      rw [taken_get r _ k e c hec, h2, hx, Int.mul_ediv_cancel _ (by omega)]
    · rw [pe]
      have : 1 * e ≤ n * e := Int.mul_le_mul_of_nonneg_right hn (by omega)
      have := pass_ge (r.take k) (n * e - c) (take_ok ok k) (by omega)
      omega
theorem piece_lt (r : List (Int × Int)) (ok : ∀ ec ∈ r, okT ec) (o : Option Nat) (ho : ∀ j, o = some j → j < r.length) (n : Int) : pieceF r o n < pieceF r o (n + 1) := by
  cases o with
  | none => exact pass_lt r _ _ ok (by omega)
  | some k =>
    have hk := ho k rfl
    obtain ⟨⟨e, c⟩, hec⟩ : ∃ ec, r[k]? = some ec := ⟨_, List.getElem?_eq_getElem hk⟩
    have hok : okT (e, c) := ok _ (List.mem_of_getElem? hec)
    unfold okT at hok
    simp at hok
    unfold pieceF
    simp only [hec]
    apply pass_lt _ _ _ (take_ok ok k)
    rw [Int.add_mul]
    omega
theorem slot_lt {r : List (Int × Int)} {o : Option Nat} (ho : ∀ j, o = some j → j < r.length) : slot r o < r.length + 1 := by
  cases o with
  | none => simp [slot]
  | some j => have := ho j rfl; simp [slot]; omega
/-- just ahead of a piece that o takes one fewer -/
theorem taken_ahead (r : List (Int × Int)) (ok : ∀ ec ∈ r, okT ec) (o : Option Nat) (ho : ∀ j, o = some j → j < r.length) (p n : Int) (hw : whoF r p = o) (ht : (takenF r p)[slot r o]? = some n) : (takenF r (p - 1))[slot r o]? = some (n - 1) := by
  have hl : slot r o < (takenF r (p - 1)).length := by rw [len_takenF]; exact slot_lt ho
  have h := taken_step r (p - 1) (slot r o) _ ok (List.getElem?_eq_getElem hl)
  rw [show p - 1 + 1 = p by omega, hw, if_pos rfl, ht] at h
  rw [List.getElem?_eq_getElem hl]
  have := Option.some.inj h
  congr 1
  omega
theorem sum_taken : ∀ (r : List (Int × Int)) (n : Int), (takenF r n).sum = n
  | [], n => by simp [takenF]
  | (e, c) :: r, n => by
    unfold takenF
    rw [List.sum_cons, sum_taken r]
    omega
theorem taken_nonneg : ∀ (r : List (Int × Int)) (n : Int), (∀ ec ∈ r, okT ec) → 0 ≤ n → ∀ x ∈ takenF r n, 0 ≤ x
  | [], n, _, hn => by simp [takenF]; exact hn
  | (e, c) :: r, n, ok, hn => by
    have h := ok (e, c) (by simp)
    unfold okT at h
    simp at h
    have d0 : 0 ≤ (c + n) / e := Int.ediv_nonneg (by omega) (by omega)
    have d1 : (c + n) / e ≤ n := by
      have : (c + n) / e < n + 1 := by
        apply Int.ediv_lt_of_lt_mul (by omega)
        have : n * 2 ≤ n * e := Int.mul_le_mul_of_nonneg_left (by omega) hn
        rw [Int.add_mul]
        omega
      omega
    intro x hx
    unfold takenF at hx
    rcases List.mem_cons.mp hx with e | hx
    · rw [e]; exact d0
    · exact taken_nonneg r _ (fun y hy => ok y (by simp [hy])) (by omega) x hx
theorem who_ok (r : List (Int × Int)) (n : Int) : ∀ j, whoF r n = some j → j < r.length := fun j h => whoF_lt r n j h
/-- the told piece of whom takes it is that piece -/
theorem piece_back (r : List (Int × Int)) (ok : ∀ ec ∈ r, okT ec) (n v : Int) (hv : (takenF r n)[slot r (whoF r n)]? = some v) : pieceF r (whoF r n) v = n := by
  cases hw : whoF r n with
  | none =>
    rw [hw] at hv
    have hv : (takenF r n)[r.length]? = some v := hv
    rw [taken_last] at hv
    have := Option.some.inj hv
    subst this
    have := pass_come r r.length n ok (Nat.le_refl _) (fun j hj => by rw [hw] at hj; cases hj)
    rw [List.take_length] at this
    exact this
  | some k =>
    have hk := whoF_lt r n k hw
    obtain ⟨⟨e, c⟩, hec⟩ : ∃ ec, r[k]? = some ec := ⟨_, List.getElem?_eq_getElem hk⟩
    have hok : okT (e, c) := ok _ (List.mem_of_getElem? hec)
    unfold okT at hok
    simp at hok
    have hre : reach r n k := fun j hj => by rw [hw] at hj; have := Option.some.inj hj; omega
    have wa := (who_at r n k e c hec hre).mp hw
    rw [hw] at hv
    have hv : (takenF r n)[k]? = some v := hv
    rw [taken_get r n k e c hec] at hv
    have := Option.some.inj hv
    subst this
    unfold pieceF
    simp only [hec]
    have d1 := Int.mul_ediv_add_emod (c + comeF r k n) e
    rw [wa] at d1
    rw [show (c + comeF r k n) / e * e - c = comeF r k n by rw [Int.mul_comm]; omega]
    exact pass_come r k n ok (by omega) hre
end TK

set_option maxRecDepth 100000
/-! enumerate over a tuple, as a rule of the layer -/
namespace TK
open PySem PySem.Spec PyProof.Rows L2

/-- the iterator that a tuple gives -/
def tupIt (t : Addr) : Obj := { cls := .type "tuple_iterator", data := .fields #[.ref t, .int 0 0] }
/-- a new enumerate over the iterator at a -/
def enumOf (a : Addr) : Obj := { cls := .type "enumerate", data := .fields #[.none, .bool false, .ref a, rawInt 0, .none, .none] }

set_option maxHeartbeats 2000000 in
theorem newEnumT (t : Addr) (vs : Array Value) (m : Nat) (dd : Option Addr) (ss : Array (Option Value)) :
    Meets (Builtin.«enumerate.__new__» ⟨[.type "enumerate", .ref t], []⟩) (fun _ R s =>
      s.heap.get? t = some { cls := .type "tuple", dict := dd, data := .seq vs m, slots := ss } ∧
      R (.ok (.ret (.ref (s.heap.push (tupIt t)).objs.size))) { s with heap := (s.heap.push (tupIt t)).push (enumOf s.heap.objs.size) }) :=
  .of_wp fun prog w A R s hyp => by
    obtain ⟨hp, g, d, tk, os⟩ := s
    obtain ⟨ht, hR⟩ := hyp
    have isSub := sub_enumerate
    have isT : Heap.IsTuple (Shared.heap ⟨hp, g, d, tk, os⟩) t vs := ⟨_, ht, rfl, m, rfl⟩
    wp_walk using AutoSeq1.wpAny_loadPart' ht
    refine wpAny_stack_any fun st => wpAny_pure ?_
    split
    · rename_i c _ _ _ _ _
      cases (c == Value.type "enumerate") <;> (wp_walk using AutoSeq1.wpAny_loadPart' ht, wpAny_pyIter_tuple isT; exact ⟨_, rfl, hR⟩)
    · wp_walk using AutoSeq1.wpAny_loadPart' ht, wpAny_pyIter_tuple isT
      exact ⟨_, rfl, hR⟩

section
variable {prog : Program} {w : World} {A : Around} {E : Value → Shared → Prop} {s : Shared}
theorem callEnumT {t : Addr} {vs : Array Value} {Q : Value → Shared → Prop} (ht : s.heap.IsTuple t vs)
    (k : ∀ h', IsEnum h' (s.heap.objs.size + 1) s.heap.objs.size 0 .none → h'.IsTupleIter s.heap.objs.size t 0 →
      (∀ b o, s.heap.get? b = some o → h'.get? b = some o) → Q (.ref (s.heap.objs.size + 1)) { s with heap := h' }) :
    wpAny (model prog w) A (call (.type "enumerate") [.ref t]) Q E s := by
  obtain ⟨⟨cl, dd, dt, ss⟩, e0, e1, m, e2⟩ := ht
  replace e1 : cl = .type "tuple" := e1
  replace e2 : dt = .seq vs m := e2
  subst e1 e2
  refine callType_new F.called_enumerate (by decide) (F.typeCall_enumerate_1 _) (F.newCall_enumerate_1 _)
    (fun obj => F.args_object_init_2 obj _) F.entry_enumerate_new (newEnumT t vs m dd ss) ⟨e0, ?_⟩
  have sz : (s.heap.push (tupIt t)).objs.size = s.heap.objs.size + 1 := Heap.size_push ..
  show _ ∧ _
  rw [sz]
  have he : IsEnum ((s.heap.push (tupIt t)).push (enumOf s.heap.objs.size)) (s.heap.objs.size + 1) s.heap.objs.size 0 .none := by
    have q := Heap.get?_push_size (s.heap.push (tupIt t)) (o := enumOf s.heap.objs.size) rfl
    rw [sz] at q
    exact q
  exact ⟨⟨_, he, rfl⟩, k _ he ⟨_, Heap.get?_push_of_some _ (Heap.get?_push_size _ rfl), rfl, rfl⟩ fun b o x => Heap.get?_push_of_some _ (Heap.get?_push_of_some _ x)⟩

theorem nextEnumT_end {e it t : Addr} {i : Nat} {vs : Array Value} {old : Value} {Q : Option Value → Shared → Prop} (hh : A.handled = none)
    (he : IsEnum s.heap e it i old) (hi : s.heap.IsTupleIter it t i) (ht : s.heap.IsTuple t vs) (hx : vs[i]? = none)
    (k : ∀ h', Heap.ExtBut it s.heap h' → Q none { s with heap := h' }) : wpAny (model prog w) A (pyNext (.ref e)) Q E s := by
  have ty : s.TypeIs (.ref e) "enumerate" := ⟨_, he, rfl⟩
  unfold pyNext
  refine wpAny_bind (wpAny_attempt (wpAny_callSpecial?_slot (name := Str.ofString "__next__") ty F.slot_enumerate_next
    (wpAny_call_entry F.slot_enumerate_next ty F.entry_enumerate_next ?_ (F.args_enumerate_next_1 _))))
  show wpAny _ _ (field (.ref e) 2 >>= _) _ _ s
  refine wpAny_bind (wpAny_field he rfl (x := .ref it) rfl ?_)
  refine wpAny_bind (wpAny_nextOf_tuple_end hh hi ht hx fun h1 x eb xo => ?_)
  obtain ⟨o, ho, hc⟩ := xo
  exact wpAny_bind (wpAny_isInstance (T := "StopIteration") (b := true) ⟨o, ho, hc⟩ isSubtype_stop (wpAny_pure (k _ eb)))
end

/-- the tuple at a, each item in a new pair -/
def ItEt (K : PySem.W.Frag) (a : Addr) : It where
  go := fun i H => ∃ (xs : List V) (x : V), SqT K H a xs ∧ xs[i]? = some x
  yld := fun i H v H' => ∃ T x, v = .ref T ∧ H T = none ∧ H' = upd H T (.tup [.int (i : Nat), x]) ∧ ∀ xs, SqT K H a xs → xs[i]? = some x
  stop := fun i H => ∃ xs : List V, SqT K H a xs ∧ xs.length ≤ i

theorem turn_enumT {P : Program} {w : World} {K : PySem.W.Frag} {elts : List Expr} {kk : Nat} {tpos : Pos} (a e it : Addr) :
    Turn P w K (.Tuple elts kk tpos) (ItEt K a) [e, it] e (fun i h => (∃ old, IsEnum h e it ((i : Nat) : Int) old) ∧ h.IsTupleIter it a i ∧ e ≠ it ∧ a ≠ it ∧ a ≠ e) where
  mem := by simp
  obj := fun i h st b hb => by
    obtain ⟨⟨old, he⟩, ⟨o, ho, hc, hd⟩, _⟩ := st
    rcases (show b = e ∨ b = it by simpa using hb) with z | z
    · subst z
      exact ⟨_, he, fun v q => nomatch q⟩
    · subst z
      exact ⟨o, ho, fun v q => by rw [hd] at q; cases q⟩
  keep := fun i h h' st k => by
    obtain ⟨⟨old, he⟩, ⟨o, ho, r⟩, hne⟩ := st
    exact ⟨⟨old, k e (by simp) _ he⟩, ⟨o, k it (by simp) o ho, r⟩, hne⟩
  item := by
    intro X hP hw hK hc i pins s σ H E I hf st hg
    subst hP hw hK
    obtain ⟨⟨old, he⟩, hit, n1, n2, n3⟩ := st
    obtain ⟨xs, x, hq, hx⟩ := hg
    obtain ⟨its, rv, p, hz⟩ := I.tuple hq
    obtain ⟨u, hu, ru⟩ := rv.get hx
    have le : e < s.heap.objs.size := Heap.lt_size he
    have li : it < s.heap.objs.size := by
      obtain ⟨_, q, _⟩ := hit
      exact Heap.lt_size q
    have hil : i < its.toArray.size := by
      rw [List.size_toArray]
      exact (List.getElem?_eq_some_iff.mp hu).1
    refine wpAny_pyNext_enum_itemD (Draws.tuple (A := X.A.in1) (show X.A.in1.handled = none from I.ok.hd hc) it a n2 its.toArray) he ⟨hit, p⟩ hil n1 (fun z => ?_) fun y h' tk hy ho hs' hT hsz hk => ?_
    · rcases (show e = it ∨ e = a by simpa using z) with z | z
      · exact n1 z
      · exact n3 z.symm
    have ey : y = u := by
      have q1 : its[i]? = some y := by simpa using hy
      exact Option.some.inj (q1.symm.trans hu)
    subst ey
    refine ⟨_, rfl, wpAny_letOwnedTupleGo_enum (s := { s with heap := h', toks := tk + 1 }) ho fun h2 he' sb => ?_⟩
    have hT2 : h2.get? s.heap.objs.size = some { cls := .type "tuple", data := .seq #[.int i tk, y] } := (sb.2 _ (Nat.ne_of_gt le)).trans hT
    have new : ObjOk X.prog X.w (upd H s.heap.objs.size (.tup [.int (i : Nat), x])) h2 s.heap.objs.size (.tup [.int (i : Nat), x]) :=
      ⟨by show 2 ≤ sizeLine; decide, [.int i tk, y], .cons ⟨_, rfl⟩ (.cons ru .nil), ⟨_, hT2, rfl, _, rfl⟩⟩
    have I1 : Inv X pins σ (upd H s.heap.objs.size (.tup [.int (i : Nat), x])) { s with heap := h2, toks := tk + 1 } :=
      I.turnedNew (ch := [e, it]) (fun b ob hb q => (sb.2 b fun z => hb (by simp [z])).trans (hk b ob (fun z => hb (by simp [z])) (fun z => hb (by simp [z])) q)) hf (Nat.le_refl _) new
    refine ⟨.ref s.heap.objs.size, _, I1, rfl, ⟨_, x, rfl, I.hok.fresh (Nat.le_refl _), rfl, fun ys hy => by rw [I.tuple_inj hy hq]; exact hx⟩, ⟨⟨y, ?_⟩, ?_, n1, n2, n3⟩, fun b hb => ?_⟩
    · rw [show ((i + 1 : Nat) : Int) = (i : Int) + 1 by omega]
      exact he'
    · obtain ⟨o, ho, r⟩ := hs'.1
      exact ⟨o, (sb.2 it (Ne.symm n1)).trans ho, r⟩
    · have lb : b < s.heap.objs.size := by
        rcases (show b = e ∨ b = it by simpa using hb) with z | z
        · rw [z]; exact le
        · rw [z]; exact li
      rw [upd_ne (Nat.ne_of_lt lb)]
      exact (hf b hb).1
  done := by
    intro X hP hw hK hc i pins s σ H E I hf st hg
    subst hP hw hK
    obtain ⟨⟨old, he⟩, hit, n1, n2, n3⟩ := st
    obtain ⟨xs, hq, hx⟩ := hg
    obtain ⟨its, rv, p, hz⟩ := I.tuple hq
    obtain ⟨f0, f1, f2, f3, f4, f5⟩ := hf it (by simp)
    have hl := rv.length
    exact nextEnumT_end (I.ok.hd hc) he hit p (by simp; omega) fun h' eb => ⟨rfl, I.turned (t' := s.toks) (fun b o hb q => eb b o hb q) f0 f1 f3 f4 f5⟩
  self := fun A i s Q E st h => by
    obtain ⟨⟨_, he⟩, _⟩ := st
    exact wpAny_pyIter_enum he h

def iEnumT (K : PySem.W.Frag) (ta : TA) : TI := fun σ H R => ta σ H fun vs H1 => ∃ a xs, vs = [.ref a] ∧ SqT K H1 a xs ∧ R (ItEt K a) H1
theorem pi_enumT {X : Cx} {e : Expr} {ta : TA} {p pos tpos : Pos} {elts : List Expr} {kk : Nat} (hg : Gl X "enumerate") (hm : X.mg "enumerate" = none) (ha : PA X [e] ta)
    (hs : starEach [e] X.env = [(false, eval e X.env)] := by rfl) : PI X (.Tuple elts kk tpos) (.Call (.Name "enumerate" p) [e] [] pos) (iEnumT X.K ta) := by
  refine ⟨fun pins s σ H R I h => ?_⟩
  refine Call_ (ld_blt I hg hm boot_enumerate (PyProof.Rows.callWith_type1 (thn (ha.run pos pins s σ H _ I h) fun us s1 ⟨vs, H1, I1, r1, q1⟩ => ?_) hs rfl))
  obtain ⟨a, xs, ex, hq, q⟩ := q1
  subst ex
  cases r1 with
  | cons r rr =>
    cases rr
    cases r
    obtain ⟨its, rv, pt, hz⟩ := I1.tuple hq
    have la : a < s1.heap.objs.size := pt.lt
    refine callEnumT pt fun h' he hit hk => wpAny_pyIter_enum he ?_
    have I2 : Inv X pins σ H1 { s1 with heap := h' } := I1.kept (t' := s1.toks) hk
    refine ⟨s1.heap.objs.size + 1, [s1.heap.objs.size + 1, s1.heap.objs.size], _, _, H1, rfl, I2, turn_enumT a (s1.heap.objs.size + 1) s1.heap.objs.size,
      ⟨⟨.none, he⟩, hit, Nat.succ_ne_self _, Nat.ne_of_lt la, Nat.ne_of_lt (Nat.lt_succ_of_lt la)⟩, fun b hb => ?_, q⟩
    have hle : s1.heap.objs.size ≤ b := by
      rcases (show b = s1.heap.objs.size + 1 ∨ b = s1.heap.objs.size by simpa using hb) with z | z
      · rw [z]; exact Nat.le_add_right _ _
      · rw [z]; exact Nat.le_refl _
    exact I1.fpOk hle (I1.hok.fresh hle)
end TK

set_option maxRecDepth 100000
/-! xs.count(y), flat things -/
namespace TK
open PySem PySem.Spec PyProof.Rows L2
theorem count_eqU {x : V} : ∀ {xs : List V} {us : List Value}, Vals xs us → xs.all flatV = true → us.countP (eqU x) = xs.countP fun y => eqV y x
  | _, _, .nil, _ => rfl
  | y :: xs, u :: us, .cons r t, f => by
    rw [List.all_cons, Bool.and_eq_true] at f
    rw [List.countP_cons, List.countP_cons, count_eqU t f.2, eqU_of r f.1]
section
variable {X : Cx}
def rCntF (K : PySem.W.Frag) : V → List V → Hp → VK → Prop := fun x xs H Q => ∃ (p : Addr) (ys : List V) (y : V), x = .ref p ∧ xs = [y] ∧ SqL K H p ys ∧ flatV y = true ∧ ys.all flatV = true ∧ Q (.int ((ys.countP fun z => eqV z y : Nat) : Int)) H
theorem mt_countF : MtR X "list.count" (rCntF X.K) := by
  intro pins s σ H x xs v us Q I rx rxs h
  obtain ⟨p, ys, y, rfl, rfl, hs, fy, fs, q⟩ := h
  cases rx
  obtain ⟨u, rfl, ru⟩ := rxs.one
  obtain ⟨its, rv, ⟨⟨cls, dd, data, sl⟩, n, ho, hc, hdn, hd⟩, hlen⟩ := I.list hs
  simp only at hc hd
  subst hc hd
  refine call_meets PySem.F.slot_list_count ⟨_, ho, rfl⟩ PySem.F.entry_list_count (PySem.F.args_list_count_2 _ _)
    (SeqAt.list_countAt p its.toArray n dd sl u (eqU y)) ⟨ho, fun z hz => mem_eqAt ru fy rv fs z (by simpa using hz), ?_⟩
  refine ⟨.int ((ys.countP fun z => eqV z y : Nat) : Int), H, I.tok _, ⟨s.toks, ?_⟩, q⟩
  have e : its.toArray.toList.countP (eqU y) = ys.countP fun z => eqV z y := count_eqU rv fs
  rw [← e]
end
end TK

set_option maxRecDepth 100000
/-! heaps: rows, bags -/
namespace TK
open PySem PySem.Spec PyProof.Rows L2

theorem same_new {H : Hp} {p : Addr} {o : HO} (h : H p = none) : Same H (upd H p o) := fun b x e => by
  rw [upd_ne (ne_of_none e h)]
  exact e
/-- a new object's own changes leave what stood -/
theorem same_upd_new {H H' : Hp} {p : Addr} {o : HO} (h : H p = none) (s : Same H H') : Same H (upd H' p o) := fun b x e => by
  rw [upd_ne (ne_of_none e h)]
  exact s b x e
def ofO : Option Nat → V
  | none => .non
  | some k => .int (k : Nat)
theorem ofO_inj : ∀ {a b : Option Nat}, ofO a = ofO b → a = b
  | none, none, _ => rfl
  | none, some _, h => nomatch h
  | some _, none, h => nomatch h
  | some a, some b, h => by
    have := V.int.inj h
    congr 1
    omega
theorem scal_ofO : ∀ (a b : Option Nat), scal (ofO a) (ofO b) = true
  | none, none => rfl
  | none, some _ => rfl
  | some _, none => rfl
  | some _, some _ => rfl
theorem flat_ofO : ∀ (a : Option Nat), flatV (ofO a) = true
  | none => rfl
  | some _ => rfl
theorem eqV_ofO (a b : Option Nat) : eqV (ofO a) (ofO b) = decide (a = b) := by
  cases a with
  | none => cases b <;> rfl
  | some x =>
    cases b with
    | none => rfl
    | some y =>
      show ((x : Int) == (y : Int)) = decide (some x = some y)
      rw [Bool.eq_iff_iff, beq_iff_eq, decide_eq_true_iff]
      constructor
      · intro h; congr 1; omega
      · intro h; have := Option.some.inj h; omega

/-- a row: a tuple of pairs -/
def RowAt (H : Hp) (p : Addr) (r : List (Int × Int)) : Prop :=
  ∃ ts : List Addr, H p = some (.tup (ts.map V.ref)) ∧ ts.length = r.length ∧ ∀ (i : Nat) (t : Addr) (ec : Int × Int), ts[i]? = some t → r[i]? = some ec → H t = some (.tup [.int ec.1, .int ec.2])
/-- every tuple stands as it stood -/
def TupS (H H' : Hp) : Prop := ∀ a xs, H a = some (.tup xs) → H' a = some (.tup xs)
theorem tupS_of {H H' : Hp} (s : Same H H') : TupS H H' := fun a xs h => s a _ h
theorem TupS.trans {H H1 H2 : Hp} (a : TupS H H1) (b : TupS H1 H2) : TupS H H2 := fun c o h => b c o (a c o h)
theorem RowAt.keep {H H' : Hp} {p : Addr} {r : List (Int × Int)} (h : RowAt H p r) (k : TupS H H') : RowAt H' p r := by
  obtain ⟨ts, h1, h2, h3⟩ := h
  exact ⟨ts, k _ _ h1, h2, fun i t ec a b => k _ _ (h3 i t ec a b)⟩

/-- a bag of draws -/
def Bag (H : Hp) (b : Addr) : Prop :=
  ∃ (d : Addr) (ds : List Int) (c : Int), H b = some (.lst [.ref d, .int c]) ∧ H d = some (.lst (ds.map V.int)) ∧ ds.length = 400 ∧ (∀ x ∈ ds, 0 ≤ x ∧ x < 1000) ∧ 0 ≤ c
/-- all but the object at b stands as it stood -/
def Kb (b : Addr) (H H' : Hp) : Prop := ∀ a o, a ≠ b → H a = some o → H' a = some o
theorem Kb.refl (b : Addr) (H : Hp) : Kb b H H := fun _ _ _ h => h
theorem Kb.trans {b : Addr} {H H1 H2 : Hp} (x : Kb b H H1) (y : Kb b H1 H2) : Kb b H H2 := fun a o n h => y a o n (x a o n h)
theorem Kb.of {b : Addr} {H H' : Hp} (s : Same H H') : Kb b H H' := fun a o _ h => s a o h
theorem Kb.tup {b : Addr} {H H' : Hp} (k : Kb b H H') (hb : Bag H b) : TupS H H' := fun a xs h => by
  obtain ⟨d, ds, c, h1, _⟩ := hb
  exact k a _ (ne_of h h1 (by intro z; cases z)) h
theorem Bag.same {b : Addr} {H H' : Hp} (hb : Bag H b) (s : Same H H') : Bag H' b := by
  obtain ⟨d, ds, c, h1, h2, h3⟩ := hb
  exact ⟨d, ds, c, s _ _ h1, s _ _ h2, h3⟩
theorem Bag.keep {b b' : Addr} {H H' : Hp} (hb : Bag H b) (k : Kb b H H') (hn : Bag H' b) (hb' : Bag H b') : Bag H' b' := by
  by_cases e : b' = b
  · rw [e]; exact hn
  · obtain ⟨d, ds, c, h1, h2, h3, h4, h5⟩ := hb'
    obtain ⟨d0, ds0, c0, g1, _⟩ := hb
    have nd : d ≠ b := ne_of h2 g1 (by
      intro z
      have z1 : ds.map V.int = [.ref d0, .int c0] := HO.lst.inj z
      have z2 := congrArg List.length z1
      rw [List.length_map, h3] at z2
      simp at z2)
    exact ⟨d, ds, c, k _ _ e h1, k _ _ nd h2, h3, h4, h5⟩
theorem Kb.free {b l : Addr} {H H' : Hp} (k : Kb b H H') (hn : Bag H' b) (h : H' l = none) : H l = none := by
  cases q : H l with
  | none => rfl
  | some o =>
    by_cases e : l = b
    · obtain ⟨d, ds, c, h1, _⟩ := hn
      rw [e, h1] at h
      cases h
    · rw [k l o e q] at h
      cases h
/-- a list whose first is no reference is no bag -/
theorem ne_bag {H : Hp} {a b : Addr} {xs : List V} (h : H a = some (.lst xs)) (hb : Bag H b) (hx : ∀ d, xs[0]? ≠ some (.ref d)) : a ≠ b := by
  obtain ⟨d, ds, c, h1, _⟩ := hb
  refine ne_of h h1 fun z => ?_
  have z1 : xs = [.ref d, .int c] := HO.lst.inj z
  exact hx d (by rw [z1]; rfl)
theorem ne_bag2 {H : Hp} {a b : Addr} {xs : List V} (h : H a = some (.lst xs)) (hb : Bag H b) (hx : ∀ d, xs[1]? ≠ some (.int d)) : a ≠ b := by
  obtain ⟨d, ds, c, h1, _⟩ := hb
  refine ne_of h h1 fun z => ?_
  have z1 : xs = [.ref d, .int c] := HO.lst.inj z
  exact hx c (by rw [z1]; rfl)
theorem sq_of {K : PySem.W.Frag} {H : Hp} {a : Addr} {xs : List V} (h : H a = some (.lst xs)) : SqL K H a xs := .inl (.inl h)
theorem st_of {K : PySem.W.Frag} {H : Hp} {a : Addr} {xs : List V} (h : H a = some (.tup xs)) : SqT K H a xs := .inl (.inl h)
/-- the script stands, whatever a bag does -/
theorem Kb.seq {K : PySem.W.Frag} {b a : Addr} {H H' : Hp} {ns : List Int} (k : Kb b H H') (hb : Bag H b) (h : SqL K H a (ns.map V.int)) : SqL K H' a (ns.map V.int) := by
  rcases h with (h | ⟨o, h⟩) | h
  · exact .inl (.inl (k _ _ (ne_bag h hb (by intro d; rw [List.getElem?_map]; cases ns[0]? <;> simp)) h))
  · obtain ⟨d, ds, c, h1, _⟩ := hb
    exact .inl (.inr ⟨o, k _ _ (ne_of h h1 (by intro z; cases z)) h⟩)
  · exact .inr h
theorem Bag.upd_refs {b D : Addr} {H : Hp} {bs : List Addr} {o : HO} (hb : Bag H b) (h : H D = some (.lst (bs.map V.ref))) : Bag (upd H D o) b := by
  obtain ⟨d, ds, c, h1, h2, h3, h4⟩ := hb
  have n1 : b ≠ D := ne_of h1 h (by
    intro z
    have z1 : [V.ref d, V.int c] = bs.map V.ref := HO.lst.inj z
    have z2 : (bs.map V.ref)[1]? = some (.int c) := by rw [← z1]; rfl
    rw [List.getElem?_map] at z2
    cases q : bs[1]? <;> rw [q] at z2 <;> cases z2)
  have n2 : d ≠ D := ne_of h2 h (by
    intro z
    have z1 : ds.map V.int = bs.map V.ref := HO.lst.inj z
    have z2 : (ds.map V.int)[0]? = (bs.map V.ref)[0]? := by rw [z1]
    rw [List.getElem?_map, List.getElem?_map, List.getElem?_eq_getElem (by omega)] at z2
    cases q : bs[0]? <;> rw [q] at z2 <;> cases z2)
  exact ⟨d, ds, c, by rw [upd_ne n1]; exact h1, by rw [upd_ne n2]; exact h2, h3, h4⟩
theorem yesT {σ : L2.St} {H : Hp} {A B : Hp → Prop} (h : A H) : tYes σ H (fun b H3 => if b = true then A H3 else B H3) := by
  show if true = true then A H else B H
  rw [if_pos rfl]
  exact h
/-- the walk of enumerate over a tuple -/
theorem walk_enumT {K : PySem.W.Frag} {a : Addr} {xs : List V} : Walk (ItEt K a) xs.length (fun H => SqT K H a xs) (YPair (fun i => some (.int (i : Nat))) (fun i => xs[i]?)) := by
  refine ⟨fun i H hi h => ⟨xs, xs[i], h, List.getElem?_eq_getElem hi⟩, fun H h => ⟨xs, h, Nat.le_refl _⟩, fun i H v H' hi h y => ?_⟩
  obtain ⟨T, x, e1, e2, e3, e4⟩ := y
  exact ⟨T, _, x, e1, e2, e3, rfl, e4 xs h⟩
end TK

set_option maxRecDepth 100000
/-! lists compared, cut, set -/
namespace TK
open PySem PySem.Spec PyProof.Rows L2
theorem lay_ints : ∀ ns : List Int, PyData.canLayAll0 (ns.map PyData.int) = true
  | [] => rfl
  | n :: r => by
    show (PyData.canLay0 (.int n) && PyData.canLayAll0 (r.map PyData.int)) = true
    rw [lay_ints r]
    rfl
theorem deep_ints : ∀ ns : List Int, PyData.depthAll (ns.map PyData.int) = 0
  | [] => rfl
  | n :: r => by
    show max (PyData.depth (.int n)) (PyData.depthAll (r.map PyData.int)) = 0
    rw [deep_ints r]
    rfl
theorem shp_ints (ns : List Int) : SeqAt.shaped (.list (ns.map PyData.int)) = true := by
  unfold SeqAt.shaped
  rw [show PyData.canLay0 (.list (ns.map PyData.int)) = PyData.canLayAll0 (ns.map PyData.int) from rfl, lay_ints,
    show PyData.depth (.list (ns.map PyData.int)) = PyData.depthAll (ns.map PyData.int) + 1 from rfl, deep_ints]
  decide
theorem all_ints {K : PySem.W.Frag} {H : Hp} : ∀ ns : List Int, DpAll K H (ns.map V.int) (ns.map PyData.int)
  | [] => .nil
  | n :: r => .cons (.int n) (all_ints r)
theorem dp_ints {K : PySem.W.Frag} {H : Hp} {a : Addr} {ns : List Int} (h : SqL K H a (ns.map V.int)) : Dp K H (.ref a) (.list (ns.map PyData.int)) := .lst h (all_ints ns)
theorem eqv_ints : ∀ (ns ms : List Int), PyData.eqvAll (ns.map PyData.int) (ms.map PyData.int) = decide (ns = ms)
  | [], [] => rfl
  | [], _ :: _ => rfl
  | _ :: _, [] => rfl
  | n :: r, m :: q => by
    show ((n == m) && PyData.eqvAll (r.map PyData.int) (q.map PyData.int)) = _
    rw [eqv_ints r q, Bool.eq_iff_iff]
    simp
theorem eqv_list (ns ms : List Int) : PyData.eqv (.list (ns.map PyData.int)) (.list (ms.map PyData.int)) = decide (ns = ms) := by
  rw [PyData.eqv]
  exact eqv_ints ns ms
/-- two equal lists of ints, != -/
theorem ne_ints {K : PySem.W.Frag} {H : Hp} {a b : Addr} {ns : List Int} {Q : VK} (ha : SqL K H a (ns.map V.int)) (hb : SqL K H b (ns.map V.int)) (q : Q (.bl false) H) : rNeD K (.ref a) (.ref b) H Q := by
  refine ⟨_, _, dp_ints ha, dp_ints hb, shp_ints ns, shp_ints ns, ?_⟩
  rw [eqv_list, decide_eq_true rfl]
  exact q
theorem eq_ints {K : PySem.W.Frag} {H : Hp} {a b : Addr} {ns : List Int} {Q : VK} (ha : SqL K H a (ns.map V.int)) (hb : SqL K H b (ns.map V.int)) (q : Q (.bl true) H) : rEqD K (.ref a) (.ref b) H Q := by
  refine ⟨_, _, dp_ints ha, dp_ints hb, shp_ints ns, shp_ints ns, ?_⟩
  rw [eqv_list, decide_eq_true rfl]
  exact q
theorem cut_to {xs : List V} {m : Int} {k : Nat} (h : m = (k : Int)) (hk : k ≤ xs.length) : cutV xs none (some m) = xs.take k := by
  subst h
  unfold cutV
  rw [HT.sIx_none, HT.sIx_nat, List.drop_zero, Nat.sub_zero, Nat.min_eq_left hk]
theorem cut_init (xs : List V) : cutV xs none (some (-1)) = xs.dropLast := by
  unfold cutV
  rw [HT.sIx_none, List.drop_zero, Nat.sub_zero, List.dropLast_eq_take]
  congr 1
  show (if (-1 : Int) < 0 then ((-1 : Int) + (xs.length : Int)).toNat else min (-1 : Int).toNat xs.length) = xs.length - 1
  rw [if_pos (by decide)]
  omega
theorem mix_get {α : Type} {A B : List α} {i : Nat} (hA : i ≤ A.length) : (A.take i ++ B.drop i)[i]? = B[i]? := by
  have h : (A.take i).length = i := by rw [List.length_take]; omega
  rw [List.getElem?_append_right (by omega), h, Nat.sub_self, List.getElem?_drop, Nat.add_zero]
theorem mix_set {α : Type} {A B : List α} {i : Nat} {x : α} (hx : A[i]? = some x) (hl : A.length = B.length) : (A.take i ++ B.drop i).set i x = A.take (i + 1) ++ B.drop (i + 1) := by
  have hi : i < A.length := (List.getElem?_eq_some_iff.mp hx).1
  have h : (A.take i).length = i := by rw [List.length_take]; omega
  rw [List.set_append_right i x (by omega), h, Nat.sub_self, List.take_add_one, hx, List.append_assoc]
  congr 1
  rw [List.drop_eq_getElem_cons (show i < B.length by omega)]
  rfl
theorem mix_same {α : Type} {A B : List α} {i : Nat} (hx : A[i]? = B[i]?) (hi : i < A.length) (hl : A.length = B.length) : A.take i ++ B.drop i = A.take (i + 1) ++ B.drop (i + 1) := by
  rw [List.take_add_one, List.append_assoc, hx, List.getElem?_eq_getElem (show i < B.length by omega), List.drop_eq_getElem_cons (show i < B.length by omega)]
  rfl
theorem map_set (L : List Int) (i : Nat) (x : Int) : (L.map V.int).set i (.int x) = (L.set i x).map V.int := by
  rw [List.map_set]
theorem ixN_nat {n i : Nat} {z : Int} (h : z = (i : Int)) (hi : i < n) : ixN n z = some i := by
  subst h
  unfold ixN
  rw [if_pos (by omega), if_pos (by omega), Int.toNat_natCast]
theorem Bag.upd_ints {b D : Addr} {H : Hp} {ms : List Int} {o : HO} (hb : Bag H b) (h : H D = some (.lst (ms.map V.int))) (hl : ms.length < 400) : Bag (upd H D o) b := by
  obtain ⟨d, ds, c, h1, h2, h3, h4⟩ := hb
  have n1 : b ≠ D := ne_of h1 h (by
    intro z
    have z1 : [V.ref d, V.int c] = ms.map V.int := HO.lst.inj z
    have z2 : (ms.map V.int)[0]? = some (.ref d) := by rw [← z1]; rfl
    rw [List.getElem?_map] at z2
    cases q : ms[0]? <;> rw [q] at z2 <;> cases z2)
  have n2 : d ≠ D := ne_of h2 h (by
    intro z
    have z1 : ds.map V.int = ms.map V.int := HO.lst.inj z
    have z2 := congrArg List.length z1
    rw [List.length_map, List.length_map] at z2
    omega)
  exact ⟨d, ds, c, by rw [upd_ne n1]; exact h1, by rw [upd_ne n2]; exact h2, h3, h4⟩
theorem tIf_at {σ : L2.St} {H : Hp} {Q : VK} {tc : TT} {ta tb : TE} {v : V} (h : Q v H)
    (hc : ∃ b : Bool, (∀ R : Bool → Hp → Prop, R b H → tc σ H R) ∧ (b = true → ∀ R : VK, R v H → ta σ H R) ∧ (b = false → ∀ R : VK, R v H → tb σ H R)) : tIf tc ta tb σ H Q := by
  obtain ⟨b, h1, h2, h3⟩ := hc
  refine h1 _ ?_
  cases b with
  | true =>
    show if true = true then ta σ H Q else tb σ H Q
    rw [if_pos rfl]
    exact h2 rfl Q h
  | false =>
    show if false = true then ta σ H Q else tb σ H Q
    rw [if_neg Bool.false_ne_true]
    exact h3 rfl Q h
theorem lst_get {ns : List Int} {i : Nat} {v : Int} (h : ns[i]? = some v) : atI (ns.map V.int) (i : Int) = some (.int v) := at_of rfl (by rw [List.getElem?_map, h]; rfl)
theorem row0 {H : Hp} {t : Addr} (h : H t = some (.tup [])) : RowAt H t [] := ⟨[], h, rfl, fun i t ec h => nomatch h⟩
theorem row1 {H : Hp} {t t1 : Addr} {e c : Int} (h : H t = some (.tup [.ref t1])) (h1 : H t1 = some (.tup [.int e, .int c])) : RowAt H t [(e, c)] :=
  ⟨[t1], h, rfl, fun i t ec a b => by
    cases i with
    | zero => cases a; cases b; exact h1
    | succ i => simp at a⟩
theorem row2 {H : Hp} {t t1 t2 : Addr} {e c e' c' : Int} (h : H t = some (.tup [.ref t1, .ref t2])) (h1 : H t1 = some (.tup [.int e, .int c])) (h2 : H t2 = some (.tup [.int e', .int c'])) : RowAt H t [(e, c), (e', c')] :=
  ⟨[t1, t2], h, rfl, fun i t ec a b => by
    cases i with
    | zero => cases a; cases b; exact h1
    | succ i =>
      cases i with
      | zero => cases a; cases b; exact h2
      | succ i => simp at a⟩
/-- how far a piece has come -/
def TkSt (r : List (Int × Int)) (n : Int) (i : Nat) (o : Option Nat) : Prop := (o = none ∧ reach r n i) ∨ ∃ j, o = some j ∧ j < i ∧ whoF r n = some j
theorem TkSt.done {r : List (Int × Int)} {n : Int} {o : Option Nat} (h : TkSt r n r.length o) : o = whoF r n := by
  rcases h with ⟨rfl, h⟩ | ⟨j, rfl, _, h⟩
  · cases k : whoF r n with
    | none => rfl
    | some j =>
      have := whoF_lt r n j k
      have := h j k
      omega
  · exact h.symm
/-- the row's numbers, counted among what is seen -/
def numF (r : List (Int × Int)) (os : List (Option Nat)) : List Int :=
  (List.range r.length).map (fun (j : Nat) => ((os.countP fun x => decide (x = some j) : Nat) : Int)) ++ [((os.countP fun x => decide (x = none) : Nat) : Int)]
theorem num_taken (r : List (Int × Int)) (ok : ∀ ec ∈ r, okT ec) (m : Nat) : numF r (seenF r m) = takenF r (m : Int) := by
  apply List.ext_getElem?
  intro i
  unfold numF
  rcases Nat.lt_trichotomy i r.length with h | h | h
  · rw [List.getElem?_append_left (by simpa using h), List.getElem?_map, List.getElem?_range h]
    have := taken_count r ok (some i) (fun j hj => by cases hj; exact h) m
    exact this.symm
  · rw [List.getElem?_append_right (by simp; omega)]
    have := taken_count r ok none (fun j hj => nomatch hj) m
    simp only [List.length_map, List.length_range, h, Nat.sub_self, List.getElem?_cons_zero]
    exact this.symm
  · rw [List.getElem?_eq_none (by simp; omega), List.getElem?_eq_none (by rw [len_takenF]; omega)]
end TK

namespace TK
/-- lowest terms -/
def low (t b : Nat) : Nat × Nat := (t / Nat.gcd t b, b / Nat.gcd t b)
def partsN : List Nat → Nat → Nat → List (Nat × Nat)
  | [], t, b => [low t b]
  | e :: r, t, b => low t (b * e) :: partsN r (t * (e - 1)) (b * e)
def evs (r : List (Int × Int)) : List Nat := r.map fun ec => ec.1.toNat
def goodN : List Nat → Nat → Nat → Nat → Prop
  | [], _, _, _ => True
  | e :: es, t, b, n => (low t (b * e)).2 ∣ n ∧ goodN es (t * (e - 1)) (b * e) n
def lcmF (l q : Nat) : Nat := l / Nat.gcd l q * q
def roundN (ps : List (Nat × Nat)) (l : Nat) : Nat := ps.foldl (fun l q => lcmF l q.2) l

theorem low_mul (t b : Nat) : (low t b).1 * Nat.gcd t b = t ∧ (low t b).2 * Nat.gcd t b = b :=
  ⟨Nat.div_mul_cancel (Nat.gcd_dvd_left t b), Nat.div_mul_cancel (Nat.gcd_dvd_right t b)⟩
theorem low_pos {t b : Nat} (hb : 0 < b) : 0 < (low t b).2 := by
  have h := (low_mul t b).2
  rcases Nat.eq_zero_or_pos (low t b).2 with z | z
  · rw [z, Nat.zero_mul] at h
    omega
  · exact z
theorem low_cop {t b : Nat} (hb : 0 < b) : Nat.Coprime (low t b).1 (low t b).2 := Nat.coprime_div_gcd_div_gcd (Nat.gcd_pos_of_pos_right t hb)
/-- b divides n * t just where the bottom divides n -/
theorem low_dvd {t b n : Nat} (hb : 0 < b) : b ∣ n * t ↔ (low t b).2 ∣ n := by
  have hg : 0 < Nat.gcd t b := Nat.gcd_pos_of_pos_right t hb
  obtain ⟨h1, h2⟩ := low_mul t b
  constructor
  · intro h
    have h3 : (low t b).2 * Nat.gcd t b ∣ n * (low t b).1 * Nat.gcd t b := by
      rw [h2, Nat.mul_assoc, h1]
      exact h
    have h4 := Nat.dvd_of_mul_dvd_mul_right hg h3
    exact (low_cop hb).symm.dvd_of_dvd_mul_right h4
  · rintro ⟨k, rfl⟩
    refine ⟨k * (low t b).1, ?_⟩
    calc (low t b).2 * k * t = (low t b).2 * k * ((low t b).1 * Nat.gcd t b) := by rw [h1]
      _ = (low t b).2 * Nat.gcd t b * (k * (low t b).1) := by
        rw [Nat.mul_assoc, Nat.mul_assoc, ← Nat.mul_assoc k, Nat.mul_comm (k * (low t b).1)]
      _ = b * (k * (low t b).1) := by rw [h2]
theorem low_share {t b n y : Nat} (hb : 0 < b) (h : y * b = n * t) : y = n / (low t b).2 * (low t b).1 := by
  have hd : (low t b).2 ∣ n := (low_dvd hb).mp ⟨y, by rw [← h, Nat.mul_comm]⟩
  have hp := low_pos (t := t) hb
  have hg : 0 < Nat.gcd t b := Nat.gcd_pos_of_pos_right t hb
  obtain ⟨h1, h2⟩ := low_mul t b
  obtain ⟨k, rfl⟩ := hd
  rw [Nat.mul_div_cancel_left _ hp]
  have h3 : y * ((low t b).2 * Nat.gcd t b) = (low t b).2 * k * ((low t b).1 * Nat.gcd t b) := by rw [h1, h2]; exact h
  have h4 : (low t b).2 * Nat.gcd t b * y = (low t b).2 * Nat.gcd t b * (k * (low t b).1) := by
    rw [Nat.mul_comm _ y, h3, Nat.mul_assoc, Nat.mul_assoc, ← Nat.mul_assoc k, Nat.mul_comm (k * (low t b).1)]
  exact Nat.eq_of_mul_eq_mul_left (Nat.mul_pos hp hg) h4
/-- two fractions in lowest terms are one where they are worth the same -/
theorem low_eq {t b t' b' : Nat} (hb : 0 < b) (hb' : 0 < b') (h : t * b' = t' * b) : low t b = low t' b' := by
  have hg : 0 < Nat.gcd t b := Nat.gcd_pos_of_pos_right t hb
  have hg' : 0 < Nat.gcd t' b' := Nat.gcd_pos_of_pos_right t' hb'
  obtain ⟨h1, h2⟩ := low_mul t b
  obtain ⟨h3, h4⟩ := low_mul t' b'
  have c1 := low_cop (t := t) hb
  have c2 := low_cop (t := t') hb'
  have key : (low t b).1 * (low t' b').2 = (low t' b').1 * (low t b).2 := by
    have e : Nat.gcd t b * Nat.gcd t' b' * ((low t b).1 * (low t' b').2) = Nat.gcd t b * Nat.gcd t' b' * ((low t' b').1 * (low t b).2) := by
      calc Nat.gcd t b * Nat.gcd t' b' * ((low t b).1 * (low t' b').2) = ((low t b).1 * Nat.gcd t b) * ((low t' b').2 * Nat.gcd t' b') := by ac_rfl
        _ = t * b' := by rw [h1, h4]
        _ = t' * b := h
        _ = ((low t' b').1 * Nat.gcd t' b') * ((low t b).2 * Nat.gcd t b) := by rw [h2, h3]
        _ = _ := by ac_rfl
    exact Nat.eq_of_mul_eq_mul_left (Nat.mul_pos hg hg') e
  have d1 : (low t b).2 ∣ (low t' b').2 := c1.symm.dvd_of_dvd_mul_left ⟨(low t' b').1, by rw [key, Nat.mul_comm]⟩
  have d2 : (low t' b').2 ∣ (low t b).2 := c2.symm.dvd_of_dvd_mul_left ⟨(low t b).1, by rw [← key, Nat.mul_comm]⟩
  have e2 := Nat.dvd_antisymm d1 d2
  have e1 : (low t b).1 = (low t' b').1 := by
    rw [e2] at key
    exact Nat.eq_of_mul_eq_mul_right (low_pos hb') key
  exact Prod.ext e1 e2
theorem low_val {t b : Nat} (hb : 0 < b) : (low t b).1 * b = t * (low t b).2 := by
  obtain ⟨h1, h2⟩ := low_mul t b
  calc (low t b).1 * b = (low t b).1 * ((low t b).2 * Nat.gcd t b) := by rw [h2]
    _ = ((low t b).1 * Nat.gcd t b) * (low t b).2 := by ac_rfl
    _ = t * (low t b).2 := by rw [h1]

theorem lcmF_eq (l q : Nat) : lcmF l q = Nat.lcm l q := by
  unfold lcmF Nat.lcm
  exact Nat.div_mul_right_comm (Nat.gcd_dvd_left l q) q
theorem round_dvd : ∀ (ps : List (Nat × Nat)) (l n : Nat), roundN ps l ∣ n ↔ l ∣ n ∧ ∀ q ∈ ps, q.2 ∣ n
  | [], l, n => by simp [roundN]
  | q :: ps, l, n => by
    have ih := round_dvd ps (lcmF l q.2) n
    show roundN ps (lcmF l q.2) ∣ n ↔ _
    rw [ih, lcmF_eq]
    constructor
    · rintro ⟨h1, h2⟩
      refine ⟨Nat.dvd_trans (Nat.dvd_lcm_left _ _) h1, fun x hx => ?_⟩
      rcases List.mem_cons.mp hx with z | z
      · rw [z]; exact Nat.dvd_trans (Nat.dvd_lcm_right _ _) h1
      · exact h2 x z
    · rintro ⟨h1, h2⟩
      exact ⟨Nat.lcm_dvd h1 (h2 q (by simp)), fun x hx => h2 x (by simp [hx])⟩
theorem partsN_pos : ∀ (es : List Nat) (t b : Nat), (∀ e ∈ es, 2 ≤ e) → 0 < b → ∀ q ∈ partsN es t b, 0 < q.2
  | [], t, b, _, hb => by simp [partsN]; exact low_pos hb
  | e :: es, t, b, he, hb => by
    intro q hq
    have h2 := he e (by simp)
    have hbe : 0 < b * e := Nat.mul_pos hb (by omega)
    unfold partsN at hq
    rcases List.mem_cons.mp hq with z | z
    · rw [z]; exact low_pos hbe
    · exact partsN_pos es _ _ (fun x hx => he x (by simp [hx])) hbe q z
theorem partsN_len : ∀ (es : List Nat) (t b : Nat), (partsN es t b).length = es.length + 1
  | [], _, _ => rfl
  | e :: es, t, b => by simp [partsN, partsN_len es]

theorem head_same {c x e : Nat} (hc : c < e) : (c + x) % e = c ↔ e ∣ x := by
  constructor
  · intro h
    have h1 := Nat.div_add_mod (c + x) e
    rw [h] at h1
    exact ⟨(c + x) / e, by omega⟩
  · rintro ⟨k, rfl⟩
    rw [Nat.add_mul_mod_self_left, Nat.mod_eq_of_lt hc]
theorem head_div {c y e : Nat} (hc : c < e) : (c + e * y) / e = y := by
  rw [Nat.add_mul_div_left _ _ (by omega), Nat.div_eq_of_lt hc, Nat.zero_add]
theorem scale {x b n t e y : Nat} (he : 1 ≤ e) (h : x * b = n * t) (hx : x = e * y) : (x - y) * (b * e) = n * (t * (e - 1)) := by
  have e1 : x - y = (e - 1) * y := by
    rw [hx, Nat.sub_mul, Nat.one_mul]
  rw [e1]
  calc (e - 1) * y * (b * e) = (e * y) * b * (e - 1) := by ac_rfl
    _ = x * b * (e - 1) := by rw [hx]
    _ = n * t * (e - 1) := by rw [h]
    _ = n * (t * (e - 1)) := by rw [Nat.mul_assoc]
/-- the state comes round just where all bottoms divide -/
theorem state_iff : ∀ (r : List (Int × Int)) (t b n x : Nat), (∀ ec ∈ r, okT ec) → 0 < b → x * b = n * t → (cntF r (x : Int) = r.map (·.2) ↔ goodN (evs r) t b n)
  | [], _, _, _, _, _, _, _ => by simp [cntF, evs, goodN]
  | (e, c) :: r, t, b, n, x, ok, hb, h => by
    have h0 := ok (e, c) (by simp)
    unfold okT at h0
    simp at h0
    obtain ⟨e', rfl⟩ := Int.eq_ofNat_of_zero_le (show 0 ≤ e by omega)
    obtain ⟨c', rfl⟩ := Int.eq_ofNat_of_zero_le h0.2.2.1
    have hc : c' < e' := by omega
    have hbe : 0 < b * e' := Nat.mul_pos hb (by omega)
    have ev : evs (((e' : Int), (c' : Int)) :: r) = e' :: evs r := by simp [evs]
    have hd : e' ∣ x ↔ (low t (b * e')).2 ∣ n := by
      rw [← low_dvd hbe]
      constructor
      · rintro ⟨y, rfl⟩
        exact ⟨y, by rw [← h]; ac_rfl⟩
      · rintro ⟨y, hy⟩
        refine ⟨y, Nat.eq_of_mul_eq_mul_right hb ?_⟩
        rw [h, hy]
        ac_rfl
    rw [ev]
    simp only [cntF, List.map_cons, goodN]
    have hm : ((c' : Int) + (x : Int)) % (e' : Int) = (((c' + x) % e' : Nat) : Int) := rfl
    have hq : ((c' : Int) + (x : Int)) / (e' : Int) = (((c' + x) / e' : Nat) : Int) := rfl
    rw [hm, hq, List.cons.injEq]
    by_cases hx : e' ∣ x
    · obtain ⟨y, hy⟩ := hx
      have hy2 : (c' + x) / e' = y := by rw [hy]; exact head_div hc
      have ylt : y ≤ x := by rw [hy]; exact Nat.le_mul_of_pos_left y (by omega)
      have ih := state_iff r (t * (e' - 1)) (b * e') n (x - y) (fun z hz => ok z (by simp [hz])) hbe (scale (by omega) h hy)
      rw [hy2, show (x : Int) - (y : Int) = ((x - y : Nat) : Int) by omega, ih]
      have a1 : (((c' + x) % e' : Nat) : Int) = (c' : Int) := by
        rw [(head_same hc).mpr ⟨y, hy⟩]
      constructor
      · rintro ⟨_, h2⟩
        exact ⟨hd.mp ⟨y, hy⟩, h2⟩
      · rintro ⟨_, h2⟩
        exact ⟨a1, h2⟩
    · constructor
      · rintro ⟨h1, _⟩
        exact absurd ((head_same hc).mp (by omega)) hx
      · rintro ⟨h1, _⟩
        exact absurd (hd.mpr h1) hx
/-- what is taken of a round, or of some of them -/
theorem taken_round : ∀ (r : List (Int × Int)) (t b n x : Nat), (∀ ec ∈ r, okT ec) → 0 < b → x * b = n * t → goodN (evs r) t b n →
    takenF r (x : Int) = (partsN (evs r) t b).map (fun q => ((n / q.2 * q.1 : Nat) : Int)) ∧ ∀ q ∈ partsN (evs r) t b, q.2 ∣ n
  | [], t, b, n, x, _, hb, h, _ => by
    constructor
    · simp only [takenF, evs, List.map_nil, partsN, List.map_cons]
      congr 2
      exact low_share hb h
    · intro q hq
      simp only [evs, List.map_nil, partsN, List.mem_singleton] at hq
      rw [hq]
      exact (low_dvd hb).mp ⟨x, by rw [← h, Nat.mul_comm]⟩
  | (e, c) :: r, t, b, n, x, ok, hb, h, hg => by
    have h0 := ok (e, c) (by simp)
    unfold okT at h0
    simp at h0
    obtain ⟨e', rfl⟩ := Int.eq_ofNat_of_zero_le (show 0 ≤ e by omega)
    obtain ⟨c', rfl⟩ := Int.eq_ofNat_of_zero_le h0.2.2.1
    have hc : c' < e' := by omega
    have hbe : 0 < b * e' := Nat.mul_pos hb (by omega)
    have ev : evs (((e' : Int), (c' : Int)) :: r) = e' :: evs r := by simp [evs]
    rw [ev] at hg ⊢
    obtain ⟨hg1, hg2⟩ := hg
    have hx : e' ∣ x := by
      obtain ⟨y, hy⟩ := (low_dvd (t := t) hbe).mpr hg1
      refine ⟨y, Nat.eq_of_mul_eq_mul_right hb ?_⟩
      rw [h, hy]
      ac_rfl
    obtain ⟨y, hy⟩ := hx
    have hy2 : (c' + x) / e' = y := by rw [hy]; exact head_div hc
    have ylt : y ≤ x := by rw [hy]; exact Nat.le_mul_of_pos_left y (by omega)
    obtain ⟨ih1, ih2⟩ := taken_round r (t * (e' - 1)) (b * e') n (x - y) (fun z hz => ok z (by simp [hz])) hbe (scale (by omega) h hy) hg2
    have hq : ((c' : Int) + (x : Int)) / (e' : Int) = (y : Int) := by
      rw [← hy2]
      rfl
    constructor
    · simp only [takenF, partsN, List.map_cons]
      rw [hq, show (x : Int) - (y : Int) = ((x - y : Nat) : Int) by omega, ih1]
      congr 2
      exact low_share hbe (by rw [← h, hy]; ac_rfl)
    · intro q hm
      unfold partsN at hm
      rcases List.mem_cons.mp hm with z | z
      · rw [z]; exact hg1
      · exact ih2 q z
theorem good_of : ∀ (es : List Nat) (t b n : Nat), (∀ q ∈ partsN es t b, q.2 ∣ n) → goodN es t b n
  | [], _, _, _, _ => trivial
  | e :: es, t, b, n, h => ⟨h _ (by simp [partsN]), good_of es _ _ n fun q hq => h q (by simp [partsN, hq])⟩
/-- the round of a row -/
def rnd (r : List (Int × Int)) : Nat := roundN (partsN (evs r) 1 1) 1
theorem rnd_iff (r : List (Int × Int)) (ok : ∀ ec ∈ r, okT ec) (n : Nat) : cntF r (n : Int) = r.map (·.2) ↔ rnd r ∣ n := by
  rw [state_iff r 1 1 n n ok (by omega) rfl]
  unfold rnd
  rw [round_dvd]
  constructor
  · intro h
    exact ⟨Nat.one_dvd n, (taken_round r 1 1 n n ok (by omega) rfl h).2⟩
  · rintro ⟨_, h⟩
    exact good_of _ _ _ _ h
theorem rnd_taken (r : List (Int × Int)) (ok : ∀ ec ∈ r, okT ec) (n : Nat) (h : rnd r ∣ n) : takenF r (n : Int) = (partsN (evs r) 1 1).map (fun q => ((n / q.2 * q.1 : Nat) : Int)) ∧ ∀ q ∈ partsN (evs r) 1 1, q.2 ∣ n :=
  taken_round r 1 1 n n ok (by omega) rfl ((state_iff r 1 1 n n ok (by omega) rfl).mp ((rnd_iff r ok n).mpr h))
/-- bottoms divide the product of all -/
def prodN : List Nat → Nat
  | [] => 1
  | e :: es => e * prodN es
theorem low_bot (t b : Nat) : (low t b).2 ∣ b := ⟨Nat.gcd t b, (low_mul t b).2.symm⟩
theorem parts_prod : ∀ (es : List Nat) (t b : Nat), ∀ q ∈ partsN es t b, q.2 ∣ b * prodN es
  | [], t, b => by
    intro q hq
    simp only [partsN, List.mem_singleton] at hq
    rw [hq]
    simp only [prodN, Nat.mul_one]
    exact low_bot t b
  | e :: es, t, b => by
    intro q hq
    unfold partsN at hq
    have e1 : b * prodN (e :: es) = b * e * prodN es := by simp only [prodN]; ac_rfl
    rw [e1]
    rcases List.mem_cons.mp hq with z | z
    · rw [z]; exact Nat.dvd_trans (low_bot t (b * e)) (Nat.dvd_mul_right _ _)
    · exact parts_prod es _ _ q z
theorem prod_le : ∀ (es : List Nat) (m k : Nat), (∀ e ∈ es, e ≤ m) → 1 ≤ m → es.length ≤ k → prodN es ≤ m ^ k
  | [], m, k, _, hm, _ => Nat.one_le_pow _ _ hm
  | e :: es, m, 0, _, _, h => by simp at h
  | e :: es, m, k + 1, he, hm, h => by
    have ih := prod_le es m k (fun x hx => he x (by simp [hx])) hm (by simp at h; omega)
    have := he e (by simp)
    simp only [prodN]
    rw [Nat.pow_succ, Nat.mul_comm]
    exact Nat.mul_le_mul ih this
theorem prod_pos : ∀ (es : List Nat), (∀ e ∈ es, 2 ≤ e) → 0 < prodN es
  | [], _ => by simp [prodN]
  | e :: es, h => Nat.mul_pos (by have := h e (by simp); omega) (prod_pos es fun x hx => h x (by simp [hx]))
theorem evs_ge {r : List (Int × Int)} (ok : ∀ ec ∈ r, okT ec) : ∀ e ∈ evs r, 2 ≤ e := fun e he => by
  obtain ⟨ec, h1, rfl⟩ := List.mem_map.mp he
  have := (ok ec h1).1
  omega
theorem evs_le {r : List (Int × Int)} {m : Nat} (h : ∀ ec ∈ r, ec.1 ≤ (m : Int)) : ∀ e ∈ evs r, e ≤ m := fun e he => by
  obtain ⟨ec, h1, rfl⟩ := List.mem_map.mp he
  have := h ec h1
  omega
theorem rnd_le (r : List (Int × Int)) (ok : ∀ ec ∈ r, okT ec) (m k : Nat) (hm : ∀ ec ∈ r, ec.1 ≤ (m : Int)) (h1 : 1 ≤ m) (hk : r.length ≤ k) : rnd r ≤ m ^ k ∧ 0 < rnd r := by
  have hp := prod_pos (evs r) (evs_ge ok)
  have hd : rnd r ∣ prodN (evs r) := by
    unfold rnd
    rw [round_dvd]
    refine ⟨Nat.one_dvd _, fun q hq => ?_⟩
    have := parts_prod (evs r) 1 1 q hq
    rwa [Nat.one_mul] at this
  have h2 := Nat.le_of_dvd hp hd
  have h3 := prod_le (evs r) m k (evs_le hm) h1 (by simp [evs]; exact hk)
  exact ⟨by omega, Nat.pos_of_dvd_of_pos hd hp⟩
/-- a share of a round, told in lowest terms -/
theorem share_low {n : Nat} {q : Nat × Nat} (hn : 0 < n) (hq : q.2 ∣ n) (h2 : 0 < q.2) (hc : Nat.Coprime q.1 q.2) : low (n / q.2 * q.1) n = q := by
  have e1 : low q.1 q.2 = q := by
    unfold low
    rw [show Nat.gcd q.1 q.2 = 1 from hc, Nat.div_one, Nat.div_one]
  rw [← e1]
  have e2 : low (n / (low q.1 q.2).2 * (low q.1 q.2).1) n = low q.1 q.2 := by
    rw [e1]
    refine (low_eq hn h2 ?_).trans e1
    obtain ⟨k, rfl⟩ := hq
    rw [Nat.mul_div_cancel_left _ h2]
    ac_rfl
  exact e2
theorem parts_cop : ∀ (es : List Nat) (t b : Nat), (∀ e ∈ es, 2 ≤ e) → 0 < b → ∀ q ∈ partsN es t b, Nat.Coprime q.1 q.2
  | [], t, b, _, hb => by simp [partsN]; exact low_cop hb
  | e :: es, t, b, he, hb => by
    intro q hq
    have h2 := he e (by simp)
    have hbe : 0 < b * e := Nat.mul_pos hb (by omega)
    unfold partsN at hq
    rcases List.mem_cons.mp hq with z | z
    · rw [z]; exact low_cop hbe
    · exact parts_cop es _ _ (fun x hx => he x (by simp [hx])) hbe q z
end TK

set_option maxRecDepth 100000
/-! lists of pairs of whole numbers -/
namespace TK
open PySem PySem.Spec PyProof.Rows L2
abbrev prV (f : Nat × Nat) : HO := .tup [.int (f.1 : Nat), .int (f.2 : Nat)]
def PrsL (H : Hp) (q : Addr) (ps : List (Nat × Nat)) : Prop :=
  ∃ ts : List Addr, H q = some (.lst (ts.map V.ref)) ∧ ts.length = ps.length ∧ ∀ (i : Nat) (t : Addr) (f : Nat × Nat), ts[i]? = some t → ps[i]? = some f → H t = some (prV f)
theorem PrsL.same {H H' : Hp} {q : Addr} {ps : List (Nat × Nat)} (h : PrsL H q ps) (s : Same H H') : PrsL H' q ps := by
  obtain ⟨ts, h1, h2, h3⟩ := h
  exact ⟨ts, s _ _ h1, h2, fun i t f a b => s _ _ (h3 i t f a b)⟩
theorem PrsL.nil {H : Hp} {q : Addr} (h : H q = some (.lst [])) : PrsL H q [] := ⟨[], h, rfl, fun i t f h => nomatch h⟩
/-- one more pair -/
theorem PrsL.push {H : Hp} {q t : Addr} {ps : List (Nat × Nat)} {f : Nat × Nat} {ts : List Addr} (h1 : H q = some (.lst (ts.map V.ref))) (h2 : ts.length = ps.length)
    (h3 : ∀ (i : Nat) (t : Addr) (f : Nat × Nat), ts[i]? = some t → ps[i]? = some f → H t = some (prV f)) (ht : H t = some (prV f)) : PrsL (upd H q (.lst (ts.map V.ref ++ [.ref t]))) q (ps ++ [f]) := by
  refine ⟨ts ++ [t], by rw [upd_same, List.map_append]; rfl, by rw [List.length_append, List.length_append, h2]; rfl, fun i u g a b => ?_⟩
  have hu : H u = some (prV g) := by
    by_cases hi : i < ts.length
    · rw [List.getElem?_append_left hi] at a
      rw [List.getElem?_append_left (by omega)] at b
      exact h3 i u g a b
    · have hi2 : i = ts.length := by
        have := (List.getElem?_eq_some_iff.mp a).1
        rw [List.length_append] at this
        simp at this
        omega
      subst hi2
      rw [List.getElem?_append_right (Nat.le_refl _), Nat.sub_self] at a
      rw [List.getElem?_append_right (by omega), h2, Nat.sub_self] at b
      cases a
      cases b
      exact ht
  rw [upd_ne (ne_of hu h1 (by intro z; cases z))]
  exact hu
def prD (f : Nat × Nat) : PyData := .tuple [.int (f.1 : Nat), .int (f.2 : Nat)]
theorem dp_pr {K : PySem.W.Frag} {H : Hp} {t : Addr} {f : Nat × Nat} (h : H t = some (prV f)) : Dp K H (.ref t) (prD f) := .tup (st_of h) (.cons (.int _) (.cons (.int _) .nil))
theorem all_prs {K : PySem.W.Frag} {H : Hp} : ∀ (ts : List Addr) (ps : List (Nat × Nat)), ts.length = ps.length → (∀ (i : Nat) (t : Addr) (f : Nat × Nat), ts[i]? = some t → ps[i]? = some f → H t = some (prV f)) → DpAll K H (ts.map V.ref) (ps.map prD)
  | [], [], _, _ => .nil
  | [], _ :: _, h, _ => by cases h
  | _ :: _, [], h, _ => by cases h
  | t :: ts, f :: ps, h, h3 => .cons (dp_pr (h3 0 t f rfl rfl)) (all_prs ts ps (Nat.succ.inj h) fun i u g a b => h3 (i + 1) u g (by simpa using a) (by simpa using b))
theorem dp_prs {K : PySem.W.Frag} {H : Hp} {q : Addr} {ps : List (Nat × Nat)} (h : PrsL H q ps) : Dp K H (.ref q) (.list (ps.map prD)) := by
  obtain ⟨ts, h1, h2, h3⟩ := h
  exact .lst (sq_of h1) (all_prs ts ps h2 h3)
theorem lay_prs : ∀ ps : List (Nat × Nat), PyData.canLayAll0 (ps.map prD) = true
  | [] => rfl
  | f :: r => by
    show (PyData.canLay0 (prD f) && PyData.canLayAll0 (r.map prD)) = true
    rw [lay_prs r]
    rfl
theorem deep_prs : ∀ ps : List (Nat × Nat), PyData.depthAll (ps.map prD) ≤ 1
  | [] => by show 0 ≤ 1; omega
  | f :: r => by
    have ih := deep_prs r
    show max (PyData.depth (prD f)) (PyData.depthAll (r.map prD)) ≤ 1
    have : PyData.depth (prD f) = 1 := rfl
    omega
theorem shp_prs (ps : List (Nat × Nat)) : SeqAt.shaped (.list (ps.map prD)) = true := by
  unfold SeqAt.shaped
  have h1 : PyData.canLay0 (.list (ps.map prD)) = true := lay_prs ps
  have h2 : PyData.depth (.list (ps.map prD)) ≤ 64 := by
    show PyData.depthAll (ps.map prD) + 1 ≤ 64
    have := deep_prs ps
    omega
  rw [h1, decide_eq_true h2]
  rfl
theorem eqv_pr (f g : Nat × Nat) : PyData.eqv (prD f) (prD g) = decide (f = g) := by
  unfold prD
  rw [PyData.eqv, Bool.eq_iff_iff]
  simp [PyData.eqvAll, PyData.eqv, Prod.ext_iff]
  omega
theorem eqv_prs : ∀ (ps qs : List (Nat × Nat)), PyData.eqvAll (ps.map prD) (qs.map prD) = decide (ps = qs)
  | [], [] => rfl
  | [], _ :: _ => rfl
  | _ :: _, [] => rfl
  | f :: r, g :: q => by
    show (PyData.eqv (prD f) (prD g) && PyData.eqvAll (r.map prD) (q.map prD)) = _
    rw [eqv_prs r q, eqv_pr, Bool.eq_iff_iff]
    simp
theorem ne_prs {K : PySem.W.Frag} {H : Hp} {a b : Addr} {ps : List (Nat × Nat)} {Q : VK} (ha : PrsL H a ps) (hb : PrsL H b ps) (q : Q (.bl false) H) : rNeD K (.ref a) (.ref b) H Q := by
  refine ⟨_, _, dp_prs ha, dp_prs hb, shp_prs ps, shp_prs ps, ?_⟩
  rw [PyData.eqv, eqv_prs, decide_eq_true rfl]
  exact q
theorem eq_prs {K : PySem.W.Frag} {H : Hp} {a b : Addr} {ps : List (Nat × Nat)} {Q : VK} (ha : PrsL H a ps) (hb : PrsL H b ps) (q : Q (.bl true) H) : rEqD K (.ref a) (.ref b) H Q := by
  refine ⟨_, _, dp_prs ha, dp_prs hb, shp_prs ps, shp_prs ps, ?_⟩
  rw [PyData.eqv, eqv_prs, decide_eq_true rfl]
  exact q
theorem shp_pr (f : Nat × Nat) : SeqAt.shaped (prD f) = true := rfl
theorem ne_pr {K : PySem.W.Frag} {H : Hp} {a b : Addr} {f : Nat × Nat} {Q : VK} (ha : H a = some (prV f)) (hb : H b = some (prV f)) (q : Q (.bl false) H) : rNeD K (.ref a) (.ref b) H Q := by
  refine ⟨_, _, dp_pr ha, dp_pr hb, shp_pr f, shp_pr f, ?_⟩
  rw [eqv_pr, decide_eq_true rfl]
  exact q
theorem evs_get {r : List (Int × Int)} {i : Nat} {e c : Int} (h : r[i]? = some (e, c)) : (evs r)[i]? = some e.toNat := by
  unfold evs
  rw [List.getElem?_map, h]
  rfl
theorem pw {i : Nat} (h : i ≤ 8) : 1000 ^ i ≤ 1000000000000000000000000 := Nat.le_trans (Nat.pow_le_pow_right (by decide) h) (by decide)
theorem wlt {n : Nat} (h : n ≤ 1000000000000000000000000) : ((n : Nat) : Int).natAbs < 2 ^ 100 := by
  rw [Int.natAbs_natCast]
  exact Nat.lt_of_le_of_lt h (by decide)
theorem gcd_step (x y : Nat) : Nat.gcd y (x % y) = Nat.gcd x y := by
  rw [Nat.gcd_comm y, ← Nat.gcd_rec, Nat.gcd_comm]
end TK

namespace TK
def prodM : List Nat → Nat
  | [] => 1
  | e :: es => (e - 1) * prodM es
theorem parts_app : ∀ (a c : List Nat) (t b : Nat), partsN (a ++ c) t b = (partsN a t b).dropLast ++ partsN c (t * prodM a) (b * prodN a)
  | [], c, t, b => by simp [partsN, prodM, prodN]
  | e :: a, c, t, b => by
    have ih := parts_app a c (t * (e - 1)) (b * e)
    have hne : partsN a (t * (e - 1)) (b * e) ≠ [] := by
      intro z
      have := congrArg List.length z
      rw [partsN_len] at this
      simp at this
    show low t (b * e) :: partsN (a ++ c) (t * (e - 1)) (b * e) = (low t (b * e) :: partsN a (t * (e - 1)) (b * e)).dropLast ++ _
    rw [ih, List.dropLast_cons_of_ne_nil hne, List.cons_append]
    congr 3
    · simp only [prodM]; ac_rfl
    · simp only [prodN]; ac_rfl
theorem len_init (a : List Nat) (t b : Nat) : (partsN a t b).dropLast.length = a.length := by
  rw [List.length_dropLast, partsN_len]
  rfl
theorem parts_last : ∀ (a : List Nat) (t b : Nat), partsN a t b = (partsN a t b).dropLast ++ [low (t * prodM a) (b * prodN a)] := fun a t b => by
  have := parts_app a [] t b
  rw [List.append_nil] at this
  exact this
theorem prodM_le : ∀ (es : List Nat), prodM es ≤ prodN es
  | [] => Nat.le_refl _
  | e :: es => Nat.mul_le_mul (Nat.sub_le _ _) (prodM_le es)
theorem prodN_perm {a b : List Nat} (h : a.Perm b) : prodN a = prodN b := by
  induction h with
  | nil => rfl
  | cons x _ ih => simp only [prodN]; rw [ih]
  | swap x y l => simp only [prodN]; ac_rfl
  | trans _ _ h1 h2 => exact h1.trans h2
theorem prodM_perm {a b : List Nat} (h : a.Perm b) : prodM a = prodM b := by
  induction h with
  | nil => rfl
  | cons x _ ih => simp only [prodM]; rw [ih]
  | swap x y l => simp only [prodM]; ac_rfl
  | trans _ _ h1 h2 => exact h1.trans h2
def plusN (f g : Nat × Nat) : Nat × Nat := low (f.1 * g.2 + g.1 * f.2) (f.2 * g.2)
theorem plus_eq {t b t' b' t2 b2 : Nat} (hb : 0 < b) (hb' : 0 < b') (hb2 : 0 < b2) (h : (t * b' + t' * b) * b2 = t2 * (b * b')) : plusN (low t b) (low t' b') = low t2 b2 := by
  have p1 := low_pos (t := t) hb
  have p2 := low_pos (t := t') hb'
  have v1 := low_val (t := t) hb
  have v2 := low_val (t := t') hb'
  obtain ⟨x, hx⟩ : ∃ x, low t b = x := ⟨_, rfl⟩
  obtain ⟨y, hy⟩ : ∃ y, low t' b' = y := ⟨_, rfl⟩
  rw [hx] at p1 v1 ⊢
  rw [hy] at p2 v2 ⊢
  unfold plusN
  refine low_eq (Nat.mul_pos p1 p2) hb2 ?_
  have hbb : 0 < b * b' := Nat.mul_pos hb hb'
  apply Nat.eq_of_mul_eq_mul_left hbb
  have e1 : b * b' * (x.1 * y.2 + y.1 * x.2) = (x.1 * b) * (b' * y.2) + (y.1 * b') * (b * x.2) := by
    rw [Nat.mul_add]
    congr 1 <;> ac_rfl
  calc b * b' * ((x.1 * y.2 + y.1 * x.2) * b2) = b * b' * (x.1 * y.2 + y.1 * x.2) * b2 := by ac_rfl
    _ = ((x.1 * b) * (b' * y.2) + (y.1 * b') * (b * x.2)) * b2 := by rw [e1]
    _ = ((t * x.2) * (b' * y.2) + (t' * y.2) * (b * x.2)) * b2 := by rw [v1, v2]
    _ = (x.2 * y.2) * ((t * b' + t' * b) * b2) := by
      rw [Nat.add_mul, Nat.add_mul, Nat.mul_add]
      congr 1 <;> ac_rfl
    _ = (x.2 * y.2) * (t2 * (b * b')) := by rw [h]
    _ = b * b' * (t2 * (x.2 * y.2)) := by ac_rfl
/-- the sum so far, and one more -/
theorem plus_more {t b e : Nat} (hb : 0 < b) (he : 2 ≤ e) (ht : t ≤ b) : plusN (low (b - t) b) (low t (b * e)) = low (b * e - t * (e - 1)) (b * e) := by
  have hbe : 0 < b * e := Nat.mul_pos hb (by omega)
  refine plus_eq hb hbe hbe ?_
  have e0 : t * (e - 1) ≤ b * e := Nat.mul_le_mul ht (Nat.sub_le _ _)
  have e1 : (b - t) * e + t = b * e - t * (e - 1) := by
    have k1 : t * (e - 1) + t = t * e := by
      rw [← Nat.mul_succ]
      congr 1
      omega
    have k2 : t * e ≤ b * e := Nat.mul_le_mul_right e ht
    rw [Nat.sub_mul]
    omega
  calc ((b - t) * (b * e) + t * b) * (b * e) = ((b - t) * e + t) * b * (b * e) := by
        rw [Nat.add_mul ((b - t) * e) t b]
        congr 2
        ac_rfl
    _ = (b * e - t * (e - 1)) * b * (b * e) := by rw [e1]
    _ = (b * e - t * (e - 1)) * (b * (b * e)) := by rw [Nat.mul_assoc]
theorem plus_end {t b : Nat} (hb : 0 < b) (ht : t ≤ b) : plusN (low (b - t) b) (low t b) = (1, 1) := by
  have : plusN (low (b - t) b) (low t b) = low 1 1 := by
    refine plus_eq hb hb (by decide) ?_
    rw [Nat.mul_one, Nat.one_mul, ← Nat.add_mul, Nat.sub_add_cancel ht]
  rw [this]
  decide +kernel
/-- neighbours who change places -/
theorem swap_sum {t b x y : Nat} (hb : 0 < b) (hx : 2 ≤ x) (hy : 2 ≤ y) : plusN (low t (b * y)) (low (t * (y - 1)) (b * y * x)) = plusN (low t (b * x)) (low (t * (x - 1)) (b * x * y)) := by
  have key : ∀ x y : Nat, 2 ≤ x → 2 ≤ y → plusN (low t (b * x)) (low (t * (x - 1)) (b * x * y)) = low (t * (x + y - 1)) (b * x * y) := fun x y hx hy => by
    have hbx : 0 < b * x := Nat.mul_pos hb (by omega)
    have hbxy : 0 < b * x * y := Nat.mul_pos hbx (by omega)
    refine plus_eq hbx hbxy hbxy ?_
    have e1 : t * y + t * (x - 1) = t * (x + y - 1) := by
      rw [← Nat.mul_add]
      congr 1
      omega
    calc (t * (b * x * y) + t * (x - 1) * (b * x)) * (b * x * y) = (t * y + t * (x - 1)) * (b * x) * (b * x * y) := by
          rw [Nat.add_mul (t * y)]
          congr 2
          ac_rfl
      _ = t * (x + y - 1) * (b * x) * (b * x * y) := by rw [e1]
      _ = t * (x + y - 1) * (b * x * (b * x * y)) := by rw [Nat.mul_assoc]
  rw [key x y hx hy, key y x hy hx]
  congr 1
  · congr 1
    omega
  · ac_rfl
theorem swap_less {t b x y : Nat} (hb : 0 < b) (hx : 2 ≤ x) (hy : 2 ≤ y) :
    (low (t * (x - 1)) (b * x * y)).1 * (low t (b * y)).2 ≤ (low t (b * y)).1 * (low (t * (x - 1)) (b * x * y)).2 := by
  have hby : 0 < b * y := Nat.mul_pos hb (by omega)
  have hbxy : 0 < b * x * y := Nat.mul_pos (Nat.mul_pos hb (by omega)) (by omega)
  have v1 := low_val (t := t) hby
  have v2 := low_val (t := t * (x - 1)) hbxy
  generalize low t (b * y) = f at v1 ⊢
  generalize low (t * (x - 1)) (b * x * y) = g at v2 ⊢
  have hp : 0 < (b * y) * (b * x * y) := Nat.mul_pos hby hbxy
  refine Nat.le_of_mul_le_mul_left ?_ hp
  calc (b * y) * (b * x * y) * (g.1 * f.2) = (g.1 * (b * x * y)) * (f.2 * (b * y)) := by ac_rfl
    _ = t * (x - 1) * g.2 * (f.2 * (b * y)) := by rw [v2]
    _ = (t * g.2 * f.2 * b * y) * (x - 1) := by ac_rfl
    _ ≤ (t * g.2 * f.2 * b * y) * x := Nat.mul_le_mul_left _ (Nat.sub_le _ _)
    _ = (t * f.2) * (g.2 * (b * x * y)) := by ac_rfl
    _ = (f.1 * (b * y)) * (g.2 * (b * x * y)) := by rw [v1]
    _ = (b * y) * (b * x * y) * (f.1 * g.2) := by ac_rfl
/-- every fraction is small -/
theorem parts_small : ∀ (es : List Nat) (t b M : Nat), (∀ e ∈ es, 2 ≤ e) → 0 < b → t ≤ b → b * prodN es ≤ M → ∀ q ∈ partsN es t b, q.1 ≤ M ∧ q.2 ≤ M
  | [], t, b, M, _, hb, ht, hM => by
    intro q hq
    simp only [partsN, List.mem_singleton] at hq
    subst hq
    simp only [prodN, Nat.mul_one] at hM
    have h1 : (low t b).1 ≤ t := Nat.div_le_self _ _
    have h2 : (low t b).2 ≤ b := Nat.div_le_self _ _
    omega
  | e :: es, t, b, M, he, hb, ht, hM => by
    intro q hq
    have h2 := he e (by simp)
    have hbe : 0 < b * e := Nat.mul_pos hb (by omega)
    have hM' : b * e * prodN es ≤ M := by rw [Nat.mul_assoc]; exact hM
    have hp : 0 < prodN es := prod_pos es fun x hx => he x (by simp [hx])
    have hle : b * e ≤ M := Nat.le_trans (Nat.le_mul_of_pos_right _ hp) hM'
    have hb2 : b ≤ b * e := Nat.le_mul_of_pos_right b (by omega)
    unfold partsN at hq
    rcases List.mem_cons.mp hq with z | z
    · subst z
      have k1 : (low t (b * e)).1 ≤ t := Nat.div_le_self _ _
      have k2 : (low t (b * e)).2 ≤ b * e := Nat.div_le_self _ _
      omega
    · exact parts_small es _ _ M (fun x hx => he x (by simp [hx])) hbe (Nat.mul_le_mul ht (Nat.sub_le _ _)) hM' q z
end TK

set_option maxRecDepth 100000
/-! tuples joined and cut; rows and lists of pairs cut -/
namespace TK
open PySem PySem.Spec PyProof.Rows L2
theorem cat_use {K : PySem.W.Frag} {H : Hp} {a b : Addr} {xs ys : List V} {Q : VK} (ha : H a = some (.tup xs)) (hb : H b = some (.tup ys)) (hl : xs.length + ys.length ≤ sizeLine)
    (q : ∀ p H', Same H H' → H' p = some (.tup (xs ++ ys)) → Q (.ref p) H') : rCatA K (.ref a) (.ref b) H Q := by
  refine ⟨a, b, xs, ys, rfl, rfl, st_of ha, st_of hb, hl, fun e => ?_, fun _ e => ?_, fun _ _ p hp => ?_⟩
  · subst e
    exact q b H (Same.refl _) hb
  · subst e
    exact q a H (Same.refl _) (by rw [List.append_nil]; exact ha)
  · exact q p _ (same_new hp) upd_same
theorem slice_use {K : PySem.W.Frag} {H : Hp} {a : Addr} {xs : List V} {lo hi : Option Int} {Q : VK} (ha : H a = some (.tup xs))
    (q : ∀ p H', Same H H' → H' p = some (.tup (cutV xs lo hi)) → Q (.ref p) H') : rSlA K (.ref a) lo hi H Q := by
  refine ⟨a, xs, rfl, st_of ha, fun e => ?_, fun _ p hp => ?_⟩
  · refine q a H (Same.refl _) ?_
    unfold cutV
    rw [e.1, e.2, List.drop_zero, Nat.sub_zero, List.take_length]
    exact ha
  · exact q p _ (same_new hp) upd_same
theorem cut_from {xs : List V} {m : Int} {k : Nat} (h : m = (k : Int)) (hk : k ≤ xs.length) : cutV xs (some m) none = xs.drop k := by
  subst h
  unfold cutV
  rw [HT.sIx_none, HT.sIx_nat, Nat.min_eq_left hk]
  exact List.take_of_length_le (by rw [List.length_drop]; exact Nat.le_refl _)
/-- each address holds its taker -/
def PairsAt (H : Hp) (ts : List Addr) (r : List (Int × Int)) : Prop := ts.length = r.length ∧ ∀ (i : Nat) (t : Addr) (ec : Int × Int), ts[i]? = some t → r[i]? = some ec → H t = some (.tup [.int ec.1, .int ec.2])
theorem RowAt.pairs {H : Hp} {p : Addr} {r : List (Int × Int)} (h : RowAt H p r) : ∃ ts, H p = some (.tup (ts.map V.ref)) ∧ PairsAt H ts r := by
  obtain ⟨ts, h1, h2, h3⟩ := h
  exact ⟨ts, h1, h2, h3⟩
theorem PairsAt.row {H : Hp} {p : Addr} {ts : List Addr} {r : List (Int × Int)} (h : PairsAt H ts r) (hp : H p = some (.tup (ts.map V.ref))) : RowAt H p r := ⟨ts, hp, h.1, h.2⟩
theorem PairsAt.keep {H H' : Hp} {ts : List Addr} {r : List (Int × Int)} (h : PairsAt H ts r) (k : TupS H H') : PairsAt H' ts r := ⟨h.1, fun i t ec a b => k _ _ (h.2 i t ec a b)⟩
theorem PairsAt.take {H : Hp} {ts : List Addr} {r : List (Int × Int)} (h : PairsAt H ts r) (k : Nat) : PairsAt H (ts.take k) (r.take k) := by
  refine ⟨by rw [List.length_take, List.length_take, h.1], fun i t ec a b => ?_⟩
  rw [List.getElem?_take] at a b
  split at a
  · rename_i hi
    rw [if_pos hi] at b
    exact h.2 i t ec a b
  · cases a
theorem PairsAt.drop {H : Hp} {ts : List Addr} {r : List (Int × Int)} (h : PairsAt H ts r) (k : Nat) : PairsAt H (ts.drop k) (r.drop k) := by
  refine ⟨by rw [List.length_drop, List.length_drop, h.1], fun i t ec a b => ?_⟩
  rw [List.getElem?_drop] at a b
  exact h.2 _ t ec a b
theorem PairsAt.app {H : Hp} {ts us : List Addr} {r q : List (Int × Int)} (h : PairsAt H ts r) (h' : PairsAt H us q) : PairsAt H (ts ++ us) (r ++ q) := by
  refine ⟨by rw [List.length_append, List.length_append, h.1, h'.1], fun i t ec a b => ?_⟩
  by_cases hi : i < ts.length
  · rw [List.getElem?_append_left hi] at a
    rw [List.getElem?_append_left (by rw [← h.1]; exact hi)] at b
    exact h.2 i t ec a b
  · rw [List.getElem?_append_right (by omega)] at a
    rw [List.getElem?_append_right (by rw [← h.1]; omega), ← h.1] at b
    exact h'.2 _ t ec a b
theorem PairsAt.two {H : Hp} {t u : Addr} {f g : Int × Int} (h1 : H t = some (.tup [.int f.1, .int f.2])) (h2 : H u = some (.tup [.int g.1, .int g.2])) : PairsAt H [t, u] [f, g] :=
  ⟨rfl, fun i x ec a b => by
    cases i with
    | zero => cases a; cases b; exact h1
    | succ i =>
      cases i with
      | zero => cases a; cases b; exact h2
      | succ i => simp at a⟩
theorem PrsL.cutTo {H H' : Hp} {q p : Addr} {ps : List (Nat × Nat)} {ts : List Addr} (h2 : ts.length = ps.length) (h3 : ∀ (i : Nat) (t : Addr) (f : Nat × Nat), ts[i]? = some t → ps[i]? = some f → H t = some (prV f))
    (s : Same H H') (k : Nat) (hp : H' p = some (.lst ((ts.map V.ref).take k))) : PrsL H' p (ps.take k) := by
  refine ⟨ts.take k, by rw [hp, List.map_take], by rw [List.length_take, List.length_take, h2], fun i t f a b => ?_⟩
  rw [List.getElem?_take] at a b
  split at a
  · rename_i hi
    rw [if_pos hi] at b
    exact s _ _ (h3 i t f a b)
  · cases a
theorem PrsL.cutFrom {H H' : Hp} {q p : Addr} {ps : List (Nat × Nat)} {ts : List Addr} (h2 : ts.length = ps.length) (h3 : ∀ (i : Nat) (t : Addr) (f : Nat × Nat), ts[i]? = some t → ps[i]? = some f → H t = some (prV f))
    (s : Same H H') (k : Nat) (hp : H' p = some (.lst ((ts.map V.ref).drop k))) : PrsL H' p (ps.drop k) := by
  refine ⟨ts.drop k, by rw [hp, List.map_drop], by rw [List.length_drop, List.length_drop, h2], fun i t f a b => ?_⟩
  rw [List.getElem?_drop] at a b
  exact s _ _ (h3 _ t f a b)
/-- told[:k], as a reading -/
theorem sl_to {K : PySem.W.Frag} {H : Hp} {q : Addr} {ps : List (Nat × Nat)} {m : Int} {k : Nat} {Q : VK} (h : PrsL H q ps) (hm : m = (k : Int)) (hk : k ≤ ps.length) (hQ : ∀ p H', Same H H' → PrsL H' p (ps.take k) → Q (.ref p) H') : rSlL K (.ref q) none (some m) H Q := by
  obtain ⟨ts, h1, h2, h3⟩ := h
  refine ⟨q, _, rfl, sq_of h1, fun p np => ?_⟩
  rw [cut_to hm (by rw [List.length_map, h2]; exact hk)]
  exact hQ p _ (same_new np) (PrsL.cutTo (q := q) h2 h3 (same_new np) k upd_same)
theorem sl_from {K : PySem.W.Frag} {H : Hp} {q : Addr} {ps : List (Nat × Nat)} {m : Int} {k : Nat} {Q : VK} (h : PrsL H q ps) (hm : m = (k : Int)) (hk : k ≤ ps.length) (hQ : ∀ p H', Same H H' → PrsL H' p (ps.drop k) → Q (.ref p) H') : rSlL K (.ref q) (some m) none H Q := by
  obtain ⟨ts, h1, h2, h3⟩ := h
  refine ⟨q, _, rfl, sq_of h1, fun p np => ?_⟩
  rw [cut_from hm (by rw [List.length_map, h2]; exact hk)]
  exact hQ p _ (same_new np) (PrsL.cutFrom (q := q) h2 h3 (same_new np) k upd_same)
theorem sl_init {K : PySem.W.Frag} {H : Hp} {q : Addr} {ps : List (Nat × Nat)} {Q : VK} (h : PrsL H q ps) (hQ : ∀ p H', Same H H' → PrsL H' p ps.dropLast → Q (.ref p) H') : rSlL K (.ref q) none (some (-1)) H Q := by
  obtain ⟨ts, h1, h2, h3⟩ := h
  refine ⟨q, _, rfl, sq_of h1, fun p np => ?_⟩
  rw [cut_init, List.dropLast_eq_take]
  refine hQ p _ (same_new np) ?_
  rw [List.dropLast_eq_take, ← h2]
  have := PrsL.cutTo (q := q) h2 h3 (same_new (o := .lst ((ts.map V.ref).take ((ts.map V.ref).length - 1))) np) (ts.length - 1) (by rw [upd_same, List.length_map])
  exact this
theorem PrsL.at {K : PySem.W.Frag} {H : Hp} {q : Addr} {ps : List (Nat × Nat)} {i : Nat} {f : Nat × Nat} {m : Int} {Q : VK} (h : PrsL H q ps) (hm : m = (i : Int)) (hf : ps[i]? = some f) (hQ : ∀ t, H t = some (prV f) → Q (.ref t) H) : rIxL K (.ref q) (.int m) H Q := by
  obtain ⟨ts, h1, h2, h3⟩ := h
  have hi : i < ts.length := h2 ▸ (List.getElem?_eq_some_iff.mp hf).1
  have ht := List.getElem?_eq_getElem hi
  exact ⟨q, _, m, .ref ts[i], rfl, rfl, sq_of h1, at_of hm (by rw [List.getElem?_map, ht]; rfl), hQ _ (h3 i _ f ht hf)⟩
theorem PrsL.last {K : PySem.W.Frag} {H : Hp} {q : Addr} {ps : List (Nat × Nat)} {f : Nat × Nat} {Q : VK} (h : PrsL H q (ps ++ [f])) (hQ : ∀ t, H t = some (prV f) → Q (.ref t) H) : rIxL K (.ref q) (.int (-1)) H Q := by
  obtain ⟨ts, h1, h2, h3⟩ := h
  rw [List.length_append] at h2
  have h2' : ts.length = ps.length + 1 := h2
  obtain ⟨us, u, e⟩ : ∃ us u, ts = us ++ [u] := ⟨ts.dropLast, ts.getLast (by intro z; rw [z] at h2'; cases h2'), (List.dropLast_concat_getLast _).symm⟩
  subst e
  have hl : us.length = ps.length := by rw [List.length_append] at h2'; exact Nat.succ.inj h2'
  have hu := h3 ps.length u f (by rw [List.getElem?_append_right (by omega), hl, Nat.sub_self]; rfl) (by rw [List.getElem?_append_right (Nat.le_refl _), Nat.sub_self]; rfl)
  refine ⟨q, _, -1, .ref u, rfl, rfl, sq_of h1, ?_, hQ u hu⟩
  rw [List.map_append]
  exact atI_last _ _
end TK

set_option maxRecDepth 100000
/-! t[::-1] of a tuple; repr of a truth -/
namespace TK
open PySem PySem.Spec PyProof.Rows L2
section
variable {prog : Program} {w : World} {A : Around} {E : Value → Shared → Prop} {s : Shared}
theorem applied_back {sl : Addr} {vl vu vk : Value} {n : Nat} {Q : Int × Int × Nat → Shared → Prop} (hs : s.heap.IsSliceOf sl vl vu vk) (pl : IsPart vl none) (pu : IsPart vu none) (pk : IsPart vk (some (-1)))
    (h : Q ((n : Int) - 1, -1, n) s) : wpAny (model prog w) A (Builtin.Slice.sliceApplied (.ref sl) (pure (n : Int))) Q E s := by
  obtain ⟨os, hos, hcs, hds⟩ := id hs
  unfold Builtin.Slice.sliceApplied Builtin.Slice.sliceFields
  refine wpAny_bind (wpAny_bind (wpAny_field hos hds (x := vl) rfl (wpAny_bind (wpAny_field hos hds (x := vu) rfl (wpAny_bind (wpAny_field hos hds (x := vk) rfl (wpAny_pure ?_)))))))
  refine wpAny_bind (HT.slicePart_ pk ?_)
  show wpAny _ _ (if ((-1 : Int) == 0) = true then _ else _) _ _ s
  rw [if_neg (by decide)]
  refine wpAny_bind (HT.slicePart_ pl (wpAny_bind (HT.slicePart_ pu (wpAny_bind (wpAny_pure ?_)))))
  have e1 : Builtin.Slice.sliceAdjust none none (-1) (n : Int) = ((n : Int) - 1, -1) := by
    unfold Builtin.Slice.sliceAdjust
    simp
  have e2 : Builtin.Slice.slicePlaces ((n : Int) - 1) (-1) (-1) = n := by
    unfold Builtin.Slice.slicePlaces
    simp
    omega
  show wpAny _ _ (match Builtin.Slice.sliceAdjust none none (-1) (n : Int) with | (lo, hi) => pure (lo, (-1 : Int), Builtin.Slice.slicePlaces lo hi (-1))) _ _ s
  rw [e1]
  show wpAny _ _ (pure ((n : Int) - 1, (-1 : Int), Builtin.Slice.slicePlaces ((n : Int) - 1) (-1) (-1))) _ _ s
  rw [e2]
  exact wpAny_pure h
theorem pick_back (xs : Array Value) : ((List.range xs.size).filterMap fun (m : Nat) => xs[((xs.size : Int) - 1 + (m : Int) * (-1)).toNat]?).toArray = xs.toList.reverse.toArray := by
  congr 1
  have e : ∀ k : Nat, k ≤ xs.size → ((List.range k).filterMap fun (m : Nat) => xs[((xs.size : Int) - 1 + (m : Int) * (-1)).toNat]?) = (xs.toList.drop (xs.size - k)).reverse := by
    intro k
    induction k with
    | zero => intro _; simp
    | succ k ih =>
      intro hk
      have hlt : xs.size - 1 - k < xs.toList.length := by rw [Array.length_toList]; omega
      rw [List.range_succ, List.filterMap_append, ih (by omega), show xs.size - (k + 1) = xs.size - 1 - k by omega, List.drop_eq_getElem_cons hlt, List.reverse_cons, show xs.size - 1 - k + 1 = xs.size - k by omega]
      congr 1
      have e2 : ((xs.size : Int) - 1 + (k : Int) * (-1)).toNat = xs.size - 1 - k := by omega
      simp only [List.filterMap_cons, List.filterMap_nil, e2]
      have hlt2 : xs.size - 1 - k < xs.size := by omega
      rw [Array.getElem?_eq_getElem hlt2]
      simp
  have := e xs.size (Nat.le_refl _)
  rw [Nat.sub_self, List.drop_zero] at this
  exact this
theorem item_back {t sl : Addr} {items : Array Value} {vl vu vk : Value} {Q : Value → Shared → Prop} (ht : IsTup s.heap t items) (hs : s.heap.IsSliceOf sl vl vu vk) (pl : IsPart vl none) (pu : IsPart vu none) (pk : IsPart vk (some (-1)))
    (h : Q (.ref s.heap.objs.size) { s with heap := s.heap.push { cls := .type "tuple", data := .seq items.toList.reverse.toArray } }) (hsz : items.size ≤ sizeLine) : wpAny (model prog w) A (getItem (.ref t) (.ref sl)) Q E s := by
  have hfit : sizeOk (.seq items.toList.reverse.toArray) := by
    show items.toList.reverse.toArray.size ≤ sizeLine
    rw [List.size_toArray, List.length_reverse, Array.length_toList]
    exact hsz
  obtain ⟨os, hos, hcs, hds⟩ := id hs
  have tySl : s.TypeIs (.ref sl) "slice" := ⟨os, hos, hcs⟩
  unfold getItem
  try with_reducible refine wpAny_holding ?_
  first | refine wpAny_bind (wpAny_pure ?_) | skip
  refine wpAny_bind (wpAny_sequenceKey ht.typeIs (by decide) ?_)
  refine wpAny_bind (wpAny_callSpecial?_slot (name := Str.ofString "__getitem__") ht.typeIs PyProof.Rows.slot_tuple_getitem
    (wpAny_call_entry PyProof.Rows.slot_tuple_getitem ht.typeIs entry_tuple_getitem ?_ (args_tuple_getitem _ _)))
  show wpAny _ _ (Builtin.Tuple.tupleItemsOf (.ref t) >>= _) _ _ s
  refine wpAny_bind (tupleItemsOf_ ht (wpAny_bind (wpAny_typeOf tySl ?_)))
  rw [if_pos (by decide)]
  refine wpAny_bind (applied_back hs pl pu pk ?_)
  show wpAny _ _ (if ((((items.size : Int) - 1) == 0 && (-1 : Int) == 1 && items.size == items.size)) = true then _ else _) _ _ s
  rw [if_neg (by simp), pick_back]
  first
    | exact wpAny_bind (m := Builtin.Tuple.tupleExact _) (wpAny_newObj_type (wpAny_pure ⟨_, rfl, wpAny_pure h⟩) hfit)
    | exact wpAny_bind (m := Builtin.Tuple.tupleExact _) (wpAny_newObj_type (wpAny_bind (wpAny_pure (wpAny_pure ⟨_, rfl, wpAny_pure h⟩))) hfit)
    | exact wpAny_bind (wpAny_bind (m := Builtin.Tuple.tupleExact _) (wpAny_newObj_type (wpAny_pure (wpAny_pure ⟨_, rfl, wpAny_pure h⟩)) hfit))
    | exact wpAny_bind (wpAny_bind (m := Builtin.Tuple.tupleExact _) (wpAny_newObj_type (wpAny_pure ⟨_, rfl, wpAny_pure h⟩) hfit))
end
section
variable {X : Cx}
def tRevT (K : PySem.W.Frag) (te : TE) : TE := fun σ H Q => te σ H fun x H1 => ∃ a xs, x = .ref a ∧ SqT K H1 a xs ∧ ∀ p, H1 p = none → Q (.ref p) (upd H1 p (.tup xs.reverse))
theorem pe_revT {e : Expr} {te : TE} {k : Nat} {p1 p2 p3 pos : Pos} (he : PE X e te) : PE X (.Subscript e (.Slice none none (some (.UnaryOp .USub (.Constant (.int 1) k p1) p2)) p3) pos) (tRevT X.K te) := by
  refine ⟨fun pins s σ H Q I h => ?_⟩
  refine Subscript_ (thn (he.run pins s σ H _ I h) fun v s1 ⟨x, H1, I1, r1, q1⟩ => ?_)
  obtain ⟨a, xs, ex, hx, q⟩ := q1
  subst ex
  cases r1
  have byOne : PO X (some (.UnaryOp .USub (.Constant (.int 1) k p1) p2)) (tPart (tUn (rU fun i => .int (-i)) (tC (.int 1)))) := po_some (pe_un un_neg pe_int)
  refine wpAny_Slice (thn (po_none.run pins s1 σ H1 (fun o H2 => o = none ∧ H2 = H1) I1 ⟨rfl, rfl⟩) fun vl s2 ⟨l, H2, I2, pl, el, e2⟩ => ?_)
  subst el e2
  refine thn (po_none.run pins s2 σ H2 (fun o H3 => o = none ∧ H3 = H2) I2 ⟨rfl, rfl⟩) fun vu s3 ⟨u, H3, I3, pu, eu, e3⟩ => ?_
  subst eu e3
  refine thn (byOne.run pins s3 σ H3 (fun o H4 => o = some (-1) ∧ H4 = H3) I3 ⟨1, rfl, -1, rfl, rfl, rfl⟩) fun vs s4 ⟨o, H4, I4, ps, eo, e4⟩ => ?_
  subst eo e4
  have I5 : Inv X pins σ H4 { s4 with heap := s4.heap.push { cls := .type "slice", data := .fields #[vl, vu, vs] } } := I4.kept (t' := s4.toks) fun b ob q => Heap.get?_push_of_some _ q
  obtain ⟨its, r, ht, hz⟩ := I5.tuple hx
  have hlen := r.length
  show wpAny (model X.prog X.w) X.A (subscriptTail e (.Slice none none (some (.UnaryOp .USub (.Constant (.int 1) k p1) p2)) p3) (.ref a) (.ref s4.heap.objs.size)) (EP X pins σ Q) X.xe { s4 with heap := s4.heap.push { cls := .type "slice", data := .fields #[vl, vu, vs] } }
  refine tail_any (ops := [.ref a, .ref s4.heap.objs.size]) ht.typeIs (PyProof.Rows.slot_tuple_getitem.lookup) ?_ (by with_unfolding_all rfl)
  refine item_back ht (Heap.IsSliceOf.new _ vl vu vs) pl pu ps ?_ (by rw [List.size_toArray]; omega)
  refine ⟨.ref _, _, I5.laid (t' := s4.toks) (o := .tup xs.reverse) (fun b ob q => Heap.get?_push_of_some _ q) (Nat.le_refl _) ?_, rfl, q _ (I5.hok.fresh (Nat.le_refl _))⟩
  exact ⟨by rw [List.length_reverse]; exact hz, _, r.reverse, IsTup.new _ _⟩
def txt (b : Bool) : Str := if b then "True" else "False"
theorem call_repr_bl : CallR X (.builtin "repr") (fun xs H Q => ∃ b, xs = [.bl b] ∧ Q (.str (txt b)) H) := by
  intro pins s σ H xs us Q I r h
  obtain ⟨b, rfl, q⟩ := h
  obtain ⟨u, rfl, e⟩ := vals1 r
  cases e
  exact PySem.P.repr_of_bool ⟨.str (txt b), H, I.tok _, ⟨_, rfl⟩, q⟩
end
end TK

set_option maxRecDepth 100000
/-! rows beside rows -/
namespace TK
open PySem PySem.Spec PyProof.Rows L2
def tkD (ec : Int × Int) : PyData := .tuple [.int ec.1, .int ec.2]
theorem dp_tk {K : PySem.W.Frag} {H : Hp} {t : Addr} {ec : Int × Int} (h : H t = some (.tup [.int ec.1, .int ec.2])) : Dp K H (.ref t) (tkD ec) := .tup (st_of h) (.cons (.int _) (.cons (.int _) .nil))
theorem all_tks {K : PySem.W.Frag} {H : Hp} : ∀ (ts : List Addr) (r : List (Int × Int)), ts.length = r.length → (∀ (i : Nat) (t : Addr) (ec : Int × Int), ts[i]? = some t → r[i]? = some ec → H t = some (.tup [.int ec.1, .int ec.2])) → DpAll K H (ts.map V.ref) (r.map tkD)
  | [], [], _, _ => .nil
  | [], _ :: _, h, _ => by cases h
  | _ :: _, [], h, _ => by cases h
  | t :: ts, f :: ps, h, h3 => .cons (dp_tk (h3 0 t f rfl rfl)) (all_tks ts ps (Nat.succ.inj h) fun i u g a b => h3 (i + 1) u g (by simpa using a) (by simpa using b))
theorem dp_row {K : PySem.W.Frag} {H : Hp} {q : Addr} {r : List (Int × Int)} (h : RowAt H q r) : Dp K H (.ref q) (.tuple (r.map tkD)) := by
  obtain ⟨ts, h1, h2, h3⟩ := h
  exact .tup (st_of h1) (all_tks ts r h2 h3)
theorem lay_row : ∀ r : List (Int × Int), PyData.canLayAll0 (r.map tkD) = true
  | [] => rfl
  | f :: r => by
    show (PyData.canLay0 (tkD f) && PyData.canLayAll0 (r.map tkD)) = true
    rw [lay_row r]
    rfl
theorem deep_row : ∀ r : List (Int × Int), PyData.depthAll (r.map tkD) ≤ 1
  | [] => by show 0 ≤ 1; omega
  | f :: r => by
    have ih := deep_row r
    show max (PyData.depth (tkD f)) (PyData.depthAll (r.map tkD)) ≤ 1
    have : PyData.depth (tkD f) = 1 := rfl
    omega
theorem shp_row (r : List (Int × Int)) : SeqAt.shaped (.tuple (r.map tkD)) = true := by
  unfold SeqAt.shaped
  have h1 : PyData.canLay0 (.tuple (r.map tkD)) = true := lay_row r
  have h2 : PyData.depth (.tuple (r.map tkD)) ≤ 64 := by
    show PyData.depthAll (r.map tkD) + 1 ≤ 64
    have := deep_row r
    omega
  rw [h1, decide_eq_true h2]
  rfl
theorem eqv_tk (f g : Int × Int) : PyData.eqv (tkD f) (tkD g) = decide (f = g) := by
  unfold tkD
  rw [PyData.eqv, Bool.eq_iff_iff]
  simp [PyData.eqvAll, PyData.eqv, Prod.ext_iff]
theorem eqv_tks : ∀ (ps qs : List (Int × Int)), PyData.eqvAll (ps.map tkD) (qs.map tkD) = decide (ps = qs)
  | [], [] => rfl
  | [], _ :: _ => rfl
  | _ :: _, [] => rfl
  | f :: r, g :: q => by
    show (PyData.eqv (tkD f) (tkD g) && PyData.eqvAll (r.map tkD) (q.map tkD)) = _
    rw [eqv_tks r q, eqv_tk, Bool.eq_iff_iff]
    simp
theorem ne_rows {K : PySem.W.Frag} {H : Hp} {a b : Addr} {ps : List (Int × Int)} {Q : VK} (ha : RowAt H a ps) (hb : RowAt H b ps) (q : Q (.bl false) H) : rNeD K (.ref a) (.ref b) H Q := by
  refine ⟨_, _, dp_row ha, dp_row hb, shp_row ps, shp_row ps, ?_⟩
  rw [PyData.eqv, eqv_tks, decide_eq_true rfl]
  exact q
theorem eq_rowsF {K : PySem.W.Frag} {H : Hp} {a b : Addr} {ps qs : List (Int × Int)} {Q : VK} (ha : RowAt H a ps) (hb : RowAt H b qs) (hn : ps ≠ qs) (q : Q (.bl false) H) : rEqD K (.ref a) (.ref b) H Q := by
  refine ⟨_, _, dp_row ha, dp_row hb, shp_row ps, shp_row qs, ?_⟩
  rw [PyData.eqv, eqv_tks, decide_eq_false hn]
  exact q
end TK

namespace TK
/-- the first piece, of those that come to both, that just one of two takers takes -/
def tku (x y : Int × Int) : Option Int :=
  if x = y then none
  else if x.1 - x.2 ≠ y.1 - y.2 then some (min (x.1 - x.2) (y.1 - y.2))
  else some (x.1 - x.2 + min x.1 y.1)
/-- the piece that passes one taker as the m-th -/
def pass1 (x : Int × Int) (m : Int) : Int := m + (x.2 + m - 1) / (x.1 - 1)
def minO : Option Int → Option Int → Option Int
  | none, b => b
  | some a, none => some a
  | some a, some b => some (min a b)
/-- where two rows part -/
def partF : List (Int × Int) → List (Int × Int) → Option Int
  | x :: xs, y :: ys => minO (tku x y) ((partF xs ys).map (pass1 x))
  | _, _ => none
theorem pass1_eq (e c m : Int) (r : List (Int × Int)) : passF ((e, c) :: r) m = pass1 (e, c) (passF r m) := rfl
theorem pass1_lt {x : Int × Int} (ok : okT x) {m n : Int} (h : m < n) : pass1 x m < pass1 x n := by
  obtain ⟨o1, o2, o3, o4⟩ := ok
  have : (x.2 + m - 1) / (x.1 - 1) ≤ (x.2 + n - 1) / (x.1 - 1) := Int.ediv_le_ediv (by omega) (by omega)
  unfold pass1
  omega
theorem pass1_ge {x : Int × Int} (ok : okT x) {m : Int} (h : 1 ≤ m) : m ≤ pass1 x m := by
  obtain ⟨o1, o2, o3, o4⟩ := ok
  have : 0 ≤ (x.2 + m - 1) / (x.1 - 1) := Int.ediv_nonneg (by omega) (by omega)
  unfold pass1
  omega
/-- a taker takes the n-th piece that comes -/
def tk (x : Int × Int) (n : Int) : Prop := (x.2 + n) % x.1 = 0
theorem tk_first {x : Int × Int} (ok : okT x) {n : Int} (h1 : 1 ≤ n) (h2 : n < x.1 - x.2) : ¬ tk x n := by
  obtain ⟨o1, o2, o3, o4⟩ := ok
  unfold tk
  rw [Int.emod_eq_of_lt (by omega) (by omega)]
  omega
theorem tk_at {x : Int × Int} (ok : okT x) : tk x (x.1 - x.2) := by
  unfold tk
  rw [show x.2 + (x.1 - x.2) = x.1 by omega]
  exact Int.emod_self
theorem tk_second {x : Int × Int} (ok : okT x) {n : Int} (h1 : x.1 - x.2 < n) (h2 : n < x.1 - x.2 + x.1) : ¬ tk x n := by
  obtain ⟨o1, o2, o3, o4⟩ := ok
  unfold tk
  rw [show x.2 + n = (x.2 + n - x.1) + x.1 by omega, Int.add_emod_right, Int.emod_eq_of_lt (by omega) (by omega)]
  omega
theorem tk_at2 {x : Int × Int} (ok : okT x) : tk x (x.1 - x.2 + x.1) := by
  unfold tk
  rw [show x.2 + (x.1 - x.2 + x.1) = x.1 + x.1 by omega, Int.add_emod_right]
  exact Int.emod_self
theorem tku_none {x y : Int × Int} : tku x y = none ↔ x = y := by
  unfold tku
  constructor
  · intro h
    split at h
    · assumption
    · split at h <;> cases h
  · intro h
    rw [if_pos h]
/-- what tku tells -/
theorem tku_some {x y : Int × Int} (ox : okT x) (oy : okT y) {k : Int} (h : tku x y = some k) : 1 ≤ k ∧ ¬ (tk x k ↔ tk y k) ∧ ∀ n, 1 ≤ n → n < k → (tk x n ↔ tk y n) := by
  obtain ⟨a1, a2, a3, a4⟩ := id ox
  obtain ⟨b1, b2, b3, b4⟩ := id oy
  unfold tku at h
  split at h
  · cases h
  · rename_i hne
    split at h
    · rename_i hf
      have hk := Option.some.inj h
      rcases Int.lt_or_gt_of_ne hf with c | c
      · have e : k = x.1 - x.2 := by omega
        subst e
        refine ⟨by omega, ?_, ?_⟩
        · intro q
          exact tk_first oy (by omega) c (q.mp (tk_at ox))
        · intro n n1 n2
          exact ⟨fun q => absurd q (tk_first ox n1 n2), fun q => absurd q (tk_first oy n1 (by omega))⟩
      · have e : k = y.1 - y.2 := by omega
        subst e
        refine ⟨by omega, ?_, ?_⟩
        · intro q
          exact tk_first ox (by omega) c (q.mpr (tk_at oy))
        · intro n n1 n2
          exact ⟨fun q => absurd q (tk_first ox n1 (by omega)), fun q => absurd q (tk_first oy n1 n2)⟩
    · rename_i hf
      have hf : x.1 - x.2 = y.1 - y.2 := by omega
      have hk := Option.some.inj h
      have he : x.1 ≠ y.1 := fun e => hne (Prod.ext e (by omega))
      have low : ∀ n, 1 ≤ n → n < x.1 - x.2 + min x.1 y.1 → (tk x n ↔ tk y n) := by
        intro n n1 n2
        rcases Int.lt_trichotomy n (x.1 - x.2) with z | z | z
        · exact ⟨fun q => absurd q (tk_first ox n1 z), fun q => absurd q (tk_first oy n1 (by omega))⟩
        · constructor
          · intro _; rw [z, hf]; exact tk_at oy
          · intro _; rw [z]; exact tk_at ox
        · exact ⟨fun q => absurd q (tk_second ox z (by omega)), fun q => absurd q (tk_second oy (by omega) (by omega))⟩
      rcases Int.lt_or_gt_of_ne he with c | c
      · have e : k = x.1 - x.2 + x.1 := by omega
        rw [← hk]
        refine ⟨by omega, ?_, low⟩
        intro q
        rw [hk, e] at q
        exact tk_second oy (by omega) (by omega) (q.mp (tk_at2 ox))
      · have e : k = y.1 - y.2 + y.1 := by omega
        rw [← hk]
        refine ⟨by omega, ?_, low⟩
        intro q
        rw [hk, e] at q
        exact tk_second ox (by omega) (by omega) (q.mpr (tk_at2 oy))
/-- of the same pieces taken, the same number -/
theorem same_took {x y : Int × Int} (ox : okT x) (oy : okT y) : ∀ (n : Nat), (∀ m : Int, 1 ≤ m → m ≤ n → (tk x m ↔ tk y m)) → (x.2 + n) / x.1 = (y.2 + n) / y.1
  | 0, _ => by
    obtain ⟨a1, a2, a3, a4⟩ := ox
    obtain ⟨b1, b2, b3, b4⟩ := oy
    rw [show x.2 + ((0 : Nat) : Int) = x.2 by omega, show y.2 + ((0 : Nat) : Int) = y.2 by omega, Int.ediv_eq_zero_of_lt (by omega) (by omega), Int.ediv_eq_zero_of_lt (by omega) (by omega)]
  | n + 1, h => by
    have ih := same_took ox oy n fun m m1 m2 => h m m1 (by omega)
    have ht := h ((n : Int) + 1) (by omega) (by omega)
    obtain ⟨a1, a2, a3, a4⟩ := ox
    obtain ⟨b1, b2, b3, b4⟩ := oy
    unfold tk at ht
    rw [show x.2 + ((n : Int) + 1) = x.2 + n + 1 by omega, show y.2 + ((n : Int) + 1) = y.2 + n + 1 by omega] at ht
    rw [show x.2 + ((n + 1 : Nat) : Int) = x.2 + n + 1 by omega, show y.2 + ((n + 1 : Nat) : Int) = y.2 + n + 1 by omega]
    by_cases q : (x.2 + n + 1) % x.1 = 0
    · rw [div_step0 (by omega) q, div_step0 (by omega) (ht.mp q), ih]
    · rw [div_stepN (by omega) q, div_stepN (by omega) (fun z => q (ht.mpr z)), ih]
theorem come_pos {e c n : Int} (ok : okT (e, c)) (hn : 1 ≤ n) (h : (c + n) % e ≠ 0) : 1 ≤ n - (c + n) / e := by
  obtain ⟨o1, o2, o3, o4⟩ := ok
  simp only at o1 o2 o3 o4
  have pb := pass_back (c := c) (n := n) o1 h
  rcases Int.lt_or_le 0 (n - (c + n) / e) with z | z
  · omega
  · have : (c + (n - (c + n) / e) - 1) / (e - 1) ≤ 0 := by
      have : (c + (n - (c + n) / e) - 1) / (e - 1) < 1 := Int.ediv_lt_of_lt_mul (by omega) (by omega)
      omega
    omega
theorem who_cons {e c : Int} {r : List (Int × Int)} {n : Int} : whoF ((e, c) :: r) n = if (c + n) % e = 0 then some 0 else (whoF r (n - (c + n) / e)).map (· + 1) := rfl
theorem map1_inj {a b : Option Nat} (h : a.map (· + 1) = b.map (· + 1)) : a = b := by
  cases a <;> cases b <;> simp at h ⊢ <;> exact h
/-- n is the first piece by which two rows part -/
structure Parts (a b : List (Int × Int)) (n : Int) : Prop where
  pos : 1 ≤ n
  ne : whoF a n ≠ whoF b n
  low : ∀ m, 1 ≤ m → m < n → whoF a m = whoF b m
theorem Parts.symm {a b : List (Int × Int)} {n : Int} (h : Parts a b n) : Parts b a n := ⟨h.pos, fun z => h.ne z.symm, fun m h1 h2 => (h.low m h1 h2).symm⟩
theorem Parts.uniq {a b : List (Int × Int)} {n m : Int} (h : Parts a b n) (g : Parts a b m) : n = m := by
  rcases Int.lt_trichotomy n m with z | z | z
  · exact absurd (g.low n h.pos z) h.ne
  · exact z
  · exact absurd (h.low m g.pos z) g.ne
theorem same_took' {x y : Int × Int} (ox : okT x) (oy : okT y) {n : Int} (hn : 0 ≤ n) (h : ∀ m : Int, 1 ≤ m → m ≤ n → (tk x m ↔ tk y m)) : (x.2 + n) / x.1 = (y.2 + n) / y.1 := by
  have := same_took ox oy n.toNat (fun m m1 m2 => h m m1 (by omega))
  rwa [show ((n.toNat : Nat) : Int) = n by omega] at this
/-- ahead of where the heads part -/
theorem who_head {x y : Int × Int} {xs ys : List (Int × Int)} (ox : okT x) (oy : okT y) {n : Int} (hn : 1 ≤ n) (h : ∀ m : Int, 1 ≤ m → m ≤ n → (tk x m ↔ tk y m)) :
    (tk x n ∧ whoF (x :: xs) n = some 0 ∧ whoF (y :: ys) n = some 0) ∨ (¬ tk x n ∧ whoF (x :: xs) n = (whoF xs (n - (x.2 + n) / x.1)).map (· + 1) ∧ whoF (y :: ys) n = (whoF ys (n - (x.2 + n) / x.1)).map (· + 1)) := by
  obtain ⟨e, c⟩ := x
  obtain ⟨e', c'⟩ := y
  have hs := same_took' ox oy (by omega) h
  have ht := h n hn (Int.le_refl _)
  unfold tk at ht
  simp only at hs ht
  by_cases q : (c + n) % e = 0
  · exact .inl ⟨q, by rw [who_cons, if_pos q], by rw [who_cons, if_pos (ht.mp q)]⟩
  · exact .inr ⟨q, by rw [who_cons, if_neg q], by rw [who_cons, if_neg (fun z => q (ht.mpr z)), ← hs]⟩
theorem part_spec : ∀ (a b : List (Int × Int)), a.length = b.length → (∀ ec ∈ a, okT ec) → (∀ ec ∈ b, okT ec) → (partF a b = none → a = b) ∧ ∀ n, partF a b = some n → Parts a b n
  | [], [], _, _, _ => ⟨fun _ => rfl, fun n h => by cases h⟩
  | [], _ :: _, h, _, _ => by cases h
  | _ :: _, [], h, _, _ => by cases h
  | x :: xs, y :: ys, hl, oa, ob => by
    have ox := oa x List.mem_cons_self
    have oy := ob y List.mem_cons_self
    obtain ⟨i1, i2⟩ := part_spec xs ys (Nat.succ.inj hl) (fun z hz => oa z (List.mem_cons_of_mem _ hz)) (fun z hz => ob z (List.mem_cons_of_mem _ hz))
    have behind : ∀ (m : Int), Parts xs ys m → (∀ n : Int, 1 ≤ n → n ≤ pass1 x m → (tk x n ↔ tk y n)) → Parts (x :: xs) (y :: ys) (pass1 x m) := by
      intro m pm hh
      have p1 := pass1_ge ox pm.pos
      have nt : ¬ tk x (pass1 x m) ∧ pass1 x m - (x.2 + pass1 x m) / x.1 = m := by
        obtain ⟨q1, q2⟩ := pass_one (c := x.2) (m := m) ox.1 (pass1 x m) rfl
        exact ⟨q2, by rw [q1]; omega⟩
      refine ⟨by have := pm.pos; omega, ?_, ?_⟩
      · rcases who_head (xs := xs) (ys := ys) ox oy (by have := pm.pos; omega) hh with ⟨c1, c2, c3⟩ | ⟨c1, c2, c3⟩
        · exact absurd c1 nt.1
        · rw [c2, c3, nt.2]
          exact fun z => pm.ne (map1_inj z)
      · intro n n1 n2
        rcases who_head (xs := xs) (ys := ys) ox oy n1 (fun k k1 k2 => hh k k1 (by omega)) with ⟨c1, c2, c3⟩ | ⟨c1, c2, c3⟩
        · rw [c2, c3]
        · rw [c2, c3]
          have cp := come_pos (e := x.1) (c := x.2) ox n1 c1
          have pb := pass_back (c := x.2) (n := n) ox.1 c1
          rw [pm.low _ cp ?_]
          rcases Int.lt_or_le (n - (x.2 + n) / x.1) m with z | z
          · exact z
          · have : pass1 x m ≤ pass1 x (n - (x.2 + n) / x.1) := by
              rcases Int.lt_or_eq_of_le z with w | w
              · exact Int.le_of_lt (pass1_lt ox w)
              · rw [w]; exact Int.le_refl _
            unfold pass1 at this n2
            omega
    have ahead : ∀ (k : Int), tku x y = some k → (∀ m, Parts xs ys m → k ≤ pass1 x m) → (xs ≠ ys → ∃ m, Parts xs ys m) → Parts (x :: xs) (y :: ys) k := by
      intro k hk hm hx
      obtain ⟨k1, k2, k3⟩ := tku_some ox oy hk
      refine ⟨k1, ?_, ?_⟩
      · intro z
        obtain ⟨e, c⟩ := x
        obtain ⟨e', c'⟩ := y
        unfold tk at k2
        simp only at k2
        rw [who_cons, who_cons] at z
        by_cases q : (c + k) % e = 0
        · have q' : ¬ (c' + k) % e' = 0 := fun w => k2 ⟨fun _ => w, fun _ => q⟩
          rw [if_pos q, if_neg q'] at z
          cases w : whoF ys (k - (c' + k) / e') <;> rw [w] at z <;> simp at z
        · have q' : (c' + k) % e' = 0 := by
            by_cases w : (c' + k) % e' = 0
            · exact w
            · exact absurd ⟨fun u => absurd u q, fun u => absurd u w⟩ k2
          rw [if_pos q', if_neg q] at z
          cases w : whoF xs (k - (c + k) / e) <;> rw [w] at z <;> simp at z
      · intro n n1 n2
        rcases who_head (xs := xs) (ys := ys) ox oy n1 (fun j j1 j2 => k3 j j1 (by omega)) with ⟨c1, c2, c3⟩ | ⟨c1, c2, c3⟩
        · rw [c2, c3]
        · rw [c2, c3]
          by_cases hxy : xs = ys
          · rw [hxy]
          · obtain ⟨m, pm⟩ := hx hxy
            have cp := come_pos (e := x.1) (c := x.2) ox n1 c1
            have pb := pass_back (c := x.2) (n := n) ox.1 c1
            rw [pm.low _ cp ?_]
            have km := hm m pm
            rcases Int.lt_or_le (n - (x.2 + n) / x.1) m with z | z
            · exact z
            · have : pass1 x m ≤ pass1 x (n - (x.2 + n) / x.1) := by
                rcases Int.lt_or_eq_of_le z with w | w
                · exact Int.le_of_lt (pass1_lt ox w)
                · rw [w]; exact Int.le_refl _
              unfold pass1 at this km
              omega
    show (minO (tku x y) ((partF xs ys).map (pass1 x)) = none → _) ∧ ∀ n, minO (tku x y) ((partF xs ys).map (pass1 x)) = some n → _
    cases hk : tku x y with
    | none =>
      have exy := tku_none.mp hk
      subst exy
      cases hp : partF xs ys with
      | none =>
        rw [i1 hp]
        exact ⟨fun _ => rfl, fun n h => by cases h⟩
      | some m =>
        refine ⟨fun h => (by cases h), fun n h => ?_⟩
        have e := Option.some.inj h
        subst e
        exact behind m (i2 m hp) fun _ _ _ => Iff.rfl
    | some k =>
      obtain ⟨k1, k2, k3⟩ := tku_some ox oy hk
      cases hp : partF xs ys with
      | none =>
        refine ⟨fun h => (by cases h), fun n h => ?_⟩
        have e := Option.some.inj h
        subst e
        have exs := i1 hp
        subst exs
        exact ahead k hk (fun m pm => absurd rfl pm.ne) fun z => absurd rfl z
      | some m =>
        refine ⟨fun h => (by cases h), fun n h => ?_⟩
        have e : min k (pass1 x m) = n := Option.some.inj h
        have pm := i2 m hp
        rcases Int.lt_or_le (pass1 x m) k with z | z
        · have e2 : n = pass1 x m := by omega
          subst e2
          exact behind m pm fun j j1 j2 => k3 j j1 (by omega)
        · have e2 : n = k := by omega
          subst e2
          exact ahead _ hk (fun m' pm' => by rw [← pm.uniq pm']; exact z) fun _ => ⟨m, pm⟩
theorem part_none {a b : List (Int × Int)} (hl : a.length = b.length) (oa : ∀ ec ∈ a, okT ec) (ob : ∀ ec ∈ b, okT ec) : partF a b = none ↔ a = b := by
  constructor
  · exact (part_spec a b hl oa ob).1
  · intro h
    subst h
    cases hp : partF a a with
    | none => rfl
    | some n => exact absurd rfl ((part_spec a a rfl oa ob).2 n hp).ne
theorem part_some {a b : List (Int × Int)} (hl : a.length = b.length) (oa : ∀ ec ∈ a, okT ec) (ob : ∀ ec ∈ b, okT ec) {n : Int} (h : partF a b = some n) : Parts a b n := (part_spec a b hl oa ob).2 n h
theorem part_comm {a b : List (Int × Int)} (hl : a.length = b.length) (oa : ∀ ec ∈ a, okT ec) (ob : ∀ ec ∈ b, okT ec) : partF a b = partF b a := by
  cases h1 : partF a b with
  | none =>
    have e := (part_none hl oa ob).mp h1
    exact ((part_none hl.symm ob oa).mpr e.symm).symm
  | some n =>
    have p1 := part_some hl oa ob h1
    cases h2 : partF b a with
    | none =>
      have e := (part_none hl.symm ob oa).mp h2
      rw [e] at p1
      exact absurd rfl p1.ne
    | some m => rw [p1.uniq (part_some hl.symm ob oa h2).symm]
/-- three rows: two of the three numbers are the least -/
theorem part_three {a b c : List (Int × Int)} {n : Int} (h : Parts a b n) : (∃ m, Parts a c m ∧ m ≤ n) ∨ ∃ m, Parts b c m ∧ m ≤ n := by
  by_cases q : whoF a n = whoF c n
  · have hb : whoF b n ≠ whoF c n := fun z => h.ne (q.trans z.symm)
    exact .inr (least hb h.pos)
  · exact .inl (least q h.pos)
where
  least {a b : List (Int × Int)} {n : Int} (h : whoF a n ≠ whoF b n) (hp : 1 ≤ n) : ∃ m, Parts a b m ∧ m ≤ n := by
    have key : ∀ k : Nat, (∃ m, Parts a b m ∧ m ≤ k) ∨ ∀ m : Int, 1 ≤ m → m ≤ k → whoF a m = whoF b m := by
      intro k
      induction k with
      | zero => exact .inr fun m h1 h2 => by omega
      | succ k ih =>
        rcases ih with ⟨m, pm, hm⟩ | ih
        · exact .inl ⟨m, pm, by omega⟩
        · by_cases q : whoF a ((k : Int) + 1) = whoF b ((k : Int) + 1)
          · refine .inr fun m h1 h2 => ?_
            rcases Int.lt_or_eq_of_le h2 with z | z
            · exact ih m h1 (by omega)
            · rw [z]; exact q
          · exact .inl ⟨(k : Int) + 1, ⟨by omega, q, fun m h1 h2 => ih m h1 (by omega)⟩, by omega⟩
    rcases key n.toNat with ⟨m, pm, hm⟩ | hk
    · exact ⟨m, pm, by omega⟩
    · exact absurd (hk n hp (by omega)) h
theorem Parts.taken {a b : List (Int × Int)} {n : Int} (h : Parts a b n) (hl : a.length = b.length) (oa : ∀ ec ∈ a, okT ec) (ob : ∀ ec ∈ b, okT ec) : takenF a (n - 1) = takenF b (n - 1) := by
  have hs : seenF a (n - 1).toNat = seenF b (n - 1).toNat := by
    unfold seenF
    apply List.map_congr_left
    intro k hk
    have := List.mem_range.mp hk
    exact h.low _ (by omega) (by omega)
  have e : (((n - 1).toNat : Nat) : Int) = n - 1 := by have := h.pos; omega
  apply List.ext_getElem?
  intro i
  by_cases hi : i < a.length + 1
  · obtain ⟨o, ho, hso⟩ : ∃ o : Option Nat, (∀ j, o = some j → j < a.length) ∧ slot a o = i := by
      by_cases q : i = a.length
      · exact ⟨none, (fun j hj => by cases hj), q.symm⟩
      · exact ⟨some i, (fun j hj => by cases hj; omega), rfl⟩
    have hsb : slot b o = i := by rw [← hso]; cases o <;> simp [slot, hl]
    have t1 := taken_count a oa o ho (n - 1).toNat
    have t2 := taken_count b ob o (by rw [← hl]; exact ho) (n - 1).toNat
    rw [e, hso] at t1
    rw [e, hsb] at t2
    rw [t1, t2, hs]
  · rw [List.getElem?_eq_none (by rw [len_takenF]; omega), List.getElem?_eq_none (by rw [len_takenF]; omega)]
end TK

namespace TK
/-- of the first k places the pieces by which two rows part there -/
def pcAt (a b : List (Int × Int)) (j : Nat) : Option Int := match a[j]?, b[j]? with
  | some x, some y => (tku x y).map (passF (a.take j))
  | _, _ => none
def pcsF (a b : List (Int × Int)) (k : Nat) : List Int := (List.range k).filterMap (pcAt a b)
theorem pcs_succ (a b : List (Int × Int)) (k : Nat) : pcsF a b (k + 1) = pcsF a b k ++ (pcAt a b k).toList := by
  unfold pcsF
  rw [List.range_succ, List.filterMap_append]
  congr 1
theorem pcs_len (a b : List (Int × Int)) (k : Nat) : (pcsF a b k).length ≤ k := by
  have := List.length_filterMap_le (pcAt a b) (List.range k)
  rw [List.length_range] at this
  exact this
theorem pcAt_cons (x y : Int × Int) (xs ys : List (Int × Int)) (j : Nat) : pcAt (x :: xs) (y :: ys) (j + 1) = (pcAt xs ys j).map (pass1 x) := by
  unfold pcAt
  simp only [List.getElem?_cons_succ]
  cases xs[j]? with
  | none => rfl
  | some u =>
    cases ys[j]? with
    | none => rfl
    | some v =>
      simp only [Option.map_map]
      rfl
theorem pcs_cons (x y : Int × Int) (xs ys : List (Int × Int)) (k : Nat) : pcsF (x :: xs) (y :: ys) (k + 1) = (tku x y).toList ++ (pcsF xs ys k).map (pass1 x) := by
  unfold pcsF
  rw [List.range_succ_eq_map, List.filterMap_cons, List.filterMap_map]
  have e : (pcAt (x :: xs) (y :: ys) ∘ Nat.succ) = fun j => (pcAt xs ys j).map (pass1 x) := by
    funext j
    exact pcAt_cons x y xs ys j
  rw [e]
  have e2 : List.filterMap (fun j => (pcAt xs ys j).map (pass1 x)) (List.range k) = ((List.range k).filterMap (pcAt xs ys)).map (pass1 x) := by
    rw [List.map_filterMap]
  rw [e2]
  have e3 : pcAt (x :: xs) (y :: ys) 0 = tku x y := by
    show (tku x y).map (passF []) = tku x y
    cases tku x y <;> rfl
  rw [e3]
  cases tku x y <;> rfl
def IsMin (L : List Int) (o : Option Int) : Prop := match o with
  | none => L = []
  | some m => m ∈ L ∧ ∀ y ∈ L, m ≤ y
theorem part_isMin : ∀ (a b : List (Int × Int)), a.length = b.length → (∀ ec ∈ a, okT ec) → IsMin (pcsF a b a.length) (partF a b)
  | [], [], _, _ => rfl
  | [], _ :: _, h, _ => by cases h
  | _ :: _, [], h, _ => by cases h
  | x :: xs, y :: ys, hl, oa => by
    have ox := oa x List.mem_cons_self
    have ih := part_isMin xs ys (Nat.succ.inj hl) (fun z hz => oa z (List.mem_cons_of_mem _ hz))
    have mono : ∀ p q : Int, p ≤ q → pass1 x p ≤ pass1 x q := fun p q h => by
      rcases Int.lt_or_eq_of_le h with z | z
      · exact Int.le_of_lt (pass1_lt ox z)
      · rw [z]; exact Int.le_refl _
    rw [List.length_cons, pcs_cons]
    show IsMin _ (minO (tku x y) ((partF xs ys).map (pass1 x)))
    cases hp : partF xs ys with
    | none =>
      rw [hp] at ih
      have ih : pcsF xs ys xs.length = [] := ih
      rw [ih]
      cases tku x y with
      | none => rfl
      | some k => exact ⟨List.mem_cons_self, fun z hz => by rw [List.mem_singleton.mp hz]; exact Int.le_refl _⟩
    | some m =>
      rw [hp] at ih
      obtain ⟨i1, i2⟩ := ih
      have j2 : ∀ z ∈ (pcsF xs ys xs.length).map (pass1 x), pass1 x m ≤ z := fun z hz => by
        obtain ⟨w, hw, rfl⟩ := List.mem_map.mp hz
        exact mono _ _ (i2 w hw)
      have j1 : pass1 x m ∈ (pcsF xs ys xs.length).map (pass1 x) := List.mem_map.mpr ⟨m, i1, rfl⟩
      cases tku x y with
      | none => exact ⟨j1, j2⟩
      | some k =>
        refine ⟨?_, fun z hz => ?_⟩
        · rcases Int.lt_or_le (pass1 x m) k with c | c
          · rw [show min k (pass1 x m) = pass1 x m by omega]
            exact List.mem_cons_of_mem _ j1
          · rw [show min k (pass1 x m) = k by omega]
            exact List.mem_cons_self
        · rcases List.mem_cons.mp hz with c | c
          · omega
          · have := j2 z c
            omega
theorem isMin_nil {L : List Int} {o : Option Int} (h : IsMin L o) (e : L = []) : o = none := by
  cases o with
  | none => rfl
  | some m =>
    obtain ⟨h1, _⟩ := h
    rw [e] at h1
    cases h1
theorem isMin_uniq {L : List Int} {o : Option Int} (h : IsMin L o) {m : Int} (h1 : m ∈ L) (h2 : ∀ y ∈ L, m ≤ y) : o = some m := by
  cases o with
  | none =>
    have h : L = [] := h
    rw [h] at h1
    cases h1
  | some k =>
    obtain ⟨g1, g2⟩ := h
    have := g2 m h1
    have := h2 k g1
    congr 1
    omega
end TK

set_option maxRecDepth 100000
/-! min(xs, default=d), ints -/
namespace TK
open PySem PySem.Spec PyProof.Rows L2
section
variable {prog : Program} {w : World} {A : Around} {E : Value → Shared → Prop} {s : Shared} {l : Addr} {its : List Value} {ns : List Int} {Q : Value → Shared → Prop}
theorem minDef_raw {d : Value} (hh : A.handled = none) (hl : s.heap.IsList l its.toArray) (hi : IntsAre its ns)
    (h0 : ns = [] → ∀ h' tk, (∀ b o, s.heap.get? b = some o → h'.get? b = some o) → Q d { s with heap := h', toks := tk })
    (h : ∀ h' tk M t', (∀ b o, s.heap.get? b = some o → h'.get? b = some o) → M ∈ ns → (∀ a, a ∈ ns → M ≤ a) → Q (.int M t') { s with heap := h', toks := tk }) :
    wpAny (model prog w) A (call (.builtin "min") [.ref l] [(Str.ofString "default", d)]) Q E s := by
  obtain ⟨xs, e⟩ := hi.allInts.items
  have hn : numsOf (intItems xs).toList = ns := by rw [← e]; exact hi.numsOf
  rw [nums_intItems] at hn
  subst hn
  rw [e] at hl
  have hsz : (intItems xs).size = xs.size := by simp [intItems]
  refine call_min_walkD (PySem.W.iter_listW (A := A.in1) hh hl fun s₂ e W st hfp hw hk => ?_)
  refine ⟨_, _, _, _, _, _, _, s.heap, (fun i j => decide (numAt xs i < numAt xs j)), rfl, W, st, hfp, hw, hk, fun hz s' m => ?_, fun hp => ⟨fun i j vi vj s Q E _ hi hj hq => CmpOf.ints_lt (numAt xs) (fun _ _ => intItems_at) i j vi vj s Q E hi hj hq, fun v s' hP m => ?_⟩⟩
  · obtain ⟨h', tk, rfl, hk'⟩ := PySem.W.moved_old e rfl m
    refine h0 (List.eq_nil_of_length_eq_zero ?_) h' tk hk'
    rw [List.length_map, Array.length_toList]
    omega
  · obtain ⟨h', tk, rfl, hk'⟩ := PySem.W.moved_old e rfl m
    have hsz0 : 0 < xs.size := by omega
    rw [hsz] at hP
    obtain ⟨t, rfl⟩ := intItems_at hP
    obtain ⟨h1, h2⟩ := argBest_lt (numAt xs) (xs.size - 1)
    refine h h' tk _ t hk' ?_ fun a ha => ?_
    · rw [numAt_eq]; exact PySem.getD_mem (by rw [List.length_map, Array.length_toList]; omega)
    · obtain ⟨j, hj, rfl⟩ := mem_getD ha
      rw [List.length_map, Array.length_toList] at hj
      rw [← numAt_eq]; exact h2 j (by omega)
end
section
variable {X : Cx}
def rMinDef (K : PySem.W.Frag) : List V → List V → Hp → VK → Prop := fun vs zs H Q => ∃ (a : Addr) (ns : List Int) (d : V), vs = [V.ref a] ∧ zs = [d] ∧ SqL K H a (ns.map V.int) ∧ (ns = [] → Q d H) ∧ ∀ m, m ∈ ns → (∀ y, y ∈ ns → m ≤ y) → Q (.int m) H
theorem cr_minDef (hc : X.calm = true) : CallRK X (.builtin "min") [Str.ofString "default"] (rMinDef X.K) := by
  intro pins s σ H vs zs us ws Q I r rz h
  obtain ⟨a, ns, d, rfl, rfl, hs, q0, q⟩ := h
  obtain ⟨its, rv, hl, _⟩ := I.list hs
  rw [Vals.ref1 r]
  obtain ⟨u, rfl, ru⟩ := rz.one
  exact minDef_raw (I.ok.hd hc) hl.isList rv.ints (fun e h' tk hk => ⟨d, H, I.kept hk, ru, q0 e⟩) fun h' tk m t' hk h1 h2 => ⟨.int _, H, I.kept hk, ⟨_, rfl⟩, q m h1 h2⟩
end
end TK

set_option maxRecDepth 100000
set_option maxHeartbeats 2000000
/-! in an except suite: a comprehension over a list, its target a tuple -/
namespace TK
open PySem PySem.Spec PyProof.Rows L2 HotX
section
variable {prog : Program} {w : World} {A : Around} {E : Value → Shared → Prop} {s : Shared}
/-- the end of a walk, where an exception is handled: what the model does behind the iterator's last step -/
theorem stop_hot {x1 : Addr} {Q : Fin → Shared → Prop} (hot : HotAt A x1 s.heap) (hE : ∀ h' a, (∀ b o, s.heap.get? b = some o → h'.get? b = some o) → (∃ oe : Obj, h'.get? a = some oe ∧ oe.cls = .type "StopIteration") → E (.ref a) { s with heap := h' }) :
    wpAny (model prog w) A Builtin.SmallTypes.stopIteration Q E s := by
  obtain ⟨hh, o1, vs1, h1, d1, c1⟩ := hot
  show wpAny _ _ (newExc (.type "StopIteration") [] >>= _) _ _ _
  refine wpAny_bind ?_
  simp only [newExc, newTuple]
  refine wpAny_bind (wpAny_newObj_type ?_ (by size_fits))
  refine wpAny_bind (m := firstArgMember _ _) (wpAny_of_eq (a := Value.none) (by first | rfl | (simp only [firstArgMember]; rfl)) ?_)
  refine wpAny_newObj_type ?_ (by size_fits)
  refine raiseNew_hot ⟨hh, o1, vs1, Heap.get?_push_of_some _ (Heap.get?_push_of_some _ h1), d1, c1⟩ (Nat.ne_of_lt (Heap.lt_size (Heap.get?_push_of_some _ h1))) (Heap.get?_push_size _ rfl) rfl (by first | (simp; done) | (simp; omega) | (simp only [Array.size_append]; simp; omega)) ?_
  refine hE _ _ (fun b o e => ?_) ⟨_, Heap.get?_update_self _ (Heap.get?_push_size _ rfl) rfl, rfl⟩
  rw [Heap.get?_update_other _ _ (Nat.ne_of_gt (Heap.lt_size (Heap.get?_push_of_some _ e)))]
  exact Heap.get?_push_of_some _ (Heap.get?_push_of_some _ e)
theorem ne_iter {x1 it : Addr} {o : Obj} {p q : Value} (hot : HotAt A x1 s.heap) (ho : s.heap.get? it = some o) (hd : o.data = .fields #[p, q]) : x1 ≠ it := fun z => by
  obtain ⟨_, o1, vs1, h1, d1, c1⟩ := hot
  rw [z, ho] at h1
  cases h1
  rw [hd] at d1
  cases d1
  simp at c1
theorem hot_upd {x1 it : Addr} {f : Obj → Obj} (hot : HotAt A x1 s.heap) (n : x1 ≠ it) : HotAt A x1 (s.heap.update it f) := by
  obtain ⟨hh, o1, vs1, h1, d1, c1⟩ := hot
  exact ⟨hh, o1, vs1, by rw [Heap.get?_update_other _ _ (Ne.symm n)]; exact h1, d1, c1⟩
theorem list_end_hot {it l x1 : Addr} {i : Nat} {items} {Q : Option Value → Shared → Prop} (hot : HotAt A x1 s.heap) (hit : s.heap.IsListIter it l i) (hl : s.heap.IsList l items) (hx : items[i]? = none)
    (hQ : ∀ h', Heap.ExtBut it s.heap h' → Q none { s with heap := h' }) : wpAny (model prog w) A (pyNext (.ref it)) Q E s := by
  obtain ⟨o, ho, hc, hd⟩ := id hit
  obtain ⟨ol, hol, _, nl, hdl⟩ := hl
  have nx := ne_iter hot ho hd
  unfold pyNext
  refine wpAny_bind (wpAny_attempt (wpAny_callSpecial?_slot (name := Str.ofString "__next__") hit.typeIs slot_listiter_next (wpAny_call_entry slot_listiter_next hit.typeIs entry_listiter_next ?_ (args_listiter_next _))))
  show wpAny _ _ (field (.ref it) 0 >>= _) _ _ s
  refine wpAny_bind (wpAny_field ho hd (x := .ref l) rfl ?_)
  show wpAny _ _ (if (Value.ref l == Value.none) = true then _ else _) _ _ s
  rw [if_neg (show ¬ ((Value.ref l == Value.none) = true) from Bool.false_ne_true)]
  show wpAny _ _ (field (.ref it) 1 >>= _) _ _ s
  refine wpAny_bind (wpAny_field ho hd (x := .int i 0) rfl ?_)
  show wpAny _ _ (seqItems? (.ref l) >>= _) _ _ s
  refine wpAny_bind (wpAny_seqItems hol hdl ?_)
  simp only [Int.toNat_natCast, hx]
  refine wpAny_bind (wpAny_rule (wpAny_bind (wpAny_setField ho hd (by simp) ?_)))
  refine stop_hot (A := A.in1) (x1 := x1) ?_ fun h' a k ha => ?_
  · exact hot_upd (A := A) hot nx
  obtain ⟨oe, he, hce⟩ := ha
  refine wpAny_bind (wpAny_isInstance (T := "StopIteration") (b := true) ⟨oe, he, hce⟩ isSubtype_stop ?_)
  refine wpAny_pure (hQ _ fun b ob nb e => k b ob ?_)
  rw [Heap.get?_update_other _ _ (Ne.symm nb)]
  exact e
theorem tup_end_hot {it t x1 : Addr} {i : Nat} {items} {Q : Option Value → Shared → Prop} (hot : HotAt A x1 s.heap) (hit : IsTupIter s.heap it t i) (ht : IsTup s.heap t items) (hx : items[i]? = none)
    (hQ : ∀ h', Heap.ExtBut it s.heap h' → Q none { s with heap := h' }) : wpAny (model prog w) A (pyNext (.ref it)) Q E s := by
  obtain ⟨o, ho, hc, hd⟩ := id hit
  obtain ⟨ol, hol, _, nl, hdl⟩ := ht
  have nx := ne_iter hot ho hd
  unfold pyNext
  refine wpAny_bind (wpAny_attempt (wpAny_callSpecial?_slot (name := Str.ofString "__next__") hit.typeIs slot_tupleiter_next (wpAny_call_entry slot_tupleiter_next hit.typeIs entry_tupleiter_next ?_ (args_tupleiter_next _))))
  show wpAny _ _ (field (.ref it) 0 >>= _) _ _ s
  refine wpAny_bind (wpAny_field ho hd (x := .ref t) rfl ?_)
  show wpAny _ _ (if (Value.ref t == Value.none) = true then _ else _) _ _ s
  rw [if_neg (show ¬ ((Value.ref t == Value.none) = true) from Bool.false_ne_true)]
  show wpAny _ _ (field (.ref it) 1 >>= _) _ _ s
  refine wpAny_bind (wpAny_field ho hd (x := .int i 0) rfl ?_)
  show wpAny _ _ (seqItems? (.ref t) >>= _) _ _ s
  refine wpAny_bind (wpAny_seqItems hol hdl ?_)
  simp only [Int.toNat_natCast, hx]
  refine wpAny_bind (wpAny_rule (wpAny_bind (wpAny_setField ho hd (by simp) ?_)))
  refine stop_hot (A := A.in1) (x1 := x1) ?_ fun h' a k ha => ?_
  · exact hot_upd (A := A) hot nx
  obtain ⟨oe, he, hce⟩ := ha
  refine wpAny_bind (wpAny_isInstance (T := "StopIteration") (b := true) ⟨oe, he, hce⟩ isSubtype_stop ?_)
  refine wpAny_pure (hQ _ fun b ob nb e => k b ob ?_)
  rw [Heap.get?_update_other _ _ (Ne.symm nb)]
  exact e
theorem unpack_hot {t x1 : Addr} {items : Array Value} {Q : List Value → Shared → Prop} (hot : HotAt A x1 s.heap) (ht : IsTup s.heap t items)
    (hQ : ∀ h', Heap.ExtBut s.heap.objs.size s.heap h' → Q items.toList { s with heap := h' }) : wpAny (model prog w) A (unpackItems (.ref t) items.size none) Q E s := by
  have hlt : t ≠ s.heap.objs.size := by obtain ⟨o, ho, _⟩ := ht; exact Nat.ne_of_lt (Heap.lt_size ho)
  obtain ⟨hh, o1, vs1, h1, d1, c1⟩ := hot
  unfold unpackItems notIterableAtAll
  refine wpAny_bind (wpAny_bind (wpAny_specialOf ht.typeIs slot_tuple_iter.lookup (wpAny_pure ?_)))
  simp only [Bool.false_eq_true, if_false]
  refine wpAny_bind (wpAny_holding (iter_tuple ht ?_))
  refine wpAny_bind (wpAny_holding (draw_tuple hlt items.size 0 _ _ ⟨_, Heap.get?_push_size _ rfl, rfl, rfl⟩ (ht.push _) (by omega) fun h₁ it1 s1 => ?_))
  rw [List.drop_zero, List.take_of_length_le (by simp), if_neg (by simp)]
  have t1 : IsTup h₁ t items := (ht.push _).extBut s1.extBut hlt
  have g1 : h₁.get? x1 = some o1 := s1.extBut x1 o1 (Nat.ne_of_lt (Heap.lt_size h1)) (Heap.get?_push_of_some _ h1)
  refine wpAny_bind (wpAny_holding (tup_end_hot (x1 := x1) ⟨hh, o1, vs1, g1, d1, c1⟩ it1 t1 (by simp) fun h₂ e2 => ?_))
  simp only [Option.isSome_none, Bool.false_eq_true, if_false]
  exact wpAny_pure (hQ h₂ fun b o hb e => e2 b o hb (s1.extBut b o hb (Heap.get?_push_of_some _ e)))
end
/-- wherever the context holds, an exception without context is handled -/
def HotB (X : Cx) : Prop := ∀ (pins : List (Addr × Obj)) (σ : L2.St) (H : Hp) (s : Shared), Inv X pins σ H s → ∃ x1, HotAt X.A x1 s.heap
theorem pg_tupH {X : Cx} {es : List Expr} {k : Nat} {t : TGs} {n : Nat} {pos : Pos} (hc : HotB X) (h : PGs X es t)
    (hn : (assignEach es X.env).length = n := by rfl) (hst : (assignEach es X.env).findIdx? (·.1) = none := by rfl) : PG X (.Tuple es k pos) (gTup X.K n t) := by
  refine ⟨fun pins s σ H v u Q I r hw => ?_⟩
  obtain ⟨a, xs, e1, hq, hl, hw⟩ := hw
  subst e1
  cases r
  obtain ⟨its, rv, ht, hz⟩ := I.tuple hq
  obtain ⟨x1, hot⟩ := hc pins σ H s I
  rw [assign_Tuple]
  refine wpAny_bind (wpAny_standAt ?_)
  unfold unpack
  rw [show (assignEach es X.env).length = its.toArray.size by simp [hn, ← hl, rv.length], hst]
  refine wpAny_bind (wpAny_holding (unpack_hot hot ht fun h' hx => ?_))
  have I1 : Inv X pins σ H { s with heap := h' } := I.kept (t' := s.toks) fun b o e => hx b o (Nat.ne_of_lt (Heap.lt_size e)) e
  exact h.run pins _ σ H xs _ Q I1 (by simpa using rv) hw
/-- the block of a comprehension is as hot -/
theorem blk_hot {X : Cx} {pins : List (Addr × Obj)} {σ : L2.St} {H : Hp} {s : Shared} {scope : Scope} {ce : Env} {fp : List Addr} (hot : L2H.HotC X) (I : Inv X pins σ H s) (hf : ∀ b ∈ fp, FpOk X pins H b) : HotB (X.blk s H scope ce fp) := by
  intro pins' σ' H' s' I'
  obtain ⟨p, ⟨hh, vs, d, c⟩, hp⟩ := hot
  obtain ⟨g, n, nl, nf, nc⟩ := I.pin p (List.mem_append_left _ hp)
  have nst : p.1 ∉ frs X.stack := fun z => by
    rcases List.mem_cons.mp (I.stkSub _ z) with e | e
    · exact nl e
    · exact nf e
  have nfp : p.1 ∉ fp := fun z => (hf _ z).2.2.2.2.2 p (List.mem_append_left _ hp) rfl
  exact ⟨p.1, hh, p.2, vs, I'.base.keep p.1 p.2 g n nst nfp, d, c⟩
/-- [e for a, b in l if t] in an except suite -/
theorem pe_lcH {X : Cx} {K : PySem.W.Frag} {elt tg l : Expr} {ifs : List Expr} {scope : Scope} {own : List (Str × Nat)} {pos : Pos} {tl : TE} {g : TG} {tt : TT} {te : TE} (hN : X.N.Nodup) (hl : PE X l tl) (ok : BlkOk X.N X.env.scope scope own)
    (hg : ∀ (s : Shared) (H : Hp) (C : Addr) (cl : List (Str × Addr)) (fp : List Addr), HotB (X.blk s H scope (compEnvC scope cl C X.env) fp) → PG (X.blk s H scope (compEnvC scope cl C X.env) fp) tg g)
    (ht : ∀ (s : Shared) (H : Hp) (C : Addr) (cl : List (Str × Addr)) (fp : List Addr), PTs (X.blk s H scope (compEnvC scope cl C X.env) fp) ifs tt)
    (he : ∀ (s : Shared) (H : Hp) (C : Addr) (cl : List (Str × Addr)) (fp : List Addr), PE (X.blk s H scope (compEnvC scope cl C X.env) fp) elt te) (hot : L2H.HotC X) (hs : ∀ x, foldedSetIterable l X.env x = pure x := by intro _; rfl) (eK : X.K = K := by rfl) :
    PE X (.ListComp elt [⟨tg, l, ifs, 0⟩] scope pos) (tLc (iList K tl) g tt te (own.map (·.2))) := by
  subst eK
  refine ⟨fun pins s σ H Q I h => ?_⟩
  rw [eval_ListComp]
  have capt : ∀ y ∈ scope.names, y.2 = .free → ∃ c, X.env.cells.lookup y.1 = some c := fun y hy e => (ok.free y hy e).elim (fun k => I.ok.has _ (.inl k)) fun k => I.ok.has _ (.inr k)
  refine wpAny_comprehension_free rfl hs (closure_ok capt) ok.kind (fun y hy e => by rw [ok.uniq y hy, e]) (thn (hl.run pins s σ H _ I h) fun v s1 hv => ?_)
  obtain ⟨x, H1, I1, r1, a, ex, ⟨xs, hq⟩, q⟩ := hv
  subst ex
  obtain rfl : v = Value.ref a := r1
  obtain ⟨its, rv, pl, hz⟩ := I1.list hq
  refine wpAny_pyIter_list pl.isList ?_
  -- the iterator
  generalize hit : s1.heap.objs.size = it
  have nit : H1 it = none := I1.hok.fresh (Nat.le_of_eq hit)
  generalize hs2 : ({ s1 with heap := s1.heap.push { cls := .type "list_iterator", data := .fields #[.ref a, .int 0 0] } } : Shared) = s2
  have e2 : s2.heap = s1.heap.push { cls := .type "list_iterator", data := .fields #[.ref a, .int 0 0] } := by rw [← hs2]
  have I2 : Inv X pins σ H1 s2 := by rw [← hs2]; exact I1.kept (t' := s1.toks) fun b o e => Heap.get?_push_of_some _ e
  have st2 : s2.heap.IsListIter it a 0 := by rw [e2, ← hit]; exact ⟨_, Heap.get?_push_size _ rfl, rfl, rfl⟩
  have f2 : FpOk X pins H1 it := I1.fpOk (Nat.le_of_eq hit) nit
  have lit : it < s2.heap.objs.size := by rw [e2, Heap.size_push, ← hit]; exact Nat.lt_succ_self _
  -- the new list
  refine wpAny_newObj_type (newEnv_comp ?_) (by show 0 ≤ sizeLine; decide)
  generalize hD : s2.heap.objs.size = D
  have nD : H1 D = none := I2.hok.fresh (Nat.le_of_eq hD)
  obtain ⟨W, ⟨m0, w0⟩, turn⟩ := q D nD
  generalize hs3 : ({ s2 with heap := s2.heap.push { cls := .type "list", data := .seq ([] : List Value).toArray } } : Shared) = s3
  have e3 : s3.heap = s2.heap.push { cls := .type "list", data := .seq ([] : List Value).toArray } := by rw [← hs3]
  have I3 : Inv X pins σ (upd H1 D (.lst [])) s3 := by
    rw [← hs3]
    refine I2.laid (t' := s2.toks) (fun b o e => Heap.get?_push_of_some _ e) (Nat.le_of_eq hD) ⟨Nat.zero_le _, [], 0, .nil, ?_⟩
    rw [← hD]
    exact Heap.get?_push_size _ rfl
  have nitD : it ≠ D := by rw [← hD]; exact Nat.ne_of_lt lit
  have f3 : ∀ b ∈ [it], FpOk X pins (upd H1 D (.lst [])) b ∧ b < s3.heap.objs.size := fun b hb => by
    obtain rfl : b = it := List.mem_singleton.mp hb
    exact ⟨⟨by rw [upd_ne nitD]; exact f2.1, f2.2⟩, by rw [e3, Heap.size_push]; exact Nat.lt_succ_of_lt lit⟩
  have st3 : s3.heap.IsListIter it a 0 := st2.at fun o e => by rw [e3]; exact Heap.get?_push_of_some _ e
  have I4 := block_start I3 ok hN f3
  have bh := blk_hot (scope := scope) (ce := compEnvC scope (cellsFrom (s3.heap.objs.size + 1) scope.names (cloFrom X.env.cells scope.names [])) s3.heap.objs.size X.env) hot I3 fun b hb => (f3 b hb).1
  have pg := hg s3 (upd H1 D (.lst [])) s3.heap.objs.size (cellsFrom (s3.heap.objs.size + 1) scope.names (cloFrom X.env.cells scope.names [])) [it] bh
  have pt := ht s3 (upd H1 D (.lst [])) s3.heap.objs.size (cellsFrom (s3.heap.objs.size + 1) scope.names (cloFrom X.env.cells scope.names [])) [it]
  have pe := he s3 (upd H1 D (.lst [])) s3.heap.objs.size (cellsFrom (s3.heap.objs.size + 1) scope.names (cloFrom X.env.cells scope.names [])) [it]
  show codeAny _ _ (.compStart (.ListComp elt [⟨tg, l, ifs, 0⟩] scope pos) 0 (.ref it) (.ref D) (compEnvC scope (cellsFrom (s3.heap.objs.size + 1) scope.names (cloFrom X.env.cells scope.names [])) s3.heap.objs.size X.env)) (compPost (model X.prog X.w) X.A X.xe none (EP X pins σ Q) (.ref D) s3.heap.objs.size) { s3 with heap := pushCells (s3.heap.push { cls := .type "dict", data := .dict #[] }) scope.names }
  generalize hce : compEnvC scope (cellsFrom (s3.heap.objs.size + 1) scope.names (cloFrom X.env.cells scope.names [])) s3.heap.objs.size X.env = ce at I4 bh pg pt pe ⊢
  have cL : ce.locals = s3.heap.objs.size := by subst hce; rfl
  generalize hH3 : upd H1 D (.lst []) = H3 at I3 I4 bh pg pt pe w0 f3
  generalize hs4 : ({ s3 with heap := pushCells (s3.heap.push { cls := .type "dict", data := .dict #[] }) scope.names } : Shared) = s4 at I4 ⊢
  have st4 : s4.heap.IsListIter it a 0 := st3.at fun o e => by rw [← hs4]; exact pushCells_keeps _ _ _ _ (Heap.get?_push_of_some _ e)
  have nit3 : H3 it = none := (f3 it (List.mem_singleton.mpr rfl)).1.1
  have fpO : ∀ {σ' : L2.St} {H' : Hp} {s' : Shared}, Inv (X.blk s3 H3 scope ce [it]) [] σ' H' s' → H' it = none → ∀ b ∈ [it], FpOk (X.blk s3 H3 scope ce [it]) [] H' b := fun {σ' H' s'} I' hn b hb => by
    have e : b = it := List.mem_singleton.mp hb
    exact ⟨by rw [e]; exact hn, (I'.ok.exf b hb).1, I'.ok.exfs b hb, .inl hb, fun x c e => (I'.ok.exf b hb).2 x c e, fun p hp => absurd (show p ∈ ([] : List (Addr × Obj)) ++ [] from hp) (by simp)⟩
  have loop : codeAny (model X.prog X.w) X.A (.compLoop (.ListComp elt [⟨tg, l, ifs, 0⟩] scope pos) 0 (.ref it) (.ref D) ce) (compPost (model X.prog X.w) X.A X.xe none (EP X pins σ Q) (.ref D) s3.heap.objs.size) s4 := by
    refine compLoop_any (fun n s' => ∃ i H', Inv (X.blk s3 H3 scope ce [it]) [] (wipe σ (own.map (·.2))) H' s' ∧ s'.heap.IsListIter it a i ∧ H' it = none ∧ W i n H') ?_ m0 ⟨0, H3, I4, st4, nit3, w0⟩
    rintro n s5 ⟨i, H5, I5, st5, n5, w5⟩
    obtain ⟨g0, g1, g2, g3, g4, g5⟩ := fpO I5 n5 it (List.mem_singleton.mpr rfl)
    rcases turn i n H5 w5 with ⟨⟨ys, hq5, hle⟩, qq⟩ | ⟨⟨ys, y, hq5, hy⟩, Nx, hNx, step⟩
    · obtain ⟨its5, rv5, pl5, _⟩ := I5.list hq5
      obtain ⟨x1, hx1⟩ := bh _ _ _ _ I5
      have hl5 := rv5.length
      refine list_end_hot hx1 st5 pl5.isList (by simp; omega) fun h' eb => ?_
      have I6 : Inv (X.blk s3 H3 scope ce [it]) [] (wipe σ (own.map (·.2))) H5 { s5 with heap := h' } := I5.turned (t' := s5.toks) (fun b o hb e => eb b o hb e) g0 g1 g3 g4 g5
      have I7 : Inv X pins σ H5 { s5 with heap := h' } := I3.call' (ch := [it]) I6.os I6.base I6.hok I6.bare fun b hb => ⟨(f3 b hb).1.2.2.2.1, (f3 b hb).1.2.1, (f3 b hb).1.2.2.2.2.1, (f3 b hb).1.2.2.2.2.2⟩
      have nC : H5 s3.heap.objs.size = none := by
        have z : H5 ce.locals = none := I6.free
        rw [cL] at z
        exact z
      obtain ⟨m, hn, _⟩ := I6.loc
      have hn : ({ s5 with heap := h' } : Shared).heap.Ns ce.locals m := hn
      rw [cL] at hn
      refine ⟨m, hn, fun h'' sb => ?_⟩
      obtain ⟨j0, j1, j2, j3, j4, j5⟩ := I3.fpOk (H' := H5) (Nat.le_refl _) nC
      exact ⟨.ref D, H5, I7.turned (t' := s5.toks) (fun b o hb e => (sb.2 b hb).trans e) j0 j1 j3 j4 j5, rfl, qq⟩
    · obtain ⟨its5, rv5, pl5, _⟩ := I5.list hq5
      obtain ⟨u, hu, ru⟩ := rv5.get hy
      refine wpAny_pyNext_list_item st5 pl5.isList (x := u) (by simpa using hu) fun h' st' sb => ?_
      have I6 : Inv (X.blk s3 H3 scope ce [it]) [] (wipe σ (own.map (·.2))) H5 { s5 with heap := h' } := I5.turned (t' := s5.toks) (fun b o hb e => (sb.2 b hb).trans e) g0 g1 g3 g4 g5
      obtain ⟨oi, ei, ci, di⟩ := id st'
      refine go_of (s := { s5 with heap := h' }) ei ci di (by decide) ?_
      have I7 := I6.pinned (fpO I6 n5) fun b hb => by
        obtain rfl : b = it := List.mem_singleton.mp hb
        exact ⟨oi, ei, fun v z => by rw [di] at z; cases z⟩
      have yl : (Itl X.K a).yld i H5 y H5 := ⟨rfl, fun zs hzs => by
        have := I5.list_inj hzs hq5
        rw [this]
        exact hy⟩
      refine thnF (pg.run _ _ _ H5 y u _ I7 ru (step y H5 yl)) fun _ s8 h8 => ?_
      obtain ⟨σ8, H8, I8, hw8, q8⟩ := h8
      refine thnF (pt.run _ s8 σ8 H8 _ I8 q8) fun b s9 h9 => ?_
      obtain ⟨H9, I9, q9⟩ := h9
      have fin : ∀ {s' : Shared} {H' : Hp}, Inv (X.blk s3 H3 scope ce [it]) ([] ++ pinsAt [it] h') σ8 H' s' → Nx H' → ∃ m, m < n ∧ ∃ i H', Inv (X.blk s3 H3 scope ce [it]) [] (wipe σ (own.map (·.2))) H' s' ∧ s'.heap.IsListIter it a i ∧ H' it = none ∧ W i m H' := fun {s' H'} I' nx => by
        obtain ⟨m', hm, w'⟩ := hNx H' nx
        have z := I'.pin (it, oi) (List.mem_append_right _ (List.mem_append_right _ (mem_pinsAt (List.mem_singleton.mpr rfl) ei)))
        have hlw : (wipe σ (own.map (·.2))).length = σ8.length := by rw [← hw8, wipe_length]
        refine ⟨m', hm, i + 1, H', (I'.unpinned (pins := [])).weak hlw (fun j v e => ?_), st'.at fun o e => ?_, z.2.1, w'⟩
        · rw [← hw8] at e
          exact (wipe_some e).1
        · rw [ei] at e
          cases e
          exact z.1
      cases b with
      | false =>
        simp only [Bool.false_eq_true, if_false] at q9 ⊢
        exact fin I9 q9
      | true =>
        simp only [if_true] at q9 ⊢
        refine thnF (pe.run _ s9 σ8 H9 _ I9 q9) fun z s10 h10 => ?_
        obtain ⟨yv, H10, I10, r10, acc, hD10, hz10, nx⟩ := h10
        exact app_ok (X := X.blk s3 H3 scope ce [it]) I10 hD10 hz10 r10 fun s11 I11 => fin I11 nx
  exact codeAny_compStart_list loop (wpAny_pyIter_listiter st4 loop)
end TK

set_option maxRecDepth 100000
/-! a lambda as a value, tracked; what is called by a local name; several except clauses with a name -/
namespace TK
open PySem PySem.Spec PyProof.Rows L2
/-- the function object o stands at f -/
def FnO (f : Addr) (o : Obj) : HO := .ext fun h => h.get? f = some o
theorem FnO.ok {P : Program} {w : World} {H : Hp} {h : Heap} {f : Addr} {o : Obj} (e : h.get? f = some o) : ObjOk P w H h f (FnO f o) := ⟨e, ⟨_, e⟩, fun _ _ a st => st _ a⟩
theorem fnO_tbl {f : Addr} {o : Obj} (ps : Array Value) : FnO f o ≠ .tbl ps := fun z => by
  unfold FnO at z
  cases z
abbrev lamObj (q : Str) (params : Arguments) (body : Expr) (scope : Scope) (clo : List (Str × Addr)) (pm : Value) (c' : Addr) (ctv : Value) : Obj := PySem.W.kla_obj "<lambda>" q params body scope clo pm c' ctv
/-- the reading of a lambda: a new function, its code object new or found -/
def tLamb (T : List (Addr × Str)) (q : Str) (params : Arguments) (body : Expr) (scope : Scope) (clo : List (Str × Addr)) : TE := fun σ H Q => LamX.Tabs T H ∧
  ∀ (f c' : Addr) (pm ctv : Value) (H1 : Hp), LamX.ExtN H H1 → LamX.Tabs T H1 → H f = none → H1 f = some (FnO f (lamObj q params body scope clo pm c' ctv)) → H1 c' = some (LamX.CodeO c' q) → Q (.ref f) H1
theorem among_cases {pos p' : Pos} {c cv : Value} {ps : Array Value} (h : TriplesOk ps.toList) (hc : codeAmong p' (ps ++ #[rawInt pos.line, rawInt pos.col, c]).toList = some cv) : codeAmong p' ps.toList = some cv ∨ cv = c := by
  have e : (ps ++ #[rawInt pos.line, rawInt pos.col, c]).toList = ps.toList ++ [rawInt pos.line, rawInt pos.col, c] := by simp
  rw [e] at hc
  exact LamX.among_app _ h hc
theorem pe_lamb {X : Cx} {T : List (Addr × Str)} {c P : Addr} {params : Arguments} {body : Expr} {scope : Scope} {pos : Pos} (TB : LamX.TabB X.base X.mg c P) (hcode : X.env.code = .ref c)
    (hm : (P, X.env.qual ++ "<lambda>") ∈ T) (hu : ∀ p ∈ T, p.1 = P → p.2 = X.env.qual ++ "<lambda>") (hdef : defaultsOf params X.env = ([], [])) (hfree : ∀ y ∈ scope.names, y.2 = .free → ∃ c, X.env.cells.lookup y.1 = some c) :
    PE X (.Lambda params body scope pos) (tLamb T (X.env.qual ++ "<lambda>") params body scope (cloFrom X.env.cells scope.names [])) := by
  refine ⟨fun pins s σ H Q I h => ?_⟩
  obtain ⟨hT, h⟩ := h
  obtain ⟨ps, hP, ht, ha⟩ := hT _ hm
  refine PySem.W.kla_eval hdef ?_
  have hP' : s.heap.get? P = some { cls := .none, data := .fields ps } := I.hok P _ hP
  have fin : ∀ {h' : Heap} {tk : Nat} {H1 : Hp} {c' : Addr} {pm ctv : Value}, Inv X pins σ H1 { s with heap := h', toks := tk } → LamX.ExtN H H1 → LamX.Tabs T H1 → H1 c' = some (LamX.CodeO c' (X.env.qual ++ "<lambda>")) → s.heap.objs.size ≤ h'.objs.size →
      EP X pins σ Q (.ref h'.objs.size) { s with heap := h'.push (lamObj (X.env.qual ++ "<lambda>") params body scope (cloFrom X.env.cells scope.names []) pm c' ctv), toks := tk } := fun {h' tk H1 c' pm ctv} I1 e1 t1 hc hsz => by
    have nf : H1 h'.objs.size = none := I1.hok.fresh (Nat.le_refl _)
    have I2 := I1.laid (a := h'.objs.size) (t' := tk) (h' := h'.push (lamObj (X.env.qual ++ "<lambda>") params body scope (cloFrom X.env.cells scope.names []) pm c' ctv)) (fun b u e => Heap.get?_push_of_some _ e) (Nat.le_refl _) (FnO.ok (Heap.get?_push_size _ rfl))
    have sm : ∀ b o, H1 b = some o → (upd H1 h'.objs.size (FnO h'.objs.size (lamObj (X.env.qual ++ "<lambda>") params body scope (cloFrom X.env.cells scope.names []) pm c' ctv))) b = some o := fun b o e => by
      rw [upd_ne (ne_of_none e nf)]
      exact e
    exact ⟨.ref h'.objs.size, _, I2, rfl, h _ c' pm ctv _ (e1.trans (LamX.ExtN.of sm)) (t1.ext sm) (I.hok.fresh hsz) upd_same (sm _ _ hc)⟩
  cases hc : codeAmong pos ps.toList with
  | some cv =>
    obtain ⟨c', e, hco⟩ := ha pos cv hc
    subst e
    exact PySem.W.kla_makeFunctionHit (closure_ok hfree) I.ok.glob (I.mod.glob.keeps I.bk) hcode (TB.code.keeps I.bk) hP' ht hc (TB.bm.keeps I.bk) fun ctv h' tk hx hsz => fin (I.kept hx) (LamX.ExtN.refl H) hT hco hsz
  | none =>
    refine PySem.W.kla_makeFunction (closure_ok hfree) I.ok.glob (I.mod.glob.keeps I.bk) hcode (TB.code.keeps I.bk) hP' ht hc TB.gP (TB.bm.keeps I.bk) fun c' ctv h' tk hx hge hlt hrec htb => ?_
    obtain ⟨c2, oc, vs, t, e2, hoc, hd, hv⟩ := hrec
    cases e2
    have nC : H c' = none := I.hok.fresh hge
    have hE : LamX.ExtN H (upd (upd H P (.tbl (ps ++ #[rawInt pos.line, rawInt pos.col, .ref c']))) c' (LamX.CodeO c' (X.env.qual ++ "<lambda>"))) := fun b o e n => by
      have nP : b ≠ P := fun z => by
        subst z
        rw [hP] at e
        exact n ps (Option.some.inj e).symm
      rw [upd_ne (ne_of_none e nC), upd_ne nP]
      exact e
    refine fin (LamX.inv_table (t' := tk) I hP hx htb hge ⟨oc, vs, t, hoc, hd, hv⟩) hE (fun p hp => ?_) upd_same (Nat.le_trans hge (Nat.le_of_lt hlt))
    obtain ⟨ps', a1, a2, a3⟩ := hT p hp
    by_cases hb : p.1 = P
    · rw [hu p hp hb, hb]
      refine ⟨_, by rw [upd_ne (ne_of_none hP nC), upd_same], ?_, fun p' cv hcv => ?_⟩
      · simp only [Array.toList_append]
        exact PySem.TriplesOk_snoc _ _ _ _ ht
      · rcases among_cases ht hcv with z | z
        · obtain ⟨c0, e1, e2⟩ := ha p' cv z
          exact ⟨c0, e1, hE _ _ e2 LamX.codeO_ne⟩
        · exact ⟨c', z, upd_same⟩
    · refine ⟨ps', by rw [upd_ne (ne_of_none a1 nC), upd_ne hb]; exact a1, a2, fun p' cv hcv => ?_⟩
      obtain ⟨c0, e1, e2⟩ := a3 p' cv hcv
      exact ⟨c0, e1, hE _ _ e2 LamX.codeO_ne⟩
/-- what stands at f may be called as sp says, wherever all of H stands -/
structure Acts (P : Program) (w : World) (K : PySem.W.Frag) (mg : Str → Option Value) (base : Heap) (k : Nat) (f : Addr) (H : Hp) (sp : Sp) : Prop where
  at_ : ∀ (A : Around) (outer : List Env) (s : Shared) (H' : Hp), Same H H' → Env0 P w K mg base A outer s H' → PySem.W.FnAt f s.heap
  run : ∀ (A : Around) (outer : List Env) (s : Shared) (H' : Hp) (us : List Value) (vs : List V) (Q : VK) (E : XK), Same H H' → Room k A → Env0 P w K mg base A outer s H' → Vals vs us → sp vs H' Q E →
    codeAny (model P w) A (.call (.ref f) ⟨us, []⟩) (CR (L2N.CX P w) outer P w H' s Q E) s
theorem Acts.same {P : Program} {w : World} {K : PySem.W.Frag} {mg : Str → Option Value} {base : Heap} {k : Nat} {f : Addr} {H H1 : Hp} {sp : Sp} (a : Acts P w K mg base k f H sp) (s1 : Same H H1) : Acts P w K mg base k f H1 sp :=
  ⟨fun A outer s H' s2 => a.at_ A outer s H' (s1.trans s2), fun A outer s H' us vs Q E s2 => a.run A outer s H' us vs Q E (s1.trans s2)⟩
theorem Acts.mono {P : Program} {w : World} {K : PySem.W.Frag} {mg : Str → Option Value} {base : Heap} {j k : Nat} {f : Addr} {H : Hp} {sp : Sp} (a : Acts P w K mg base j f H sp) (h : j ≤ k) : Acts P w K mg base k f H sp :=
  ⟨a.at_, fun A outer s H' us vs Q E s2 hr => a.run A outer s H' us vs Q E s2 (hr.mono h)⟩
/-- a def of the text -/
theorem Acts.fn {P : Program} {w : World} {K : PySem.W.Frag} {mg : Str → Option Value} {base : Heap} {k : Nat} {x qual : Str} {st : Stmt} {f : Addr} {fd : FuncData} {ps : List Str} {sp : Sp} {H : Hp} (F : Fun K x qual st f fd) (G : FnOk P w K mg base (L2N.CX P w) k f fd ps sp) (hb : Binds K fd ps []) :
    Acts P w K mg base k f H sp := by
  have KX : ∀ {A : Around} {outer : List Env} {s : Shared} {H' : Hp}, Env0 P w K mg base A outer s H' → K.In s.heap := fun e0 => e0.mod.kin.keeps fun b o e => (e0.bs b o e).1
  refine ⟨fun A outer s H' _ e0 => ?_, fun A outer s H' us vs Q E _ hr e0 r h => ?_⟩
  · obtain ⟨oc, od, kV, doc, pm, an, cdv, ct, osl, rfl, lk, hcd⟩ := F.ex
    exact ⟨_, _, _, _, KX e0 _ _ lk⟩
  · have hl : us.length = ps.length := by rw [← r.length]; exact G.len _ _ _ _ h
    have b := hb s us (KX e0) (by rw [List.append_nil]; exact hl)
    rw [List.append_nil] at b
    exact G.run A outer s H' ⟨us, []⟩ us vs Q E hr e0 b r h
/-- a lambda without captured names -/
theorem Acts.lam {P : Program} {w : World} {K : PySem.W.Frag} {mg : Str → Option Value} {base : Heap} {k : Nat} {f c' : Addr} {q : Str} {params : Arguments} {body : Expr} {scope : Scope} {pm ctv : Value} {N ps : List Str} {sp : Sp} {H : Hp}
    (hf : H f = some (FnO f (lamObj q params body scope [] pm c' ctv))) (hc : H c' = some (LamX.CodeO c' q)) (S : FnScope N ps scope) (len : ∀ vs H Q E, sp vs H Q E → vs.length = ps.length)
    (hb : ∀ us : List Value, us.length = ps.length → bindArgs (PySem.W.kla_fn "<lambda>" q params body scope [] pm (.ref c') ctv) ⟨us, []⟩ = pure (ps.zip us))
    (hbody : ∀ (A : Around) (outer : List Env) (s : Shared) (H' : Hp) (vs : List V) (Q : VK) (E : XK), Room k (A.deeper (envOfC q scope s.heap.objs.size f (.ref c'))) → Same H H' → sp vs H' Q E →
      ∃ t, PE (cxOf (L2N.CX P w) P w K mg base N q scope f (.ref c') A outer s H' E) body t ∧ t (start N vs) H' Q) : Acts P w K mg base (k + 1) f H sp := by
  have fo : ∀ {A : Around} {outer : List Env} {s : Shared} {H' : Hp}, Same H H' → Env0 P w K mg base A outer s H' → s.heap.get? f = some (lamObj q params body scope [] pm c' ctv) := fun s1 e0 => (e0.hok _ _ (s1 _ _ hf)).1
  refine ⟨fun A outer s H' s1 e0 => ⟨_, _, _, _, fo s1 e0⟩, fun A outer s H' us vs Q E s1 hr e0 r h => ?_⟩
  have hl := len _ _ _ _ h
  have hlu : us.length = ps.length := by rw [← r.length]; exact hl
  have lim : s.heap.NoLimit := e0.mod.nolimit.keeps fun b o e => (e0.bs b o e).1
  obtain ⟨⟨oc, vc, t, hoc, hdc, hvc⟩, _, _⟩ := e0.hok c' _ (s1 _ _ hc)
  refine PySem.W.kla_callFunE hr.depth (fo s1 e0) rfl S.co S.gen rfl ⟨c', oc, vc, t, rfl, hoc, hdc, hvc⟩ ?_
  rw [hb us hlu]
  refine wpAny_pure (wpAny_newFunctionEnv_cells S.kind (fun ⟨n, v⟩ hy => ?_) fun env he s2 x => ?_)
  · rcases S.par n (List.of_mem_zip hy).1 with z | z
    · exact .inl z
    · exact .inr ⟨z, PySem.W.cellsFrom_some _ _ _ (.inl z)⟩
  subst he
  obtain ⟨tt, ht, hq⟩ := hbody A outer s H' vs Q E (hr.deeper _) s1 h
  have I : Inv (cxOf (L2N.CX P w) P w K mg base N q scope f (.ref c') A outer s H' E) [] (start N vs) H' s2 := inv_start S hr.hd e0 hl r x
  refine ⟨lim.keeps x.toInCall.keep, PySem.W.kla_codeExpr (wpAny_mono (ht.run [] s2 _ H' Q I hq) (fun v s' hs => ?_) fun _ _ hs => hs)⟩
  obtain ⟨v', H2, J, rv, q2⟩ := hs
  exact ⟨v', H2, J.os, J.bare, J.base, J.hok, rv, q2⟩
/-- x(e, ..), x a local name -/
def tCallV (P : Program) (w : World) (K : PySem.W.Frag) (mg : Str → Option Value) (base : Heap) (k i : Nat) (E : L2.St → XK) (t : TA) : TE := fun σ H Q => ∃ (f : Addr) (sp : Sp), σ[i]? = some (some (.ref f)) ∧ Acts P w K mg base k f H sp ∧ t σ H fun vs H1 => Same H H1 ∧ sp vs H1 Q (E σ)
theorem pe_callV {X : Cx} {P : Program} {w : World} {K : PySem.W.Frag} {mg : Str → Option Value} {base : Heap} {k i : Nat} {E : L2.St → XK} {x : Str} {p pos : Pos} {e : Expr} {es : List Expr} {t : TA} (hr : Room k X.A) (hN : X.N[i]? = some x) (hv : Vis X.env.scope x) (hx : ∀ σ, PassesAt (L2N.CX X.prog X.w) X σ (E σ)) (ha : PA X (e :: es) t)
    (hdb : (x == ("__debug__" : Str)) = false := by decide) (hcd : (x == ("__classdict__" : Str)) = false := by decide)
    (he : starEach (e :: es) X.env = (false, eval e X.env) :: starEach es X.env := by rfl) (hpl : (backTo pos (starEach es X.env)).any (·.1) = false := by rfl)
    (e1 : X.prog = P := by rfl) (e2 : X.w = w := by rfl) (e3 : X.K = K := by rfl) (e4 : X.mg = mg := by rfl) (e5 : X.base = base := by rfl) : PE X (.Call (.Name x p) (e :: es) [] pos) (tCallV P w K mg base k i E t) := by
  subst e1 e2 e3 e4 e5
  refine ⟨fun pins s σ H Q I h => ?_⟩
  obtain ⟨f, sp, hs, ac, ht⟩ := h
  refine wpAny_Call_Name_kw (thn ((pe_var (pos := p) hN hv hdb hcd).run pins s σ H (fun v H1 => v = .ref f ∧ H1 = H) I ⟨.ref f, hs, rfl, rfl⟩) fun u s1 hh => ?_)
  obtain ⟨v, H1, I1, r1, ev, eH⟩ := hh
  subst ev
  rw [eH] at I1
  obtain rfl : u = Value.ref f := r1
  refine PySem.W.callWith_F (ac.at_ _ _ _ _ (Same.refl H) I1.env0) (thn (ha.run pos pins s1 σ _ _ I1 ht) fun us s2 hh => ?_) he hpl
  obtain ⟨vs, H2, I2, r, s12, q⟩ := hh
  refine ⟨ac.at_ _ _ _ _ s12 I2.env0, ?_⟩
  refine wpAny_call (codeAny_mono (ac.run X.A X.stack s2 H2 us vs Q (E σ) s12 hr I2.env0 r q) fun rr s' hq => ?_)
  cases rr with
  | error e => exact hx σ pins H2 s2 e s' I2 hq
  | ok fl =>
    cases fl with
    | ret u => exact I2.after hq
    | next => exact False.elim hq
    | brk => exact False.elim hq
    | cont => exact False.elim hq
/-- what the clauses 'except c as n', one after the other, wish of an exception of the body: n stands in the i-th slot -/
def Ends.less (D : Ends) (i : Nat) : Ends := { nx := fun σ' H' => D.nx (σ'.set i none) H', rt := D.rt, bk := fun σ' H' => D.bk (σ'.set i none) H', ct := fun σ' H' => D.ct (σ'.set i none) H' }
def wManyA (K : PySem.W.Frag) (i : Nat) (Wout : WX) (D : Ends) : List (Value × (Addr → Value → Option Addr → TS)) → WX
  | [] => Wout
  | (c, ts) :: r => fun cls d σ H => ∃ b, PySem.W.exmOne K cls c = some b ∧ (b = true → ∀ a, H a = none → ts a cls d (Ends.less D i) (σ.set i (some (.ref a))) H) ∧ (b = false → wManyA K i Wout D r cls d σ H)
/-- the clauses of a try, each with the same name n -/
inductive Clauses (X : Cx) (n : Str) : List ExceptHandler → List (Value × (Addr → Value → Option Addr → TS)) → Prop
  | nil : Clauses X n [] []
  | cons {x : Str} {c : Value} {ts : Addr → Value → Option Addr → TS} {st : Stmt} {suite : List Stmt} {np pos' : Pos} {hds : List ExceptHandler} {l : List (Value × (Addr → Value → Option Addr → TS))} (hc : Names X x c)
      (hsu : ∀ (a : Addr) (oe : Obj) (cls : Value) (d : Option Addr) (pn : List (Addr × Obj)), L2N.Zn cls d oe → (∃ vs, oe.data = .fields vs) → PSs (X.suite a ((a, oe) :: pn)) (st :: suite) (ts a cls d)) (r : Clauses X n hds l) :
      Clauses X n (.ExceptHandler (some (.Name x np)) (some n) (st :: suite) pos' :: hds) ((c, ts) :: l)
section
variable {X : Cx} {body : List Stmt} {n : Str} {i : Nat} {h₀ : ExceptHandler} {hds : List ExceptHandler} {l : List (Value × (Addr → Value → Option Addr → TS))} {pos : Pos} {tb : WX → TS} {Wout : WX}
theorem ps_try_manyA (hs : X.stack = X.env :: X.outer) (hf : X.env.frame = some X.env.locals) (hN : X.N.Nodup) (hi : X.N[i]? = some n) (hln : X.env.kindOf n = some .local) (tk : L2N.Takes X Wout)
    (hb : ∀ (W : WX) (pn : List (Addr × Obj)) (xe : Value → Shared → Prop), L2N.Takes (X.tr pn xe) W → PassesOwn (model X.prog X.w) X.A X.env xe → PSs (X.tr pn xe) body (tb W))
    (hh : Clauses X n (h₀ :: hds) l) : PS X (.Try body (h₀ :: hds) [] [] pos) (fun D σ H => tb (wManyA X.K i Wout D l) D σ H) := by
  refine ⟨fun pins s σ H D I h => wpAny_Try_except ?_⟩
  have ok := I.ok
  have frm : X.A.frames = some (X.env :: X.outer) := by rw [ok.frames, hs]
  refine wpAny_mono ((hb (wManyA X.K i Wout D l) (X.pn ++ pins) (fun e s1 => wpAny (model X.prog X.w) X.A (noteFrame e X.env) (fun _ s2 => wpAny (model X.prog X.w) X.A (setFlight e none) (fun _ s3 =>
    wpAny (model X.prog X.w) X.A (handleBy e X.env (h₀ :: hds)) (SP X pins D) X.xe s3) X.xe s2) X.xe s1) (fun u s' xx => ?_) PassesOwn.looking).run [] s σ H D (I.toTry _) h) (fun fl s1 sp1 => ?_) (fun e s1 he => he)
  · obtain ⟨a, B, sI, pins', σ', H', cls, d, rfl, J', nb, up, sky, na, os, ag, w⟩ := xx
    have J : Inv X pins σ' H' sI := J'.ofTry ok
    show wpAny (model X.prog X.w) X.A (noteFrame (.ref a) X.env) _ _ _
    refine L2N.Sky.land L2N.Zn.steady frm hf (by rw [← hs]; exact sky) fun h3 fl3 up3 => ?_
    have J3 : Inv X pins σ' H' { s' with heap := h3 } := J.landed nb fl3.1 (up.trans up3) os ag
    obtain ⟨oe3, vs3, he3, hz3, hd3⟩ := fl3.there
    have away : a ∉ frs (X.env :: X.outer) := fun hm => by
      obtain ⟨_, o', e', hnf⟩ := fl3.2.2.1.mem hm
      rw [he3] at e'
      cases e'
      exact hnf _ hd3
    have nL : a ≠ X.env.locals := fun z => away (List.mem_filterMap.mpr ⟨X.env, List.mem_cons_self, by rw [hf, z]⟩)
    have nF : a ∉ X.fs := fun hm => by
      obtain ⟨e, he, q⟩ := List.mem_filterMap.mp hm
      exact away (List.mem_filterMap.mpr ⟨e, List.mem_cons_of_mem _ he, q⟩)
    have S3 := J3.suite he3 hd3 na nL nF
    have walk : ∀ {hs' : List ExceptHandler} {l' : List (Value × (Addr → Value → Option Addr → TS))}, Clauses X n hs' l' → wManyA X.K i Wout D l' cls d σ' H' →
        wpAny (model X.prog X.w) X.A (handleBy (.ref a) X.env hs') (SP X pins D) X.xe { s' with heap := h3 } := by
      intro hs' l' hk
      induction hk with
      | nil =>
        intro w
        refine wpAny_handleBy_nil ?_
        obtain ⟨k1, k2, k3, oe, vs, T, oT, ts', he, hz, hd, h1, hr⟩ := id fl3
        unfold PySem.passOn
        refine wpAny_bind (wpAny_field he hd h1 ?_)
        rw [if_neg (show ¬ ((Value.ref T == Value.none) = true) from by simp)]
        have out : wpAny (model X.prog X.w) X.A (setFlight (.ref a) X.env.frame) (fun _ s4 => wpAny (model X.prog X.w) X.A (throw (.ref a) : Sem Flow) (SP X pins D) X.xe s4) X.xe { s' with heap := h3 } := by
          rw [hf]
          exact HandSPX.setFlight_upZ fl3 fun h4 hh4 up4 => wpAny_throw (tk _ _ ⟨a, B, sI, pins, σ', H', cls, d, rfl, J, nb, (up.trans up3).trans up4, .inr (.inr (by rw [hs]; exact hh4)), na, os, ag, w⟩)
        first
          | exact wpAny_bind (wpAny_pure (wpAny_bind out))
          | exact wpAny_bind out
      | @cons x c ts st suite np pos' hds2 l2 hc hsu r ih =>
        intro w
        obtain ⟨b, hb1, hyes, hno⟩ := w
        refine wpAny_handleBy_cons (codeAny_handlers_test ?_) (by intro q; cases q)
        have LT : PySem.W.Looks (model X.prog X.w) h3 (typeOf (.ref a)) cls := fun A Q E s k q => wpAny_typeOf_ref (k _ _ he3) (by rw [hz3.1]; exact q)
        have asked : ∀ {Q : Value → Shared → Prop} {E : Value → Shared → Prop}, Q c { s' with heap := h3 } → wpAny (model X.prog X.w) (X.A.mark (some (.ref a))) (eval (.Name x np) X.env) Q E { s' with heap := h3 } := fun {Q E} q => by
          obtain ⟨hg, hdbg, hm | ⟨hm, hv, hnn⟩⟩ := hc
          · exact ld_glob (X := X.suite a ((a, oe3) :: (X.pn ++ pins))) S3 hg hm q hdbg
          · exact ld_blt (X := X.suite a ((a, oe3) :: (X.pn ++ pins))) S3 hg hm hv q hnn hdbg
        refine asked ((PySem.W.exm_one (M := model X.prog X.w) J3.kIn LT hb1).here ?_)
        cases b with
        | false =>
          show wpAny _ X.A (handleBy (.ref a) X.env hds2) _ _ _
          exact ih (hno rfl)
        | true =>
          refine codeAny_handlers_suite_as (HandSPX.lands_againZ fl3 fun h4 fl4 up4 => ?_)
          have J4 : Inv X pins σ' H' { s' with heap := h4 } := J.landed nb fl4.1 ((up.trans up3).trans up4) os ag
          obtain ⟨oe4, vs4, he4, hz4, hd4⟩ := fl4.there
          refine store_ok (X := X.suite a ((a, oe4) :: (X.pn ++ pins))) (v := .ref a) (J4.suite he4 hd4 na nL nF) hN hi (.inl hln) rfl (fun s5 S5 => ?_) (.inr hln)
          refine wpAny_mono ((hsu a oe4 cls d (X.pn ++ pins) hz4 ⟨_, hd4⟩).run [] s5 _ H' _ S5 (hyes rfl a na)) (fun fl s6 sp6 => ?_) (fun _ _ z => False.elim z)
          have gone : ∀ {σ6 : L2.St} {H6 : Hp} {Q : Shared → Prop}, Inv (X.suite a ((a, oe4) :: (X.pn ++ pins))) [] σ6 H6 s6 → (∀ s7, Inv X pins (σ6.set i none) H6 s7 → Q s7) →
              wpAny (model X.prog X.w) X.A (do bindName X.env n .none; unbindBehindTheSuite X.env n pos') (fun _ s7 => Q s7) X.xe s6 := fun {σ6 H6 Q} S6 hq => gone_ok (S6.unsuite ok) hN hi hln hq
          cases fl with
          | ret u =>
            obtain ⟨v6, σ6, H6, S6, r6, q6⟩ := sp6
            exact gone S6 fun s7 J7 => ⟨_, _, _, J7, r6, q6⟩
          | next =>
            obtain ⟨σ6, H6, S6, q6⟩ := sp6
            exact gone S6 fun s7 J7 => ⟨_, _, J7, q6⟩
          | brk =>
            obtain ⟨σ6, H6, S6, q6⟩ := sp6
            exact gone S6 fun s7 J7 => ⟨_, _, J7, q6⟩
          | cont =>
            obtain ⟨σ6, H6, S6, q6⟩ := sp6
            exact gone S6 fun s7 J7 => ⟨_, _, J7, q6⟩
    exact walk hh w
  · cases fl with
    | ret u =>
      obtain ⟨v, σ', H', J', r, q⟩ := sp1
      exact ⟨v, σ', H', J'.ofTry ok, r, q⟩
    | next =>
      obtain ⟨σ', H', J', q⟩ := sp1
      exact wpAny_execs_nil ⟨σ', H', J'.ofTry ok, q⟩
    | brk =>
      obtain ⟨σ', H', J', q⟩ := sp1
      exact ⟨σ', H', J'.ofTry ok, q⟩
    | cont =>
      obtain ⟨σ', H', J', q⟩ := sp1
      exact ⟨σ', H', J'.ofTry ok, q⟩
end
theorem hotC_of {X : Cx} {a : Addr} {oe : Obj} {pn : List (Addr × Obj)} {cls : Value} {d : Option Addr} (hz : L2N.Zn cls d oe) (hf : ∃ vs, oe.data = .fields vs) : L2H.HotC (X.suite a ((a, oe) :: pn)) := by
  obtain ⟨vs, hv⟩ := hf
  exact ⟨(a, oe), ⟨rfl, vs, hv, hz.2.2 vs hv⟩, List.mem_cons_self⟩
/-- a clause, for an exception of an own class without a dict -/
theorem clause_exc {X : Cx} {n x : Str} {c : Value} {ts : Addr → Addr → TS} {st : Stmt} {suite : List Stmt} {np pos' : Pos} {hds : List ExceptHandler} {l : List (Value × (Addr → Value → Option Addr → TS))} (hc : Names X x c)
    (hsu : ∀ (a : Addr) (oe : Obj) (pn : List (Addr × Obj)) (D0 : Addr), L2N.Zn (.ref D0) none oe → (∃ vs, oe.data = .fields vs) → ExcC X.K D0 → L2H.HotC (X.suite a ((a, oe) :: pn)) → PSs (X.suite a ((a, oe) :: pn)) (st :: suite) (ts a D0)) (r : Clauses X n hds l) :
    Clauses X n (.ExceptHandler (some (.Name x np)) (some n) (st :: suite) pos' :: hds) ((c, fun a cls d D σ H => ∃ D0, cls = .ref D0 ∧ d = none ∧ ExcC X.K D0 ∧ ts a D0 D σ H) :: l) := by
  refine .cons hc (fun a oe cls d pn hz hf => ⟨fun pins s σ H D I q => ?_⟩) r
  obtain ⟨D0, e1, e2, e3, q⟩ := q
  subst e1 e2
  exact (hsu a oe pn D0 hz hf e3 (hotC_of hz hf)).run pins s σ H D I q
/-- a clause that is never come to -/
theorem clause_never {X : Cx} {n x : Str} {c : Value} {st : Stmt} {np pos' : Pos} {hds : List ExceptHandler} {l : List (Value × (Addr → Value → Option Addr → TS))} (hc : Names X x c) (r : Clauses X n hds l) :
    Clauses X n (.ExceptHandler (some (.Name x np)) (some n) [st] pos' :: hds) ((c, fun _ _ _ => tNever) :: l) := .cons hc (fun a oe cls d pn hz hf => pss_one ps_never) r
theorem no_free {scope : Scope} {cells : List (Str × Addr)} (h : (scope.names.all fun y => !decide (y.2 = .free)) = true) : ∀ y ∈ scope.names, y.2 = .free → ∃ c, cells.lookup y.1 = some c := fun y hy e => by
  have := List.all_eq_true.mp h y hy
  rw [e] at this
  exact absurd this (by decide)
theorem no_tab {K : PySem.W.Frag} {h : Heap} {P : Addr} (X : K.In h) (nt : PySem.W.noTabs K = true) (e : h.get? P = some { cls := .none, data := .fields #[] }) : K.lookup P = none := by
  cases q : K.lookup P with
  | none => rfl
  | some o =>
    have e1 := X _ _ q
    rw [e] at e1
    cases e1
    have := List.all_eq_true.mp nt _ (PySem.W.mem_of_lookupK q)
    exact absurd (show false = true from this) Bool.false_ne_true
/-- isinstance by what is known of the classes -/
theorem kit_of {K : PySem.W.Frag} {D C : Addr} {b : Bool} (hd : PySem.W.hasDictIn K C = true) (ht : PySem.W.typeIn K (.ref C) = some (.type "type")) (hr : PySem.W.subIn K (.ref C) (.ref C) = some true) (hs : PySem.W.subIn K (.ref D) (.ref C) = some b) : PySem.W.kitOne K (.ref D) (.ref C) = some b := by
  unfold PySem.W.kitOne
  split
  · rename_i e
    have e1 : Value.ref D = Value.ref C := beq_iff_eq.mp e
    cases e1
    rw [hr] at hs
    exact hs
  · obtain ⟨cd, hc, _⟩ := PySem.W.any_some hd
    show (if ((PySem.W.clsIn K C).isSome && PySem.W.typeIn K (.ref C) == some (.type "type")) = true then PySem.W.subIn K (.ref D) (.ref C) else none) = some b
    rw [if_pos (by rw [hc, ht]; rfl)]
    exact hs
theorem kit_val {K : PySem.W.Frag} {D : Addr} (hs : PySem.W.subIn K (.ref D) (.type "ValueError") = some true) : PySem.W.kitOne K (.ref D) (.type "ValueError") = some true := by
  show (if (Value.ref D == Value.type "ValueError") = true then some true else (if PySem.W.kitMeta "ValueError" = true then PySem.W.subIn K (.ref D) (.type "ValueError") else none)) = some true
  rw [if_neg (by intro z; have := beq_iff_eq.mp z; cases this), if_pos (by decide +kernel)]
  exact hs
/-! the tables through a law -/
theorem tabs_kb {T : List (Addr × Str)} {b : Addr} {H H' : Hp} (h : LamX.Tabs T H) (hb : Bag H b) (k : Kb b H H') : LamX.Tabs T H' := fun p hp => by
  obtain ⟨d, ds, c, hB, _⟩ := hb
  obtain ⟨ps, h1, h2, h3⟩ := h p hp
  refine ⟨ps, k _ _ (ne_of h1 hB (by intro z; cases z)) h1, h2, fun pos cv hc => ?_⟩
  obtain ⟨c0, e1, e2⟩ := h3 pos cv hc
  exact ⟨c0, e1, k _ _ (ne_of e2 hB (by intro z; unfold LamX.CodeO at z; cases z)) e2⟩
theorem tupS_ext {H H' : Hp} (e : LamX.ExtN H H') : TupS H H' := fun a xs h => e a _ h (fun ps z => by cases z)
theorem lst_ext {H H' : Hp} (e : LamX.ExtN H H') {a : Addr} {xs : List V} (h : H a = some (.lst xs)) : H' a = some (.lst xs) := e a _ h (fun ps z => by cases z)
theorem bag_ext {H H' : Hp} (e : LamX.ExtN H H') {b : Addr} (h : Bag H b) : Bag H' b := by
  obtain ⟨d, ds, c, h1, h2, h3⟩ := h
  exact ⟨d, ds, c, lst_ext e h1, lst_ext e h2, h3⟩
/-- a def whose code object is known -/
theorem ok_code {P : Program} {w : World} {K : PySem.W.Frag} {mg : Str → Option Value} {base : Heap} {x qual : Str} {st : Stmt} {f c : Addr} {fd : FuncData} {N ps : List Str} {k : Nat} {sp : Sp} (F : Fun K x qual st f fd) (hc : fd.code = .ref c) (S : FnScope N ps (defScope st)) (len : ∀ vs H Q E, sp vs H Q E → vs.length = ps.length)
    (hbody : ∀ (A : Around) (outer : List Env) (s : Shared) (H : Hp) (vs : List V) (Q : VK) (E : XK), Room k (A.deeper (envOfC qual (defScope st) s.heap.objs.size f (.ref c))) → sp vs H Q E →
      ∃ t, PSs (cxOf CX0 P w K mg base N qual (defScope st) f (.ref c) A outer s H E).nox (defBody st) t ∧ t { nx := fun _ H' => Q .non H', rt := Q } (start N vs) H) : FnOk P w K mg base CX0 (k + 1) f fd ps sp := by
  obtain ⟨oc, od, kV, doc, pm, an, cdv, ct, osl, rfl, lk, hcd⟩ := F.ex
  have e : cdv = .ref c := hc
  subst e
  refine fn_of lk hcd S len fun A outer s H vs Q E hr hsp => ?_
  obtain ⟨t, h, q⟩ := hbody A outer s H vs Q E hr hsp
  exact ⟨t, h.nox, q⟩
/-- a def that may raise, where nothing is handled -/
theorem okN {P : Program} {w : World} {K : PySem.W.Frag} {mg : Str → Option Value} {base : Heap} {x qual : Str} {st : Stmt} {f : Addr} {fd : FuncData} {N ps : List Str} {k : Nat} {sp : Sp} (F : Fun K x qual st f fd) (S : FnScope N ps (defScope st)) (len : ∀ vs H Q E, sp vs H Q E → vs.length = ps.length)
    (hbody : ∀ (cdv : Value) (A : Around) (outer : List Env) (s : Shared) (H : Hp) (vs : List V) (Q : VK) (E : XK), Room k (A.deeper (envOfC qual (defScope st) s.heap.objs.size f cdv)) → sp vs H Q E →
      ∃ t, PSs (cxOf (L2N.CX P w) P w K mg base N qual (defScope st) f cdv A outer s H E) (defBody st) t ∧ t { nx := fun _ H' => Q .non H', rt := Q } (start N vs) H) : FnOk P w K mg base (L2N.CX P w) (k + 1) f fd ps sp := by
  obtain ⟨oc, od, kV, doc, pm, an, cdv, ct, osl, rfl, lk, hcd⟩ := F.ex
  exact fn_of lk hcd S len fun A outer s H vs Q E hr hsp => hbody cdv A outer s H vs Q E hr hsp
theorem takesN0 {X : Cx} : L2N.Takes X (fun _ _ _ _ => False) := fun _ _ x => by
  obtain ⟨_, _, _, _, _, _, _, _, _, _, _, _, _, _, _, _, z⟩ := x
  exact z.elim
end TK

namespace Lk11
open PySem PySem.Spec PyProof.Rows L2 TK
def topS (i : Nat) : Stmt := PySem.Challenge.pw_takenth_k11_where_two_rows_part.main.body.getD i (.Pass ⟨0, 0, 0, 0⟩)
abbrev s_is_whole : Stmt := topS 12
theorem sc_is_whole : FnScope ["thing", "least", "most"] ["thing", "least", "most"] (defScope s_is_whole) := ⟨rfl, rfl, rfl, by decide +kernel, rfl, by decide +kernel, by decide +kernel⟩
abbrev s_is_taker : Stmt := topS 17
theorem sc_is_taker : FnScope ["thing", "every", "counted"] ["thing"] (defScope s_is_taker) := ⟨rfl, rfl, rfl, by decide +kernel, rfl, by decide +kernel, by decide +kernel⟩
abbrev s_is_row : Stmt := topS 18
theorem sc_is_row : FnScope ["thing", "part"] ["thing"] (defScope s_is_row) := ⟨rfl, rfl, rfl, by decide +kernel, rfl, by decide +kernel, by decide +kernel⟩
abbrev s_check_row : Stmt := topS 19
theorem sc_check_row : FnScope ["thing"] ["thing"] (defScope s_check_row) := ⟨rfl, rfl, rfl, by decide +kernel, rfl, by decide +kernel, by decide +kernel⟩
abbrev s_piece_behind : Stmt := topS 20
theorem sc_piece_behind : FnScope ["row", "number", "piece", "every", "counted", "passed"] ["row", "number"] (defScope s_piece_behind) := ⟨rfl, rfl, rfl, by decide +kernel, rfl, by decide +kernel, by decide +kernel⟩
abbrev s_parted : Stmt := topS 22
theorem sc_parted : FnScope ["one", "other", "pieces", "place", "coming"] ["one", "other"] (defScope s_parted) := ⟨rfl, rfl, rfl, by decide +kernel, rfl, by decide +kernel, by decide +kernel⟩
abbrev s_taken_unlike : Stmt := topS 23
theorem sc_taken_unlike : FnScope ["one", "other", "first_of_one", "first_of_other"] ["one", "other"] (defScope s_taken_unlike) := ⟨rfl, rfl, rfl, by decide +kernel, rfl, by decide +kernel, by decide +kernel⟩
abbrev s__law_cell_at : Stmt := topS 25
theorem sc__law_cell_at : FnScope ["script", "k"] ["script", "k"] (defScope s__law_cell_at) := ⟨rfl, rfl, rfl, by decide +kernel, rfl, by decide +kernel, by decide +kernel⟩
abbrev s__law_draws : Stmt := topS 26
theorem sc__law_draws : FnScope ["cell", "many", "size", "found", "rest", "stirred", "k"] ["cell", "many", "size"] (defScope s__law_draws) := ⟨rfl, rfl, rfl, by decide +kernel, rfl, by decide +kernel, by decide +kernel⟩
abbrev s__law_bag : Stmt := topS 27
theorem sc__law_bag : FnScope ["script", "k"] ["script", "k"] (defScope s__law_bag) := ⟨rfl, rfl, rfl, by decide +kernel, rfl, by decide +kernel, by decide +kernel⟩
abbrev s__law_bags : Stmt := topS 28
theorem sc__law_bags : FnScope ["script", "limit", "k"] ["script", "limit"] (defScope s__law_bags) := ⟨rfl, rfl, rfl, by decide +kernel, rfl, by decide +kernel, by decide +kernel⟩
abbrev s__law_take : Stmt := topS 29
theorem sc__law_take : FnScope ["bag", "many"] ["bag", "many"] (defScope s__law_take) := ⟨rfl, rfl, rfl, by decide +kernel, rfl, by decide +kernel, by decide +kernel⟩
abbrev s__law_taker : Stmt := topS 30
theorem sc__law_taker : FnScope ["bag", "far", "every"] ["bag", "far"] (defScope s__law_taker) := ⟨rfl, rfl, rfl, by decide +kernel, rfl, by decide +kernel, by decide +kernel⟩
abbrev s__law_drawn_row : Stmt := topS 31
theorem sc__law_drawn_row : FnScope ["bag", "takers", "far", "turn"] ["bag", "takers", "far"] (defScope s__law_drawn_row) := ⟨rfl, rfl, rfl, by decide +kernel, rfl, by decide +kernel, by decide +kernel⟩
abbrev s__law_gone : Stmt := topS 32
theorem sc__law_gone : FnScope ["house", "many", "piece", "counted", "found", "took", "place", "one", "every", "begun"] ["house", "many"] (defScope s__law_gone) := ⟨rfl, rfl, rfl, by decide +kernel, rfl, by decide +kernel, by decide +kernel⟩
abbrev s__law_refused : Stmt := topS 33
theorem sc__law_refused : FnScope ["call", "one", "two", "three", "kin", "e", "words", "word", "there"] ["call", "one", "two", "three"] (defScope s__law_refused) := ⟨rfl, rfl, rfl, by decide +kernel, rfl, by decide +kernel, by decide +kernel⟩
abbrev s__law_near : Stmt := topS 34
theorem sc__law_near : FnScope ["bag", "house", "at", "some", "other", "every", "counted"] ["bag", "house"] (defScope s__law_near) := ⟨rfl, rfl, rfl, by decide +kernel, rfl, by decide +kernel, by decide +kernel⟩
abbrev s_law : Stmt := topS 35
theorem sc_law : FnScope ["script", "bag", "house", "seen", "turn", "other", "far", "unlike", "told", "piece"] ["script"] (defScope s_law) := ⟨rfl, rfl, rfl, by decide +kernel, rfl, by decide +kernel, by decide +kernel⟩
structure Top (K : PySem.W.Frag) (mg : Str → Option Value) where
  a_is_whole : Addr
  fd_is_whole : FuncData
  F_is_whole : Fun K "is_whole" "is_whole" s_is_whole a_is_whole fd_is_whole
  b_is_whole : Binds K fd_is_whole ["thing", "least", "most"] []
  g_is_whole : mg "is_whole" = some (.ref a_is_whole)
  a_is_taker : Addr
  fd_is_taker : FuncData
  F_is_taker : Fun K "is_taker" "is_taker" s_is_taker a_is_taker fd_is_taker
  b_is_taker : Binds K fd_is_taker ["thing"] []
  g_is_taker : mg "is_taker" = some (.ref a_is_taker)
  a_is_row : Addr
  fd_is_row : FuncData
  F_is_row : Fun K "is_row" "is_row" s_is_row a_is_row fd_is_row
  b_is_row : Binds K fd_is_row ["thing"] []
  g_is_row : mg "is_row" = some (.ref a_is_row)
  a_check_row : Addr
  fd_check_row : FuncData
  F_check_row : Fun K "check_row" "check_row" s_check_row a_check_row fd_check_row
  b_check_row : Binds K fd_check_row ["thing"] []
  g_check_row : mg "check_row" = some (.ref a_check_row)
  a_piece_behind : Addr
  fd_piece_behind : FuncData
  F_piece_behind : Fun K "piece_behind" "piece_behind" s_piece_behind a_piece_behind fd_piece_behind
  b_piece_behind : Binds K fd_piece_behind ["row", "number"] []
  g_piece_behind : mg "piece_behind" = some (.ref a_piece_behind)
  a_parted : Addr
  fd_parted : FuncData
  F_parted : Fun K "parted" "parted" s_parted a_parted fd_parted
  b_parted : Binds K fd_parted ["one", "other"] []
  g_parted : mg "parted" = some (.ref a_parted)
  a_taken_unlike : Addr
  fd_taken_unlike : FuncData
  F_taken_unlike : Fun K "taken_unlike" "taken_unlike" s_taken_unlike a_taken_unlike fd_taken_unlike
  b_taken_unlike : Binds K fd_taken_unlike ["one", "other"] []
  g_taken_unlike : mg "taken_unlike" = some (.ref a_taken_unlike)
  a__law_cell_at : Addr
  fd__law_cell_at : FuncData
  F__law_cell_at : Fun K "_law_cell_at" "_law_cell_at" s__law_cell_at a__law_cell_at fd__law_cell_at
  b__law_cell_at : Binds K fd__law_cell_at ["script", "k"] []
  g__law_cell_at : mg "_law_cell_at" = some (.ref a__law_cell_at)
  a__law_draws : Addr
  fd__law_draws : FuncData
  F__law_draws : Fun K "_law_draws" "_law_draws" s__law_draws a__law_draws fd__law_draws
  b__law_draws : Binds K fd__law_draws ["cell", "many", "size"] []
  g__law_draws : mg "_law_draws" = some (.ref a__law_draws)
  a__law_bag : Addr
  fd__law_bag : FuncData
  F__law_bag : Fun K "_law_bag" "_law_bag" s__law_bag a__law_bag fd__law_bag
  b__law_bag : Binds K fd__law_bag ["script", "k"] []
  g__law_bag : mg "_law_bag" = some (.ref a__law_bag)
  a__law_bags : Addr
  fd__law_bags : FuncData
  F__law_bags : Fun K "_law_bags" "_law_bags" s__law_bags a__law_bags fd__law_bags
  b__law_bags : Binds K fd__law_bags ["script", "limit"] []
  g__law_bags : mg "_law_bags" = some (.ref a__law_bags)
  a__law_take : Addr
  fd__law_take : FuncData
  F__law_take : Fun K "_law_take" "_law_take" s__law_take a__law_take fd__law_take
  b__law_take : Binds K fd__law_take ["bag", "many"] []
  g__law_take : mg "_law_take" = some (.ref a__law_take)
  a__law_taker : Addr
  fd__law_taker : FuncData
  F__law_taker : Fun K "_law_taker" "_law_taker" s__law_taker a__law_taker fd__law_taker
  b__law_taker : Binds K fd__law_taker ["bag", "far"] []
  g__law_taker : mg "_law_taker" = some (.ref a__law_taker)
  a__law_drawn_row : Addr
  fd__law_drawn_row : FuncData
  F__law_drawn_row : Fun K "_law_drawn_row" "_law_drawn_row" s__law_drawn_row a__law_drawn_row fd__law_drawn_row
  b__law_drawn_row : Binds K fd__law_drawn_row ["bag", "takers", "far"] []
  g__law_drawn_row : mg "_law_drawn_row" = some (.ref a__law_drawn_row)
  a__law_gone : Addr
  fd__law_gone : FuncData
  F__law_gone : Fun K "_law_gone" "_law_gone" s__law_gone a__law_gone fd__law_gone
  b__law_gone : Binds K fd__law_gone ["house", "many"] []
  g__law_gone : mg "_law_gone" = some (.ref a__law_gone)
  a__law_refused : Addr
  fd__law_refused : FuncData
  F__law_refused : Fun K "_law_refused" "_law_refused" s__law_refused a__law_refused fd__law_refused
  b__law_refused : Binds K fd__law_refused ["call", "one", "two", "three"] []
  g__law_refused : mg "_law_refused" = some (.ref a__law_refused)
  a__law_near : Addr
  fd__law_near : FuncData
  F__law_near : Fun K "_law_near" "_law_near" s__law_near a__law_near fd__law_near
  b__law_near : Binds K fd__law_near ["bag", "house"] []
  g__law_near : mg "_law_near" = some (.ref a__law_near)
  a_law : Addr
  fd_law : FuncData
  F_law : Fun K "law" "law" s_law a_law fd_law
  b_law : Binds K fd_law ["script"] []
  g_law : mg "law" = some (.ref a_law)
  C_TakeError : Addr
  C_NoRow : Addr
  C_NoNumber : Addr
  C_NoTaker : Addr
  C_NoSeen : Addr
  C_NoCounts : Addr
  C_NoPlace : Addr
  C_Unlike : Addr
  C_Full : Addr
  C_TooMany : Addr
  g_TakeError : mg "TakeError" = some (.ref C_TakeError)
  b_TakeError : PySem.W.subIn K (.ref C_TakeError) (.type "BaseException") = some true
  t_TakeError : PySem.W.typeIn K (.ref C_TakeError) = some (.type "type")
  d_TakeError : PySem.W.hasDictIn K C_TakeError = true
  r_TakeError : PySem.W.subIn K (.ref C_TakeError) (.ref C_TakeError) = some true
  g_NoRow : mg "NoRow" = some (.ref C_NoRow)
  b_NoRow : PySem.W.subIn K (.ref C_NoRow) (.type "BaseException") = some true
  t_NoRow : PySem.W.typeIn K (.ref C_NoRow) = some (.type "type")
  d_NoRow : PySem.W.hasDictIn K C_NoRow = true
  r_NoRow : PySem.W.subIn K (.ref C_NoRow) (.ref C_NoRow) = some true
  g_NoNumber : mg "NoNumber" = some (.ref C_NoNumber)
  b_NoNumber : PySem.W.subIn K (.ref C_NoNumber) (.type "BaseException") = some true
  t_NoNumber : PySem.W.typeIn K (.ref C_NoNumber) = some (.type "type")
  d_NoNumber : PySem.W.hasDictIn K C_NoNumber = true
  r_NoNumber : PySem.W.subIn K (.ref C_NoNumber) (.ref C_NoNumber) = some true
  g_NoTaker : mg "NoTaker" = some (.ref C_NoTaker)
  b_NoTaker : PySem.W.subIn K (.ref C_NoTaker) (.type "BaseException") = some true
  t_NoTaker : PySem.W.typeIn K (.ref C_NoTaker) = some (.type "type")
  d_NoTaker : PySem.W.hasDictIn K C_NoTaker = true
  r_NoTaker : PySem.W.subIn K (.ref C_NoTaker) (.ref C_NoTaker) = some true
  g_NoSeen : mg "NoSeen" = some (.ref C_NoSeen)
  b_NoSeen : PySem.W.subIn K (.ref C_NoSeen) (.type "BaseException") = some true
  t_NoSeen : PySem.W.typeIn K (.ref C_NoSeen) = some (.type "type")
  d_NoSeen : PySem.W.hasDictIn K C_NoSeen = true
  r_NoSeen : PySem.W.subIn K (.ref C_NoSeen) (.ref C_NoSeen) = some true
  g_NoCounts : mg "NoCounts" = some (.ref C_NoCounts)
  b_NoCounts : PySem.W.subIn K (.ref C_NoCounts) (.type "BaseException") = some true
  t_NoCounts : PySem.W.typeIn K (.ref C_NoCounts) = some (.type "type")
  d_NoCounts : PySem.W.hasDictIn K C_NoCounts = true
  r_NoCounts : PySem.W.subIn K (.ref C_NoCounts) (.ref C_NoCounts) = some true
  g_NoPlace : mg "NoPlace" = some (.ref C_NoPlace)
  b_NoPlace : PySem.W.subIn K (.ref C_NoPlace) (.type "BaseException") = some true
  t_NoPlace : PySem.W.typeIn K (.ref C_NoPlace) = some (.type "type")
  d_NoPlace : PySem.W.hasDictIn K C_NoPlace = true
  r_NoPlace : PySem.W.subIn K (.ref C_NoPlace) (.ref C_NoPlace) = some true
  g_Unlike : mg "Unlike" = some (.ref C_Unlike)
  b_Unlike : PySem.W.subIn K (.ref C_Unlike) (.type "BaseException") = some true
  t_Unlike : PySem.W.typeIn K (.ref C_Unlike) = some (.type "type")
  d_Unlike : PySem.W.hasDictIn K C_Unlike = true
  r_Unlike : PySem.W.subIn K (.ref C_Unlike) (.ref C_Unlike) = some true
  g_Full : mg "Full" = some (.ref C_Full)
  b_Full : PySem.W.subIn K (.ref C_Full) (.type "BaseException") = some true
  t_Full : PySem.W.typeIn K (.ref C_Full) = some (.type "type")
  d_Full : PySem.W.hasDictIn K C_Full = true
  r_Full : PySem.W.subIn K (.ref C_Full) (.ref C_Full) = some true
  g_TooMany : mg "TooMany" = some (.ref C_TooMany)
  b_TooMany : PySem.W.subIn K (.ref C_TooMany) (.type "BaseException") = some true
  t_TooMany : PySem.W.typeIn K (.ref C_TooMany) = some (.type "type")
  d_TooMany : PySem.W.hasDictIn K C_TooMany = true
  r_TooMany : PySem.W.subIn K (.ref C_TooMany) (.ref C_TooMany) = some true
  q_n : PySem.W.specialIn K (.builtin "object.__class__") "__get__" = some (some (.builtin "getset_descriptor.__get__"))
  q_t : PySem.W.takesIn K (.builtin "object.__class__") = some true
  x_Unlike : PySem.W.excIn K C_Unlike [.type "ValueError", .type "Exception", .type "BaseException", .type "object"] "ValueError.__new__" = true
  k_Unlike : PySem.W.keepIn K (.ref C_Unlike) = true
  y_Unlike : PySem.W.findIn K (.ref C_Unlike) "__getattribute__" = some (some (.builtin "BaseException.__getattribute__"))
  w_Unlike : PySem.W.findIn K (.ref C_Unlike) "__getattr__" = some none
  u_Unlike : PySem.W.findIn K (.ref C_Unlike) "__class__" = some (some (.builtin "object.__class__"))
  m_Unlike : PySem.W.mroIn K C_Unlike (.type "object") = some true
  v_Unlike : PySem.W.subIn K (.ref C_Unlike) (.type "ValueError") = some true
  s_Unlike_NoRow : PySem.W.subIn K (.ref C_Unlike) (.ref C_NoRow) = some false
  s_Unlike_NoNumber : PySem.W.subIn K (.ref C_Unlike) (.ref C_NoNumber) = some false
  s_Unlike_NoTaker : PySem.W.subIn K (.ref C_Unlike) (.ref C_NoTaker) = some false
  s_Unlike_NoSeen : PySem.W.subIn K (.ref C_Unlike) (.ref C_NoSeen) = some false
  s_Unlike_NoCounts : PySem.W.subIn K (.ref C_Unlike) (.ref C_NoCounts) = some false
  s_Unlike_NoPlace : PySem.W.subIn K (.ref C_Unlike) (.ref C_NoPlace) = some false
  s_Unlike_Full : PySem.W.subIn K (.ref C_Unlike) (.ref C_Full) = some false
  s_Unlike_TooMany : PySem.W.subIn K (.ref C_Unlike) (.ref C_TooMany) = some false
  s_Unlike_TakeError : PySem.W.subIn K (.ref C_Unlike) (.ref C_TakeError) = some true
  cc_law : Addr
  pt_law : Addr
  hc_law : fd_law.code = .ref cc_law
  t_MOST_TAKERS : Tok
  g_MOST_TAKERS : mg "MOST_TAKERS" = some (.int 8 t_MOST_TAKERS)
  t_LEAST_EVERY : Tok
  g_LEAST_EVERY : mg "LEAST_EVERY" = some (.int 2 t_LEAST_EVERY)
  t_MOST_EVERY : Tok
  g_MOST_EVERY : mg "MOST_EVERY" = some (.int 1000 t_MOST_EVERY)
  z_ValueError : mg "ValueError" = none
  z_all : mg "all" = none
  z_bool : mg "bool" = none
  z_enumerate : mg "enumerate" = none
  z_int : mg "int" = none
  z_isinstance : mg "isinstance" = none
  z_len : mg "len" = none
  z_max : mg "max" = none
  z_min : mg "min" = none
  z_range : mg "range" = none
  z_reversed : mg "reversed" = none
  z_tuple : mg "tuple" = none
section
variable {P : Program} {w : World} {K : PySem.W.Frag} {mg : Str → Option Value} {base : Heap}
/-! the program: whole numbers, rows of takers -/
def spWhole : Sp := fun vs H Q _ => ∃ n lo hi : Int, vs = [.int n, .int lo, .int hi] ∧ Q (.bl (decide (lo ≤ n) && decide (n ≤ hi))) H
theorem ok_is_whole (T : Top K mg) : FnOk P w K mg base CX0 1 T.a_is_whole T.fd_is_whole ["thing", "least", "most"] spWhole := by
  refine T.F_is_whole.ok sc_is_whole (fun vs H Q E h => ?_) (fun cdv A outer s H vs Q E hr h => ?_)
  · obtain ⟨n, lo, hi, rfl, _⟩ := h
    rfl
  · obtain ⟨n, lo, hi, rfl, q⟩ := h
    refine ⟨_, (pss_cons (ps_if (PW.pt (pw_or (pt_not (pt_val (pe_callB call_isi (by rfl) T.z_isinstance (by decide +kernel) (pa_cons (pv 0) (pa_cons (pe_bltn (v := .ty "int") (by rfl) T.z_int (by decide +kernel) rfl) pa_nil))))) (pw_or1 (pt_val (pe_callB call_isi (by rfl) T.z_isinstance (by decide +kernel) (pa_cons (pv 0) (pa_cons (pe_bltn (v := .ty "bool") (by rfl) T.z_bool (by decide +kernel) rfl) pa_nil))))))) (pss_one (ps_ret pe_bl)) pss_nil)
      (pss_one (ps_ret (pe_chain op_le op_le (pv 1) (pv 0) (pv 2))))), ?_⟩
    refine ⟨.int n, rfl, .int n, .ty "int", .type "int", .type "int", true, rfl, .ty _, .base (.int n), kit_ty (by decide +kernel), true, rfl, iteF ?_⟩
    refine ⟨.int n, rfl, .int n, .ty "bool", .type "int", .type "bool", false, rfl, .ty _, .base (.int n), kit_ty (by decide +kernel), false, rfl, iteF ?_⟩
    refine ⟨.int lo, rfl, .int n, rfl, lo, n, rfl, rfl, _, rfl, ite2 (fun e => ?_) (fun e => ?_)⟩
    · refine ⟨.int hi, rfl, n, hi, rfl, rfl, ?_⟩
      rw [e, Bool.true_and] at q
      exact q
    · rw [show decide (lo ≤ n) = false by simpa using e, Bool.false_and] at q
      exact q
def spTaker : Sp := fun vs H Q _ => ∃ (t : Addr) (e c : Int), vs = [.ref t] ∧ H t = some (.tup [.int e, .int c]) ∧ okT (e, c) ∧ Q (.bl true) H
theorem ok_is_taker (T : Top K mg) : FnOk P w K mg base CX0 2 T.a_is_taker T.fd_is_taker ["thing"] spTaker := by
  refine T.F_is_taker.ok sc_is_taker (fun vs H Q E h => ?_) (fun cdv A outer s H vs Q E hr h => ?_)
  · obtain ⟨t, e, c, rfl, _⟩ := h
    rfl
  · obtain ⟨t, e, c, rfl, ht, ok, q⟩ := h
    obtain ⟨o1, o2, o3, o4⟩ := ok
    simp only at o1 o2 o3 o4
    refine ⟨_, (pss_cons (ps_if (PW.pt (pw_or (pt_not (pt_val (pe_callB call_isi (by rfl) T.z_isinstance (by decide +kernel) (pa_cons (pv 0) (pa_cons (pe_bltn (v := .ty "tuple") (by rfl) T.z_tuple (by decide +kernel) rfl) pa_nil))))) (pw_or1 (pt_cmpR op_ne (pe_callB call_len_seq (by rfl) T.z_len (by decide +kernel) (pa_cons (pv 0) pa_nil)) pe_int (nomark _))))) (pss_one (ps_ret pe_bl)) pss_nil)
      (pss_cons (ps_asg (pv 0) (pg_tup (by rfl) (pgs_cons (pg_name (i := 1) sc_is_taker.nd rfl (.inl rfl)) (pgs_cons (pg_name (i := 2) sc_is_taker.nd rfl (.inl rfl)) pgs_nil))))
      (pss_one (ps_ret (pe_and (pe_call (ok_is_whole T) (hr.mono (by decide)) (by rfl) T.g_is_whole T.F_is_whole.kp T.b_is_whole .nil pass0 (pa_cons (pv 1) (pa_cons (pe_glob (v := .int 2) (by rfl) T.g_LEAST_EVERY ⟨_, rfl⟩) (pa_cons (pe_glob (v := .int 1000) (by rfl) T.g_MOST_EVERY ⟨_, rfl⟩) pa_nil)))) (pe_one (pe_call (ok_is_whole T) (hr.mono (by decide)) (by rfl) T.g_is_whole T.F_is_whole.kp T.b_is_whole .nil pass0 (pa_cons (pv 2) (pa_cons pe_int (pa_cons (pe_op op_sub (pv 1) pe_int) pa_nil)))))))))), ?_⟩
    refine ⟨.ref t, rfl, .ref t, .ty "tuple", .type "tuple", .type "tuple", true, rfl, .ty _, .base (.tup ht), kit_ty (by decide +kernel), true, rfl, iteF ?_⟩
    refine ⟨.ref t, rfl, t, _, rfl, .inr (st_of ht), rfl, false, rfl, iteF ?_⟩
    refine ⟨.ref t, rfl, t, _, rfl, st_of ht, rfl, .int e, _, rfl, .int c, _, rfl, rfl, ?_⟩
    refine ⟨.int e, rfl, e, 2, 1000, rfl, ?_⟩
    rw [decide_eq_true o1, decide_eq_true o2]
    refine ⟨_, rfl, iteT ?_⟩
    refine ⟨.int c, rfl, .int e, rfl, e, 1, rfl, rfl, c, 0, e - 1, rfl, ?_⟩
    rw [decide_eq_true o3, decide_eq_true o4]
    exact q
def spRow : Sp := fun vs H Q _ => ∃ (p : Addr) (r : List (Int × Int)), vs = [.ref p] ∧ RowAt H p r ∧ (∀ ec ∈ r, okT ec) ∧ r.length ≤ 8 ∧ ∀ H', Same H H' → Q (.bl true) H'
theorem ok_is_row (T : Top K mg) : FnOk P w K mg base CX0 3 T.a_is_row T.fd_is_row ["thing"] spRow := by
  refine T.F_is_row.ok sc_is_row (fun vs H Q E h => ?_) (fun cdv A outer s H vs Q E hr h => ?_)
  · obtain ⟨p, r, rfl, _⟩ := h
    rfl
  · obtain ⟨p, r, rfl, hR, ok, hlen, q⟩ := h
    obtain ⟨ts, h1, h2, h3⟩ := id hR
    refine ⟨_, (pss_cons (ps_if (PW.pt (pw_or (pt_not (pt_val (pe_callB call_isi (by rfl) T.z_isinstance (by decide +kernel) (pa_cons (pv 0) (pa_cons (pe_bltn (v := .ty "tuple") (by rfl) T.z_tuple (by decide +kernel) rfl) pa_nil))))) (pw_or1 (pt_cmpR op_gt (pe_callB call_len_seq (by rfl) T.z_len (by decide +kernel) (pa_cons (pv 0) pa_nil)) (pe_glob (v := .int 8) (by rfl) T.g_MOST_TAKERS ⟨_, rfl⟩) (nomark _))))) (pss_one (ps_ret pe_bl)) pss_nil)
      (pss_one (ps_ret (pe_callB (cr_all rfl) (by rfl) T.z_all (by decide +kernel) (pa_cons (pe_lc (own := [("part", 1)]) (by rfl) sc_is_row.nd (pi_tup (pv 0))
        (blkOk_by (own := [("part", 1)]) (N := ["thing", "part"]) (sc := defScope s_is_row) (by decide +kernel))
        (fun _ _ _ _ _ => (pg_name (i := 1) sc_is_row.nd rfl (.inl rfl))) (fun _ _ _ _ _ => pts_nil) (fun _ _ _ _ _ => (pe_call (ok_is_taker T) (hr.mono (by decide)) (by rfl) T.g_is_taker T.F_is_taker.kp T.b_is_taker .nil pass0 (pa_cons (pv 1) pa_nil)))) pa_nil))))), ?_⟩
    refine ⟨.ref p, rfl, .ref p, .ty "tuple", .type "tuple", .type "tuple", true, rfl, .ty _, .base (.tup h1), kit_ty (by decide +kernel), true, rfl, iteF ?_⟩
    refine ⟨.ref p, rfl, p, _, rfl, .inr (st_of h1), _, _, rfl, rfl, false, ?_, iteF ?_⟩
    · rw [List.length_map, h2]
      have : ¬ ((8 : Int) < (r.length : Int)) := by omega
      show V.bl (decide ((8 : Int) < (r.length : Int))) = _
      rw [decide_eq_false this]
    refine ⟨.ref p, rfl, p, rfl, ⟨_, st_of h1⟩, fun D hD => ?_⟩
    refine lc_tup (K := K) (a := p) (xs := ts.map V.ref) (fun i H' => Same H H' ∧ H' D = some (.lst ((List.replicate i true).map V.bl))) ⟨same_new hD, upd_same⟩ (fun i H' _ hp => st_of (hp.1 _ _ h1)) (fun i x H' hx hp => ?_) (fun H' hp => ?_)
    · obtain ⟨sm, hd⟩ := hp
      rw [List.getElem?_map] at hx
      cases ht : ts[i]? with
      | none => rw [ht] at hx; cases hx
      | some t =>
        rw [ht] at hx
        cases hx
        have hi : i < r.length := h2 ▸ (List.getElem?_eq_some_iff.mp ht).1
        have hi8 : i < 8 := by omega
        have hrt := h3 i t r[i] ht (List.getElem?_eq_getElem hi)
        refine ⟨rfl, yesT ?_⟩
        refine ⟨.ref t, rfl, t, _, _, rfl, sm _ _ hrt, ok _ (List.getElem_mem hi), _, hd, ?_, ?_, ?_⟩
        · rw [List.length_map, List.length_replicate]
          exact small1000 (by omega)
        · exact same_upd_new hD sm
        · rw [upd_same, List.replicate_succ', List.map_append]
          rfl
    · obtain ⟨sm, hd⟩ := hp
      refine ⟨D, _, rfl, sq_of hd, ?_⟩
      have e : (List.replicate (ts.map V.ref).length true).all id = true := by simp
      rw [e]
      exact q H' sm
def spChk : Sp := fun vs H Q _ => ∃ (p : Addr) (r : List (Int × Int)), vs = [.ref p] ∧ RowAt H p r ∧ (∀ ec ∈ r, okT ec) ∧ r.length ≤ 8 ∧ ∀ H', Same H H' → Q .non H'
theorem ok_check_row (T : Top K mg) : FnOk P w K mg base CX0 4 T.a_check_row T.fd_check_row ["thing"] spChk := by
  refine T.F_check_row.ok sc_check_row (fun vs H Q E h => ?_) (fun cdv A outer s H vs Q E hr h => ?_)
  · obtain ⟨p, r, rfl, _⟩ := h
    rfl
  · obtain ⟨p, r, rfl, hR, ok, hlen, q⟩ := h
    refine ⟨_, (pss_one (ps_if (pt_not (pt_val (pe_call (ok_is_row T) (hr.mono (by decide)) (by rfl) T.g_is_row T.F_is_row.kp T.b_is_row .nil pass0 (pa_cons (pv 0) pa_nil)))) (pss_one ps_never) pss_nil)), ?_⟩
    exact ⟨.ref p, rfl, p, r, rfl, hR, ok, hlen, fun H' sm => ⟨true, rfl, iteF (q H' sm)⟩⟩

/-! which piece comes behind -/
def spBehind : Sp := fun vs H Q _ => ∃ (p : Addr) (r : List (Int × Int)) (n : Int), vs = [.ref p, .int n] ∧ RowAt H p r ∧ (∀ ec ∈ r, okT ec) ∧ Q (.int (passF r n)) H
theorem ok_piece_behind (T : Top K mg) : FnOk P w K mg base CX0 1 T.a_piece_behind T.fd_piece_behind ["row", "number"] spBehind := by
  refine T.F_piece_behind.ok sc_piece_behind (fun vs H Q E h => ?_) (fun cdv A outer s H vs Q E hr h => ?_)
  · obtain ⟨p, r, n, rfl, _⟩ := h
    rfl
  · obtain ⟨p, r, n, rfl, hR, ok, q⟩ := h
    obtain ⟨ts, h1, h2, h3⟩ := id hR
    refine ⟨_, (pss_cons (ps_set (i := 2) sc_piece_behind.nd rfl (.inl rfl) (pv 1))
      (pss_cons (ps_for PassesOwn.never rfl (RT.pi_revA (by rfl) T.z_reversed (pv 0)) (pg_tup (by rfl) (pgs_cons (pg_name (i := 3) sc_piece_behind.nd rfl (.inl rfl)) (pgs_cons (pg_name (i := 4) sc_piece_behind.nd rfl (.inl rfl)) pgs_nil)))
        (pss_cons (ps_set (i := 5) sc_piece_behind.nd rfl (.inl rfl) (pe_op op_add (pv 4) (pv 2)))
      (pss_one (ps_aug (i := 2) sc_piece_behind.nd rfl (.inl rfl) (pe_op op_fdiv (pe_op op_sub (pv 5) pe_int) (pe_op op_sub (pv 3) pe_int)) ip_add))))
      (pss_one (ps_ret (pv 2))))), ?_⟩
    refine ⟨.int n, rfl, .ref p, rfl, p, _, rfl, .inr ⟨st_of h1, ?_⟩⟩
    refine RT.for_ItvT (K := K) (a := p) (xs := ts.map V.ref) (fun i σ H' => H' = H ∧ ∃ z y3 y4 y5, σ = [some (.ref p), some (.int n), some (.int z), y3, y4, y5] ∧ z = passF (r.drop (r.length - i)) n)
      ⟨rfl, n, none, none, none, rfl, by rw [Nat.sub_zero, List.drop_length]; rfl⟩ (fun i σ H' hp => by rw [hp.1]; exact st_of h1) (fun i x σ H' hi hx hp => ?_) (fun σ H' hp => ?_)
    · obtain ⟨rfl, z, y3, y4, y5, rfl, rfl⟩ := hp
      rw [List.length_map] at hi hx
      have hj : ts.length - 1 - i < r.length := by omega
      have ht : ts[ts.length - 1 - i]? = some ts[ts.length - 1 - i] := List.getElem?_eq_getElem (by omega)
      rw [List.getElem?_map, ht] at hx
      cases hx
      have he := List.getElem?_eq_getElem hj
      obtain ⟨⟨e, c⟩, hec⟩ : ∃ ec, r[ts.length - 1 - i] = ec := ⟨_, rfl⟩
      rw [hec] at he
      have hok : okT (e, c) := hec ▸ ok _ (List.getElem_mem hj)
      have o1 : 2 ≤ e := hok.1
      have o2 : e ≤ 1000 := hok.2.1
      have hrt := h3 _ _ _ ht he
      refine ⟨_, _, rfl, st_of hrt, rfl, _, _, rfl, _, _, rfl, rfl, ?_⟩
      refine ⟨.int c, rfl, _, rfl, c, _, rfl, rfl, ?_⟩
      refine ⟨_, rfl, _, rfl, _, 1, rfl, rfl, .int e, rfl, e, 1, rfl, rfl, _, e - 1, rfl, rfl, ⟨by show 0 < e - 1; omega, by show e - 1 < 1073741824; omega⟩, _, _, rfl, rfl, rfl, _, _, _, _, rfl, ?_⟩
      have e1 : r.drop (r.length - (i + 1)) = (e, c) :: r.drop (r.length - i) := by
        have : r.length - (i + 1) = ts.length - 1 - i := by omega
        rw [this, List.drop_eq_getElem_cons hj, hec]
        congr 2
        omega
      rw [e1]
      rfl
    · obtain ⟨rfl, z, y3, y4, y5, rfl, rfl⟩ := hp
      rw [List.length_map, h2, Nat.sub_self, List.drop_zero]
      exact ⟨_, rfl, q⟩

/-! where two rows part -/
def ofI : Option Int → V
  | none => .non
  | some i => .int i
theorem eq_tks {K : PySem.W.Frag} {H : Hp} {a b : Addr} {f g : Int × Int} {Q : VK} (ha : H a = some (.tup [.int f.1, .int f.2])) (hb : H b = some (.tup [.int g.1, .int g.2])) (q : Q (.bl (decide (f = g))) H) : rEqD K (.ref a) (.ref b) H Q := by
  refine ⟨_, _, dp_tk ha, dp_tk hb, rfl, rfl, ?_⟩
  rw [eqv_tk]
  exact q
def spTku : Sp := fun vs H Q _ => ∃ (s t : Addr) (x y : Int × Int), vs = [.ref s, .ref t] ∧ H s = some (.tup [.int x.1, .int x.2]) ∧ H t = some (.tup [.int y.1, .int y.2]) ∧ Q (ofI (tku x y)) H
theorem ok_taken_unlike (T : Top K mg) : FnOk P w K mg base CX0 1 T.a_taken_unlike T.fd_taken_unlike ["one", "other"] spTku := by
  refine T.F_taken_unlike.ok sc_taken_unlike (fun vs H Q E h => ?_) (fun cdv A outer s H vs Q E hr h => ?_)
  · obtain ⟨a, b, x, y, rfl, _⟩ := h
    rfl
  · obtain ⟨a, b, x, y, rfl, ha, hb, q⟩ := h
    refine ⟨_, (pss_cons (ps_if (pt_cmpR (op_eqD hr.units) (pv 0) (pv 1) (nomark _)) (pss_one (ps_ret pe_non)) pss_nil)
      (pss_cons (ps_set (i := 2) sc_taken_unlike.nd rfl (.inl rfl) (pe_op op_sub (pe_ix ix_tup (pv 0) pe_int (fun _ _ => rfl)) (pe_ix ix_tup (pv 0) pe_int (fun _ _ => rfl))))
      (pss_cons (ps_set (i := 3) sc_taken_unlike.nd rfl (.inl rfl) (pe_op op_sub (pe_ix ix_tup (pv 1) pe_int (fun _ _ => rfl)) (pe_ix ix_tup (pv 1) pe_int (fun _ _ => rfl))))
      (pss_cons (ps_if (pt_cmpR op_ne (pv 2) (pv 3) (nomark _)) (pss_one (ps_ret (pe_callB (call_min2 rfl) (by rfl) T.z_min (by decide +kernel) (pa_cons (pv 2) (pa_cons (pv 3) pa_nil))))) pss_nil)
      (pss_one (ps_ret (pe_op op_add (pv 2) (pe_callB (call_min2 rfl) (by rfl) T.z_min (by decide +kernel) (pa_cons (pe_ix ix_tup (pv 0) pe_int (fun _ _ => rfl)) (pa_cons (pe_ix ix_tup (pv 1) pe_int (fun _ _ => rfl)) pa_nil)))))))))), ?_⟩
    refine ⟨.ref a, rfl, .ref b, rfl, eq_tks ha hb ⟨_, rfl, ite2 (fun z => ?_) (fun z => ?_)⟩⟩
    · have e : tku x y = none := tku_none.mpr (of_decide_eq_true z)
      rw [e] at q
      exact q
    · have hne : ¬ x = y := fun e => z (decide_eq_true e)
      refine ⟨.ref a, rfl, a, _, 0, .int x.1, rfl, rfl, st_of ha, rfl, .ref a, rfl, a, _, 1, .int x.2, rfl, rfl, st_of ha, rfl, _, _, rfl, rfl, ?_⟩
      refine ⟨.ref b, rfl, b, _, 0, .int y.1, rfl, rfl, st_of hb, rfl, .ref b, rfl, b, _, 1, .int y.2, rfl, rfl, st_of hb, rfl, _, _, rfl, rfl, ?_⟩
      refine ⟨_, rfl, _, rfl, rfl, _, rfl, ite2 (fun c => ?_) (fun c => ?_)⟩
      · have c : (!decide (V.int (x.1 - x.2) = V.int (y.1 - y.2))) = true := c
        have hc : x.1 - x.2 ≠ y.1 - y.2 := fun e => by
          rw [e, decide_eq_true rfl] at c
          cases c
        refine ⟨_, rfl, _, rfl, _, _, rfl, ?_⟩
        have e : tku x y = some (if y.1 - y.2 < x.1 - x.2 then y.1 - y.2 else x.1 - x.2) := by
          unfold tku
          rw [if_neg hne, if_pos hc]
          congr 1
          split <;> omega
        rw [e] at q
        exact q
      · have c : ¬ (!decide (V.int (x.1 - x.2) = V.int (y.1 - y.2))) = true := c
        have hc : x.1 - x.2 = y.1 - y.2 := by
          rcases Int.lt_trichotomy (x.1 - x.2) (y.1 - y.2) with w | w | w
          · refine absurd ?_ c
            rw [decide_eq_false (fun z2 => by have := V.int.inj z2; omega)]
            rfl
          · exact w
          · refine absurd ?_ c
            rw [decide_eq_false (fun z2 => by have := V.int.inj z2; omega)]
            rfl
        refine ⟨_, rfl, .ref a, rfl, a, _, 0, .int x.1, rfl, rfl, st_of ha, rfl, .ref b, rfl, b, _, 0, .int y.1, rfl, rfl, st_of hb, rfl, _, _, rfl, _, _, rfl, rfl, ?_⟩
        have e : tku x y = some (x.1 - x.2 + (if y.1 < x.1 then y.1 else x.1)) := by
          unfold tku
          rw [if_neg hne, if_neg (fun h => h hc)]
          congr 2
          split <;> omega
        rw [e] at q
        exact q
def spParted : Sp := fun vs H Q _ => ∃ (p p' : Addr) (r r' : List (Int × Int)), vs = [.ref p, .ref p'] ∧ RowAt H p r ∧ RowAt H p' r' ∧ (∀ ec ∈ r, okT ec) ∧ (∀ ec ∈ r', okT ec) ∧ r.length ≤ 8 ∧ r.length = r'.length ∧ ∀ H', Same H H' → Q (ofI (partF r r')) H'
theorem ok_parted (T : Top K mg) : FnOk P w K mg base CX0 5 T.a_parted T.fd_parted ["one", "other"] spParted := by
  refine T.F_parted.ok sc_parted (fun vs H Q E h => ?_) (fun cdv A outer s H vs Q E hr h => ?_)
  · obtain ⟨p, p', r, r', rfl, _⟩ := h
    rfl
  · obtain ⟨p, p', r, r', rfl, hR, hR', ok, ok', hlen, heq, q⟩ := h
    refine ⟨_, (pss_cons (ps_expr (pe_call (ok_check_row T) (hr.mono (by decide)) (by rfl) T.g_check_row T.F_check_row.kp T.b_check_row .nil pass0 (pa_cons (pv 0) pa_nil)))
      (pss_cons (ps_expr (pe_call (ok_check_row T) (hr.mono (by decide)) (by rfl) T.g_check_row T.F_check_row.kp T.b_check_row .nil pass0 (pa_cons (pv 1) pa_nil)))
      (pss_cons (ps_if (pt_cmpR op_ne (pe_callB call_len_seq (by rfl) T.z_len (by decide +kernel) (pa_cons (pv 0) pa_nil)) (pe_callB call_len_seq (by rfl) T.z_len (by decide +kernel) (pa_cons (pv 1) pa_nil)) (nomark _)) (pss_one ps_never) pss_nil)
      (pss_cons (ps_set (i := 2) sc_parted.nd rfl (.inl rfl) (pe_lst pa_nil))
      (pss_cons (ps_for PassesOwn.never rfl (pi_range1 (by rfl) T.z_range (pa_cons (pe_callB call_len_seq (by rfl) T.z_len (by decide +kernel) (pa_cons (pv 0) pa_nil)) pa_nil)) (pg_name (i := 3) sc_parted.nd rfl (.inl rfl))
        (pss_cons (ps_set (i := 4) sc_parted.nd rfl (.inl rfl) (pe_call (ok_taken_unlike T) (hr.mono (by decide)) (by rfl) T.g_taken_unlike T.F_taken_unlike.kp T.b_taken_unlike .nil pass0 (pa_cons (pe_ix ix_tup (pv 0) (pv 3) (fun _ _ => rfl)) (pa_cons (pe_ix ix_tup (pv 1) (pv 3) (fun _ _ => rfl)) pa_nil))))
      (pss_one (ps_if (pt_cmpR op_notN (pv 4) pe_non (nomark _)) (pss_one (ps_expr (pe_bm PySem.F.plainAttrs_list PySem.F.slot_list_append PySem.F.type_list_append mt_append (pv 2) (pa_cons (pe_call (ok_piece_behind T) (hr.mono (by decide)) (by rfl) T.g_piece_behind T.F_piece_behind.kp T.b_piece_behind .nil pass0 (pa_cons (pe_slice sl_tupA (pv 0) po_none (po_some (pv 3))) (pa_cons (pv 4) pa_nil))) pa_nil)))) pss_nil))))
      (pss_one (ps_ret (pe_callBK (cr_minDef rfl) (by rfl) T.z_min (by decide +kernel) (pa_cons (pv 2) pa_nil) (pk_cons pe_non pk_nil))))))))), ?_⟩
    refine ⟨.ref p, rfl, p, r, rfl, hR, ok, hlen, fun H1 s1 => ?_⟩
    refine ⟨.ref p', rfl, p', r', rfl, hR'.keep (tupS_of s1), ok', by omega, fun H2 s2 => ?_⟩
    have s12 := s1.trans s2
    obtain ⟨ts, h1, h2, h3⟩ := hR.keep (tupS_of s12)
    obtain ⟨us, g1, g2, g3⟩ := hR'.keep (tupS_of s12)
    refine ⟨.ref p, rfl, p, _, rfl, .inr (st_of h1), .ref p', rfl, p', _, rfl, .inr (st_of g1), rfl, false, ?_, iteF ?_⟩
    · rw [List.length_map, List.length_map, h2, g2, heq, decide_eq_true rfl]
      rfl
    refine ⟨Nat.zero_le _, fun D nD => ?_⟩
    have sD := same_new (o := .lst []) nD
    refine ⟨.ref p, rfl, p, _, rfl, .inr (st_of (sD _ _ h1)), _, rfl, by rw [List.length_map]; omega, by rw [List.length_map]; omega, ?_⟩
    refine for_range (lo := 0) (n := ((ts.map V.ref).length : Int).toNat) (fun i σ H' => Same H2 H' ∧ H' D = some (.lst ((pcsF r r' i).map V.int)) ∧ ∃ y3 y4 : Option V, σ = [some (.ref p), some (.ref p'), some (.ref D), y3, y4])
      ⟨sD, upd_same, none, none, rfl⟩ (fun i σ H3 hi hp => ?_) (fun σ H3 hp => ?_)
    · obtain ⟨s3, hD, y3, y4, rfl⟩ := hp
      have hi1 : i < ts.length := by rw [List.length_map] at hi; omega
      have hi2 : i < us.length := by omega
      have ht := List.getElem?_eq_getElem hi1
      have hu := List.getElem?_eq_getElem hi2
      have hir : i < r.length := by omega
      have hir' : i < r'.length := by omega
      have hx := List.getElem?_eq_getElem hir
      have hy := List.getElem?_eq_getElem hir'
      obtain ⟨x, hxe⟩ : ∃ x, r[i] = x := ⟨_, rfl⟩
      obtain ⟨y, hye⟩ : ∃ y, r'[i] = y := ⟨_, rfl⟩
      rw [hxe] at hx
      rw [hye] at hy
      have vx := s3 _ _ (h3 i _ _ ht hx)
      have vy := s3 _ _ (g3 i _ _ hu hy)
      have pc : pcAt r r' i = (tku x y).map (passF (r.take i)) := by
        unfold pcAt
        simp only [hx, hy]
      have pl := pcs_len r r' i
      refine ⟨.ref p, rfl, .int (0 + (i : Int)), rfl, p, _, 0 + (i : Int), .ref ts[i], rfl, rfl, st_of (s3 _ _ h1), at_of (j := i) (by omega) (by rw [List.getElem?_map, ht]; rfl), ?_⟩
      refine ⟨.ref p', rfl, .int (0 + (i : Int)), rfl, p', _, 0 + (i : Int), .ref us[i], rfl, rfl, st_of (s3 _ _ g1), at_of (j := i) (by omega) (by rw [List.getElem?_map, hu]; rfl), ?_⟩
      refine ⟨ts[i], us[i], x, y, rfl, vx, vy, ?_⟩
      cases hk : tku x y with
      | none =>
        refine ⟨.non, rfl, rfl, false, rfl, iteF ⟨s3, ?_, _, _, rfl⟩⟩
        rw [pcs_succ, pc, hk]
        simpa using hD
      | some c =>
        refine ⟨.int c, rfl, rfl, true, rfl, iteT ?_⟩
        refine ⟨.ref D, rfl, .inl ⟨rfl, _, sq_of hD⟩, .ref p, rfl, .int (0 + (i : Int)), rfl, 0 + (i : Int), rfl, slice_use (s3 _ _ h1) fun qd H4 s4 hqd => ?_⟩
        have hc : cutV (ts.map V.ref) none (some (0 + (i : Int))) = (ts.map V.ref).take i := cut_to (by omega) (by rw [List.length_map]; omega)
        rw [hc] at hqd
        have hrt : RowAt H4 qd (r.take i) := by
          have pa : PairsAt H4 (ts.take i) (r.take i) := (PairsAt.take ⟨h2, h3⟩ i).keep (tupS_of (s3.trans s4))
          exact pa.row (by rw [hqd, List.map_take])
        refine ⟨.int c, rfl, qd, r.take i, c, rfl, hrt, take_ok ok i, D, _, _, rfl, rfl, s4 _ _ hD, ?_, same_upd_new nD (s3.trans s4), ?_, _, _, rfl⟩
        · rw [List.length_map]
          exact small1000 (by omega)
        · rw [upd_same, pcs_succ, pc, hk, List.map_append]
          rfl
    · obtain ⟨s3, hD, y3, y4, rfl⟩ := hp
      have e : ((ts.map V.ref).length : Int).toNat = r.length := by rw [List.length_map]; omega
      rw [e] at hD
      have im := part_isMin r r' heq ok
      refine ⟨.ref D, rfl, D, pcsF r r' r.length, .non, rfl, rfl, sq_of hD, fun e => ?_, fun m hm hle => ?_⟩
      · have := q _ (s12.trans s3)
        rw [isMin_nil im e] at this
        exact this
      · have := q _ (s12.trans s3)
        rw [isMin_uniq im hm hle] at this
        exact this

/-! the law's draws -/
def spCell (K : PySem.W.Frag) : Sp := fun vs H Q _ => ∃ (a : Addr) (ns : List Int) (k : Int), vs = [.ref a, .int k] ∧ SqL K H a (ns.map V.int) ∧ 0 ≤ k ∧ ∀ v : Int, Q (.int v) H
theorem ok__law_cell_at (T : Top K mg) : FnOk P w K mg base CX0 1 T.a__law_cell_at T.fd__law_cell_at ["script", "k"] (spCell K) := by
  refine T.F__law_cell_at.ok sc__law_cell_at (fun vs H Q E h => ?_) (fun cdv A outer s H vs Q E hr h => ?_)
  · obtain ⟨a, ns, k, rfl, _⟩ := h
    rfl
  · obtain ⟨a, ns, k, rfl, hS, k0, q⟩ := h
    refine ⟨_, (pss_cons (ps_if (pt_cmpR op_lt (pv 1) (pe_callB call_len_seq (by rfl) T.z_len (by decide +kernel) (pa_cons (pv 0) pa_nil)) (nomark _)) (pss_one (ps_ret (pe_ix ix_list (pv 0) (pv 1) (fun _ _ => rfl)))) pss_nil)
      (pss_one (ps_ret pe_int))), ?_⟩
    refine ⟨.int k, rfl, .ref a, rfl, a, _, rfl, .inl hS, k, _, rfl, rfl, _, rfl, ite2 (fun e => ?_) (fun e => ?_)⟩
    · have e1 : k < ((ns.map V.int).length : Int) := of_decide_eq_true e
      rw [List.length_map] at e1
      have e2 : k.toNat < ns.length := by omega
      exact ⟨.ref a, rfl, .int k, rfl, a, _, k, .int ns[k.toNat], rfl, rfl, hS, at_of (j := k.toNat) (by omega) (by rw [List.getElem?_map, List.getElem?_eq_getElem e2]; rfl), q _⟩
    · exact q 0
def spDraws : Sp := fun vs H Q _ => ∃ cell : Int, vs = [.int cell, .int 400, .int 1000] ∧
  ∀ H' p (ds : List Int), Same H H' → H p = none → H' p = some (.lst (ds.map V.int)) → ds.length = 400 → (∀ x ∈ ds, 0 ≤ x ∧ x < 1000) → Q (.ref p) H'
theorem grow {ds : List Int} {v : Int} (h : ∀ x ∈ ds, 0 ≤ x ∧ x < 1000) (h0 : 0 ≤ v) (h1 : v < 1000) : ∀ x ∈ ds ++ [v], 0 ≤ x ∧ x < 1000 := fun x hx => by
  rcases List.mem_append.mp hx with z | z
  · exact h x z
  · rw [List.mem_singleton.mp z]
    exact ⟨h0, h1⟩
theorem ok__law_draws (T : Top K mg) : FnOk P w K mg base CX0 1 T.a__law_draws T.fd__law_draws ["cell", "many", "size"] spDraws := by
  refine T.F__law_draws.ok sc__law_draws (fun vs H Q E h => ?_) (fun cdv A outer s H vs Q E hr h => ?_)
  · obtain ⟨cell, rfl, _⟩ := h
    rfl
  · obtain ⟨cell, rfl, q⟩ := h
    refine ⟨_, (pss_cons (ps_set (i := 3) sc__law_draws.nd rfl (.inl rfl) (pe_lst pa_nil))
      (pss_cons (ps_set (i := 4) sc__law_draws.nd rfl (.inl rfl) (pe_op op_mul (pv 0) (pe_callTy call_int1 (by rfl) T.z_int (by decide +kernel) (pa_cons (pe_cmpR op_ge (pv 0) (pe_op op_pow pe_int pe_int) (nomark _)) pa_nil))))
      (pss_cons (ps_set (i := 5) sc__law_draws.nd rfl (.inl rfl) (pe_op op_mod (pv 0) pe_int))
      (pss_cons (ps_for PassesOwn.never rfl (pi_range1 (by rfl) T.z_range (pa_cons (pe_op op_add (pv 1) pe_int) pa_nil)) (pg_name (i := 6) sc__law_draws.nd rfl (.inl rfl))
        (pss_cons (ps_set (i := 5) sc__law_draws.nd rfl (.inl rfl) (pe_op op_mod (pe_op op_add (pe_op op_add (pe_op op_add (pe_op op_mul (pv 5) (pv 5)) (pe_op op_mul pe_int (pv 5))) (pv 6)) pe_int) pe_int))
      (pss_one (ps_if (PW.pt (pw_and (pt_cmpR op_gt (pv 6) pe_int (nomark _)) (pw_and1 (pt_cmpR op_gt (pv 4) pe_int (nomark _))))) (pss_cons (ps_expr (pe_bm PySem.F.plainAttrs_list PySem.F.slot_list_append PySem.F.type_list_append mt_append (pv 3) (pa_cons (pe_op op_mod (pv 4) (pv 2)) pa_nil)))
      (pss_one (ps_set (i := 4) sc__law_draws.nd rfl (.inl rfl) (pe_op op_fdiv (pv 4) (pv 2))))) (pss_one (ps_if (pt_cmpR op_gt (pv 6) pe_int (nomark _)) (pss_one (ps_expr (pe_bm PySem.F.plainAttrs_list PySem.F.slot_list_append PySem.F.type_list_append mt_append (pv 3) (pa_cons (pe_op op_mod (pe_op op_fdiv (pv 5) pe_int) (pv 2)) pa_nil)))) pss_nil))))))
      (pss_one (ps_ret (pv 3))))))), ?_⟩
    refine ⟨Nat.zero_le _, fun o no => ?_⟩
    refine ⟨.int cell, rfl, .int cell, rfl, 10, 18, rfl, rfl, ⟨by decide, by decide, by decide⟩, cell, _, rfl, rfl, .inr ⟨_, rfl, cell, _, rfl, rfl, .inr ?_, ?_⟩⟩
    · split <;> exact ⟨by decide, by decide⟩
    refine ⟨.int cell, rfl, cell, 2305843009213693951, rfl, rfl, (by decide : (0 : Int) < 2305843009213693951), ?_⟩
    refine ⟨.int 400, rfl, 400, 3, rfl, rfl, _, rfl, by decide, by decide, ?_⟩
    refine for_range (lo := 0) (n := 403) (fun i σ H' => Same H H' ∧ ∃ (rest st : Int) (y : Option V) (ds : List Int), σ = [some (.int cell), some (.int 400), some (.int 1000), some (.ref o), some (.int rest), some (.int st), y] ∧ 0 ≤ st ∧ st < 2305843009213693951 ∧ H' o = some (.lst (ds.map V.int)) ∧ ds.length = i - 3 ∧ ∀ x ∈ ds, 0 ≤ x ∧ x < 1000)
      ⟨same_new no, _, _, none, [], rfl, Int.emod_nonneg _ (by decide), Int.emod_lt_of_pos _ (by decide), upd_same, rfl, fun x hx => nomatch hx⟩ (fun i σ H' hi hp => ?_) (fun σ H' hp => ?_)
    · obtain ⟨sm, rest, st, y, ds, rfl, s0, s1, ho, hl, hb⟩ := hp
      refine ⟨.int st, rfl, .int st, rfl, st, st, rfl, rfl, .inl ⟨by omega, by omega⟩, .int st, rfl, 48271, st, rfl, rfl, .inl ⟨by decide, by decide⟩, _, _, rfl, rfl, .int (0 + (i : Int)), rfl, _, _, rfl, rfl, _, _, rfl, rfl, _, 2305843009213693951, rfl, rfl, (by decide : (0 : Int) < 2305843009213693951), ?_⟩
      have nn : ∀ z : Int, 0 ≤ z % 2305843009213693951 ∧ z % 2305843009213693951 < 2305843009213693951 := fun z => ⟨Int.emod_nonneg _ (by decide), Int.emod_lt_of_pos _ (by decide)⟩
      have nk : ∀ z : Int, 0 ≤ z % 1000 ∧ z % 1000 < 1000 := fun z => ⟨Int.emod_nonneg _ (by decide), Int.emod_lt_of_pos _ (by decide)⟩
      have sz : (ds.map V.int).length < sizeLine := by
        rw [List.length_map, hl]
        exact small1000 (by omega)
      refine ⟨.int (0 + (i : Int)), rfl, _, 2, rfl, rfl, _, rfl, ite2 (fun e => ?_) (fun e => ?_)⟩
      · have e1 : (2 : Int) < 0 + (i : Int) := of_decide_eq_true e
        refine ⟨.int rest, rfl, rest, 0, rfl, rfl, _, rfl, ite2 (fun e2 => ?_) (fun e2 => ?_)⟩
        · refine ⟨.ref o, rfl, .inl ⟨rfl, _, sq_of ho⟩, .int rest, rfl, .int 1000, rfl, rest, 1000, rfl, rfl, (by decide : (0 : Int) < 1000), o, _, _, rfl, rfl, ho, sz, ?_⟩
          refine ⟨.int rest, rfl, .int 1000, rfl, rest, 1000, rfl, rfl, ⟨by decide, by decide⟩, same_upd_new no sm, _, _, _, ds ++ [rest % 1000], rfl, (nn _).1, (nn _).2, ?_, ?_, grow hb (nk _).1 (nk _).2⟩
          · rw [upd_same, List.map_append]
            rfl
          · rw [List.length_append, hl]
            show i - 3 + 1 = i + 1 - 3
            omega
        · refine ⟨.int (0 + (i : Int)), rfl, _, 2, rfl, rfl, _, rfl, ?_⟩
          rw [e]
          refine iteT ⟨.ref o, rfl, .inl ⟨rfl, _, sq_of ho⟩, _, rfl, _, 4096, rfl, rfl, ⟨by decide, by decide⟩, .int 1000, rfl, _, 1000, rfl, rfl, (by decide : (0 : Int) < 1000), o, _, _, rfl, rfl, ho, sz, ?_⟩
          refine ⟨same_upd_new no sm, rest, _, _, ds ++ [(st * st + 48271 * st + (0 + (i : Int)) + 1) % 2305843009213693951 / 4096 % 1000], rfl, (nn _).1, (nn _).2, ?_, ?_, grow hb (nk _).1 (nk _).2⟩
          · rw [upd_same, List.map_append]
            rfl
          · rw [List.length_append, hl]
            show i - 3 + 1 = i + 1 - 3
            omega
      · refine iteF ?_
        refine ⟨.int (0 + (i : Int)), rfl, _, 2, rfl, rfl, _, rfl, ?_⟩
        have e0 : ¬ (2 : Int) < 0 + (i : Int) := fun z => e (decide_eq_true z)
        rw [show decide ((2 : Int) < 0 + (i : Int)) = false from decide_eq_false e0]
        exact iteF ⟨sm, rest, _, _, ds, rfl, (nn _).1, (nn _).2, ho, by omega, hb⟩
    · obtain ⟨sm, rest, st, y, ds, rfl, s0, s1, ho, hl, hb⟩ := hp
      exact ⟨.ref o, rfl, q H' o ds sm no ho hl hb⟩
def spBag (K : PySem.W.Frag) : Sp := fun vs H Q _ => ∃ (a : Addr) (ns : List Int) (k : Int), vs = [.ref a, .int k] ∧ SqL K H a (ns.map V.int) ∧ 0 ≤ k ∧ ∀ H' b, Same H H' → H b = none → Bag H' b → Q (.ref b) H'
theorem ok__law_bag (T : Top K mg) : FnOk P w K mg base CX0 2 T.a__law_bag T.fd__law_bag ["script", "k"] (spBag K) := by
  refine T.F__law_bag.ok sc__law_bag (fun vs H Q E h => ?_) (fun cdv A outer s H vs Q E hr h => ?_)
  · obtain ⟨a, ns, k, rfl, _⟩ := h
    rfl
  · obtain ⟨a, ns, k, rfl, hS, k0, q⟩ := h
    refine ⟨_, (pss_one (ps_ret (pe_lst (pa_cons (pe_call (ok__law_draws T) (hr.mono (by decide)) (by rfl) T.g__law_draws T.F__law_draws.kp T.b__law_draws .nil pass0 (pa_cons (pe_call (ok__law_cell_at T) (hr.mono (by decide)) (by rfl) T.g__law_cell_at T.F__law_cell_at.kp T.b__law_cell_at .nil pass0 (pa_cons (pv 0) (pa_cons (pv 1) pa_nil))) (pa_cons pe_int (pa_cons pe_int pa_nil)))) (pa_cons pe_int pa_nil))))), ?_⟩
    refine ⟨.ref a, rfl, .int k, rfl, a, ns, k, rfl, hS, k0, fun v => ⟨v, rfl, fun H1 d ds s1 nd hd hl hb => ⟨by show 2 ≤ sizeLine; decide, fun b nb => q _ b (s1.trans (same_new nb)) (s1.free nb) ?_⟩⟩⟩
    exact ⟨d, ds, 0, upd_same, by rw [upd_ne (ne_of_none hd nb)]; exact hd, hl, hb, Int.le_refl 0⟩
def spBags (K : PySem.W.Frag) : Sp := fun vs H Q _ => ∃ (a : Addr) (ns : List Int) (lim : Int), vs = [.ref a, .int lim] ∧ SqL K H a (ns.map V.int) ∧ 1 ≤ lim ∧ lim ≤ 63 ∧
  ∀ H' p (bs : List Addr), Same H H' → H p = none → H' p = some (.lst (bs.map V.ref)) → (∀ b ∈ bs, Bag H' b) → Q (.ref p) H'
theorem ok__law_bags (T : Top K mg) : FnOk P w K mg base CX0 3 T.a__law_bags T.fd__law_bags ["script", "limit"] (spBags K) := by
  refine T.F__law_bags.ok sc__law_bags (fun vs H Q E h => ?_) (fun cdv A outer s H vs Q E hr h => ?_)
  · obtain ⟨a, ns, lim, rfl, _⟩ := h
    rfl
  · obtain ⟨a, ns, lim, rfl, hS, l1, l2, q⟩ := h
    refine ⟨_, (pss_one (ps_ret (pe_lc (own := [("k", 2)]) (by rfl) sc__law_bags.nd (pi_range1 (by rfl) T.z_range (pa_cons (pe_callB (call_max2 rfl) (by rfl) T.z_max (by decide +kernel) (pa_cons pe_int (pa_cons (pe_callB (call_min2 rfl) (by rfl) T.z_min (by decide +kernel) (pa_cons (pv 1) (pa_cons (pe_callB call_len_seq (by rfl) T.z_len (by decide +kernel) (pa_cons (pv 0) pa_nil)) pa_nil))) pa_nil))) pa_nil))
        (blkOk_by (own := [("k", 2)]) (N := ["script", "limit", "k"]) (sc := defScope s__law_bags) (by decide +kernel))
        (fun _ _ _ _ _ => (pg_name (i := 2) sc__law_bags.nd rfl (.inl rfl))) (fun _ _ _ _ _ => pts_nil) (fun _ _ _ _ _ => (pe_call (ok__law_bag T) (hr.mono (by decide)) (by rfl) T.g__law_bag T.F__law_bag.kp T.b__law_bag .nil pass0 (pa_cons (pv 0) (pa_cons (pv 2) pa_nil))))))), ?_⟩
    obtain ⟨m, hm⟩ : ∃ m : Int, m = if (if ((ns.map V.int).length : Int) < lim then ((ns.map V.int).length : Int) else lim) > 1 then (if ((ns.map V.int).length : Int) < lim then ((ns.map V.int).length : Int) else lim) else 1 := ⟨_, rfl⟩
    have m1 : 1 ≤ m := by rw [hm]; split <;> omega
    have m2 : m ≤ 63 := by rw [hm]; split <;> (try split) <;> omega
    refine ⟨.int lim, rfl, .ref a, rfl, a, _, rfl, .inl hS, lim, _, rfl, 1, _, rfl, m, congrArg (fun z => [V.int z]) hm.symm, by omega, by omega, fun D hD => ?_⟩
    refine lc_range (lo := 0) (n := m.toNat) (fun i H' => Same H H' ∧ ∃ bs : List Addr, H' D = some (.lst (bs.map V.ref)) ∧ bs.length = i ∧ ∀ b ∈ bs, Bag H' b)
      ⟨same_new hD, [], upd_same, rfl, fun b hb => nomatch hb⟩ (fun i H' hi hp => ?_) (fun H' hp => ?_)
    · obtain ⟨sm, bs, h1, h2, h3⟩ := hp
      refine ⟨rfl, yesT ?_⟩
      refine ⟨.ref a, rfl, .int (0 + (i : Int)), rfl, a, ns, _, rfl, sm.seq hS, by omega, fun H4 b s4 nb hb => ⟨_, s4 _ _ h1, ?_, same_upd_new hD (sm.trans s4), bs ++ [b], ?_, ?_, fun b' hb' => ?_⟩⟩
      · rw [List.length_map, h2]
        exact small1000 (by omega)
      · rw [upd_same, List.map_append]
        rfl
      · rw [List.length_append, h2]
        rfl
      · have k4 : Bag H4 b' := by
          rcases List.mem_append.mp hb' with z | z
          · exact (h3 b' z).same s4
          · rw [List.mem_singleton.mp z]
            exact hb
        exact k4.upd_refs (s4 _ _ h1)
    · obtain ⟨sm, bs, h1, h2, h3⟩ := hp
      exact q H' D bs sm hD h1 h3
def spTake : Sp := fun vs H Q _ => ∃ (b : Addr) (m : Int), vs = [.ref b, .int m] ∧ Bag H b ∧ 0 < m ∧ ∀ H' (r : Int), Kb b H H' → Bag H' b → 0 ≤ r → r < m → Q (.int r) H'
theorem ok__law_take (T : Top K mg) : FnOk P w K mg base CX0 1 T.a__law_take T.fd__law_take ["bag", "many"] spTake := by
  refine T.F__law_take.ok sc__law_take (fun vs H Q E h => ?_) (fun cdv A outer s H vs Q E hr h => ?_)
  · obtain ⟨b, m, rfl, _⟩ := h
    rfl
  · obtain ⟨b, m, rfl, hB, m0, q⟩ := h
    obtain ⟨d, ds, c, h1, h2, h3, h4, h5⟩ := id hB
    refine ⟨_, (pss_cons (ps_asg (pe_op op_add (pe_ix ix_list (pv 0) pe_int (fun _ _ => rfl)) pe_int) (pg_sub (pv 0) pe_int set_list))
      (pss_one (ps_ret (pe_op op_mod (pe_ix ix_list (pe_ix ix_list (pv 0) pe_int (fun _ _ => rfl)) (pe_op op_mod (pe_ix ix_list (pv 0) pe_int (fun _ _ => rfl)) (pe_callB call_len_seq (by rfl) T.z_len (by decide +kernel) (pa_cons (pe_ix ix_list (pv 0) pe_int (fun _ _ => rfl)) pa_nil))) (fun _ _ => rfl)) (pv 1))))), ?_⟩
    refine ⟨.ref b, rfl, b, _, 1, .int c, rfl, rfl, sq_of h1, rfl, c, 1, rfl, rfl, .ref b, rfl, b, _, 1, 1, rfl, rfl, h1, rfl, ?_⟩
    have ndb : d ≠ b := ne_of h2 h1 (by
      intro z
      have z2 := congrArg List.length (HO.lst.inj z)
      rw [List.length_map, h3] at z2
      simp at z2)
    have g1 : (upd H b (.lst [.ref d, .int (c + 1)])) b = some (.lst [.ref d, .int (c + 1)]) := upd_same
    have g2 : (upd H b (.lst [.ref d, .int (c + 1)])) d = some (.lst (ds.map V.int)) := by rw [upd_ne ndb]; exact h2
    have j0 : 0 ≤ (c + 1) % 400 := Int.emod_nonneg _ (by decide)
    have j1 : (c + 1) % 400 < 400 := Int.emod_lt_of_pos _ (by decide)
    have jl : ((c + 1) % 400).toNat < ds.length := by omega
    have ll : ((ds.map V.int).length : Int) = 400 := by rw [List.length_map, h3]; rfl
    refine ⟨.ref b, rfl, b, _, 0, .ref d, rfl, rfl, sq_of g1, rfl, .ref b, rfl, b, _, 1, .int (c + 1), rfl, rfl, sq_of g1, rfl, .ref b, rfl, b, _, 0, .ref d, rfl, rfl, sq_of g1, rfl, d, _, rfl, .inl (sq_of g2), c + 1, 400, rfl, congrArg V.int ll, (by decide : (0 : Int) < 400),
      d, _, (c + 1) % 400, .int ds[((c + 1) % 400).toNat], rfl, rfl, sq_of g2, at_of (j := ((c + 1) % 400).toNat) (by omega) (by rw [List.getElem?_map, List.getElem?_eq_getElem jl]; rfl), .int m, rfl, _, m, rfl, rfl, m0, ?_⟩
    exact q _ _ (fun a o na ha => by rw [upd_ne na]; exact ha) ⟨d, ds, c + 1, g1, g2, h3, h4, by omega⟩ (Int.emod_nonneg _ (by omega)) (Int.emod_lt_of_pos _ m0)

/-! drawn rows -/
def spTk : Sp := fun vs H Q _ => ∃ (b : Addr) (far : Int), vs = [.ref b, .int far] ∧ Bag H b ∧ 2 ≤ far ∧ far ≤ 1000 ∧
  ∀ H' t (e c : Int), Kb b H H' → Bag H' b → H t = none → H' t = some (.tup [.int e, .int c]) → okT (e, c) → e ≤ far → Q (.ref t) H'
theorem at2 {a b : V} {i : Int} (h0 : 0 ≤ i) (h1 : i < 2) : atI [a, b] i = some (if i = 0 then a else b) := by
  have : i = 0 ∨ i = 1 := by omega
  rcases this with rfl | rfl <;> rfl
theorem at3 {a b c : V} {i : Int} (h0 : 0 ≤ i) (h1 : i < 3) : atI [a, b, c] i = some (if i = 0 then a else if i = 1 then b else c) := by
  have : i = 0 ∨ i = 1 ∨ i = 2 := by omega
  rcases this with rfl | rfl | rfl <;> rfl
theorem keepL {b L : Addr} {H H' : Hp} {xs : List V} (h : H L = some (.lst xs)) (hb : Bag H b) (k : Kb b H H') (hx : ∀ d, xs[0]? ≠ some (.ref d)) : H' L = some (.lst xs) :=
  k _ _ (ne_bag h hb hx) h
theorem ok__law_taker (T : Top K mg) : FnOk P w K mg base CX0 2 T.a__law_taker T.fd__law_taker ["bag", "far"] spTk := by
  refine T.F__law_taker.ok sc__law_taker (fun vs H Q E h => ?_) (fun cdv A outer s H vs Q E hr h => ?_)
  · obtain ⟨b, far, rfl, _⟩ := h
    rfl
  · obtain ⟨b, far, rfl, hB, f1, f2, q⟩ := h
    refine ⟨_, (pss_cons (ps_set (i := 2) sc__law_taker.nd rfl (.inl rfl) (pe_op op_add pe_int (pe_ix ix_list (pe_lst (pa_cons (pe_call (ok__law_take T) (hr.mono (by decide)) (by rfl) T.g__law_take T.F__law_take.kp T.b__law_take .nil pass0 (pa_cons (pv 0) (pa_cons (pe_callB (call_min2 rfl) (by rfl) T.z_min (by decide +kernel) (pa_cons pe_int (pa_cons (pe_op op_sub (pv 1) pe_int) pa_nil))) pa_nil))) (pa_cons (pe_call (ok__law_take T) (hr.mono (by decide)) (by rfl) T.g__law_take T.F__law_take.kp T.b__law_take .nil pass0 (pa_cons (pv 0) (pa_cons (pe_op op_sub (pv 1) pe_int) pa_nil))) pa_nil))) (pe_call (ok__law_take T) (hr.mono (by decide)) (by rfl) T.g__law_take T.F__law_take.kp T.b__law_take .nil pass0 (pa_cons (pv 0) (pa_cons pe_int pa_nil))) (fun _ _ => rfl))))
      (pss_one (ps_ret (pe_tup (pa_cons (pv 2) (pa_cons (pe_ix ix_list (pe_lst (pa_cons pe_int (pa_cons (pe_call (ok__law_take T) (hr.mono (by decide)) (by rfl) T.g__law_take T.F__law_take.kp T.b__law_take .nil pass0 (pa_cons (pv 0) (pa_cons (pv 2) pa_nil))) (pa_cons (pe_op op_sub (pv 2) pe_int) pa_nil)))) (pe_call (ok__law_take T) (hr.mono (by decide)) (by rfl) T.g__law_take T.F__law_take.kp T.b__law_take .nil pass0 (pa_cons (pv 0) (pa_cons pe_int pa_nil))) (fun _ _ => rfl)) pa_nil)))))), ?_⟩
    obtain ⟨mi, hmi⟩ : ∃ mi : Int, mi = if far - 1 < 4 then far - 1 else 4 := ⟨_, rfl⟩
    have mi1 : 0 < mi := by rw [hmi]; split <;> omega
    have mi2 : mi ≤ far - 1 := by rw [hmi]; split <;> omega
    refine ⟨.ref b, rfl, .int far, rfl, far, 1, rfl, rfl, 4, far - 1, rfl, b, mi, by rw [hmi]; rfl, hB, mi1, fun H1 r1 k1 B1 lo1 hi1 => ?_⟩
    refine ⟨.ref b, rfl, .int far, rfl, far, 1, rfl, rfl, b, far - 1, rfl, B1, by omega, fun H2 r2 k2 B2 lo2 hi2 => ?_⟩
    refine ⟨by show 2 ≤ sizeLine; decide, fun L nL => ?_⟩
    have B2' : Bag (upd H2 L (.lst [.int r1, .int r2])) b := B2.same (same_new nL)
    refine ⟨.ref b, rfl, b, 2, rfl, B2', by decide, fun H3 r3 k3 B3 lo3 hi3 => ?_⟩
    have hL : H3 L = some (.lst [.int r1, .int r2]) := keepL upd_same B2' k3 (by intro d z; cases z)
    obtain ⟨v, hv⟩ : ∃ v : Int, (if r3 = 0 then V.int r1 else V.int r2) = .int v ∧ 0 ≤ v ∧ v < far - 1 := by
      split
      · exact ⟨r1, rfl, lo1, by omega⟩
      · exact ⟨r2, rfl, lo2, hi2⟩
    obtain ⟨hv, v0, v1⟩ := hv
    refine ⟨L, _, r3, .int v, rfl, rfl, sq_of hL, by rw [at2 lo3 hi3, hv], 2, v, rfl, rfl, ?_⟩
    have kH3 : Kb b H H3 := (k1.trans k2).trans ((Kb.of (same_new nL)).trans k3)
    refine ⟨.int (2 + v), rfl, .ref b, rfl, .int (2 + v), rfl, b, 2 + v, rfl, B3, by omega, fun H4 r4 k4 B4 lo4 hi4 => ?_⟩
    refine ⟨.int (2 + v), rfl, 2 + v, 1, rfl, rfl, by show 3 ≤ sizeLine; decide, fun M nM => ?_⟩
    have B4' : Bag (upd H4 M (.lst [.int 0, .int r4, .int (2 + v - 1)])) b := B4.same (same_new nM)
    refine ⟨.ref b, rfl, b, 3, rfl, B4', by decide, fun H5 r5 k5 B5 lo5 hi5 => ?_⟩
    have hM : H5 M = some (.lst [.int 0, .int r4, .int (2 + v - 1)]) := keepL upd_same B4' k5 (by intro d z; cases z)
    obtain ⟨c, hc, c0, c1⟩ : ∃ c : Int, (if r5 = 0 then V.int 0 else if r5 = 1 then V.int r4 else V.int (2 + v - 1)) = .int c ∧ 0 ≤ c ∧ c ≤ 2 + v - 1 := by
      split
      · exact ⟨0, rfl, by omega, by omega⟩
      · split
        · exact ⟨r4, rfl, lo4, by omega⟩
        · exact ⟨2 + v - 1, rfl, by omega, by omega⟩
    refine ⟨M, _, r5, .int c, rfl, rfl, sq_of hM, by rw [at3 lo5 hi5, hc], by show 2 ≤ sizeLine; decide, fun t nt => ?_⟩
    have kH5 : Kb b H H5 := kH3.trans (k4.trans ((Kb.of (same_new nM)).trans k5))
    exact q _ t (2 + v) c (kH5.trans (Kb.of (same_new nt))) (B5.same (same_new nt)) (kH5.free B5 nt) upd_same ⟨by show 2 ≤ 2 + v; omega, by show 2 + v ≤ 1000; omega, c0, c1⟩ (by omega)
def spDrawn : Sp := fun vs H Q _ => ∃ (b : Addr) (tk far : Int), vs = [.ref b, .int tk, .int far] ∧ Bag H b ∧ 0 ≤ tk ∧ tk ≤ 8 ∧ 2 ≤ far ∧ far ≤ 1000 ∧
  ∀ H' p (r : List (Int × Int)), Kb b H H' → Bag H' b → RowAt H' p r → (∀ ec ∈ r, okT ec) → (∀ ec ∈ r, ec.1 ≤ far) → (r.length : Int) ≤ tk → Q (.ref p) H'
theorem ok__law_drawn_row (T : Top K mg) : FnOk P w K mg base CX0 3 T.a__law_drawn_row T.fd__law_drawn_row ["bag", "takers", "far"] spDrawn := by
  refine T.F__law_drawn_row.ok sc__law_drawn_row (fun vs H Q E h => ?_) (fun cdv A outer s H vs Q E hr h => ?_)
  · obtain ⟨b, tk, far, rfl, _⟩ := h
    rfl
  · obtain ⟨b, tk, far, rfl, hB, t1, t2, f1, f2, q⟩ := h
    refine ⟨_, (pss_one (ps_ret (pe_callTy call_tuple_of (by rfl) T.z_tuple (by decide +kernel) (pa_cons (pe_lc (own := [("turn", 3)]) (by rfl) sc__law_drawn_row.nd (pi_range1 (by rfl) T.z_range (pa_cons (pe_call (ok__law_take T) (hr.mono (by decide)) (by rfl) T.g__law_take T.F__law_take.kp T.b__law_take .nil pass0 (pa_cons (pv 0) (pa_cons (pe_op op_add (pv 1) pe_int) pa_nil))) pa_nil))
        (blkOk_by (own := [("turn", 3)]) (N := ["bag", "takers", "far", "turn"]) (sc := defScope s__law_drawn_row) (by decide +kernel))
        (fun _ _ _ _ _ => (pg_name (i := 3) sc__law_drawn_row.nd rfl (.inl rfl))) (fun _ _ _ _ _ => pts_nil) (fun _ _ _ _ _ => (pe_call (ok__law_taker T) (hr.mono (by decide)) (by rfl) T.g__law_taker T.F__law_taker.kp T.b__law_taker .nil pass0 (pa_cons (pv 0) (pa_cons (pv 2) pa_nil))))) pa_nil)))), ?_⟩
    refine ⟨.ref b, rfl, .int tk, rfl, tk, 1, rfl, rfl, b, tk + 1, rfl, hB, by omega, fun H1 m k1 B1 lo1 hi1 => ?_⟩
    refine ⟨m, rfl, by omega, by omega, fun D hD => ?_⟩
    refine lc_range (lo := 0) (n := m.toNat) (fun i H' => Kb b H H' ∧ Bag H' b ∧ (∀ a o, a ≠ b → H1 a = some o → H' a = some o) ∧ ∃ (ts : List Addr) (r : List (Int × Int)), H' D = some (.lst (ts.map V.ref)) ∧ ts.length = i ∧ r.length = i ∧ (∀ ec ∈ r, okT ec) ∧ (∀ ec ∈ r, ec.1 ≤ far) ∧
        ∀ (j : Nat) (t : Addr) (ec : Int × Int), ts[j]? = some t → r[j]? = some ec → H' t = some (.tup [.int ec.1, .int ec.2]))
      ⟨k1.trans (Kb.of (same_new hD)), B1.same (same_new hD), fun a o _ h => same_new hD a o h, [], [], upd_same, rfl, rfl, (fun ec h => nomatch h), (fun ec h => nomatch h), fun j t ec h => nomatch h⟩ (fun i H' hi hp => ?_) (fun H' hp => ?_)
    · obtain ⟨kk, BB, kd, ts, r, g1, g2, g3, g4, g5, g6⟩ := hp
      refine ⟨rfl, yesT ?_⟩
      refine ⟨.ref b, rfl, .int far, rfl, b, far, rfl, BB, f1, f2, fun H4 t e c k4 B4 nt ht okt hle => ?_⟩
      have nDb : D ≠ b := fun z => by
        obtain ⟨d, ds, c', z1, _⟩ := B1
        rw [z, z1] at hD
        cases hD
      have gD : H4 D = some (.lst (ts.map V.ref)) := k4 _ _ nDb g1
      refine ⟨_, gD, ?_, ?_, B4.upd_refs gD, ?_, ts ++ [t], r ++ [(e, c)], ?_, ?_, ?_, ?_, ?_, ?_⟩
      · rw [List.length_map, g2]
        exact small1000 (by omega)
      · intro a o na ha
        rw [upd_ne (ne_of_none ha (k1.free B1 hD))]
        exact (kk.trans k4) a o na ha
      · intro a o na ha
        rw [upd_ne (ne_of_none ha hD)]
        exact k4 _ _ na (kd _ _ na ha)
      · rw [upd_same, List.map_append]
        rfl
      · rw [List.length_append, g2]
        rfl
      · rw [List.length_append, g3]
        rfl
      · intro ec hm
        rcases List.mem_append.mp hm with z | z
        · exact g4 _ z
        · rw [List.mem_singleton.mp z]
          exact okt
      · intro ec hm
        rcases List.mem_append.mp hm with z | z
        · exact g5 _ z
        · rw [List.mem_singleton.mp z]
          exact hle
      · intro j t' ec a1 a2
        have h4 : H4 t' = some (.tup [.int ec.1, .int ec.2]) := by
          by_cases hj : j < i
          · rw [List.getElem?_append_left (by omega)] at a1 a2
            exact (k4.tup BB) _ _ (g6 j t' ec a1 a2)
          · have hji : j = i := by
              have := (List.getElem?_eq_some_iff.mp a1).1
              rw [List.length_append, g2] at this
              simp at this
              omega
            subst hji
            rw [List.getElem?_append_right (by omega), g2, Nat.sub_self] at a1
            rw [List.getElem?_append_right (by omega), g3, Nat.sub_self] at a2
            cases a1
            cases a2
            exact ht
        rw [upd_ne (ne_of h4 gD (by intro z; cases z))]
        exact h4
    · obtain ⟨kk, BB, kd, ts, r, g1, g2, g3, g4, g5, g6⟩ := hp
      refine ⟨D, _, rfl, .inl ⟨sq_of g1, fun l nl => ?_⟩⟩
      have sl := same_new (o := .tup (ts.map V.ref)) nl
      refine q _ l r (kk.trans (Kb.of sl)) (BB.same sl) ⟨ts, upd_same, by omega, fun j t ec a1 a2 => sl _ _ (g6 j t ec a1 a2)⟩ g4 g5 ?_
      omega

/-! gone piece by piece -/
def spGone : Sp := fun vs H Q _ => ∃ (p : Addr) (r : List (Int × Int)) (m : Int), vs = [.ref p, .int m] ∧ RowAt H p r ∧ (∀ ec ∈ r, okT ec) ∧ r.length ≤ 8 ∧ 0 ≤ m ∧ m ≤ 900 ∧
  ∀ H' q F C, Same H H' → H F = none → H C = none → H' q = some (.tup [.ref F, .ref C]) → H' F = some (.lst ((seenF r m.toNat).map ofO)) → H' C = some (.lst ((cntF r m).map V.int)) → Q (.ref q) H'
theorem ok__law_gone (T : Top K mg) : FnOk P w K mg base CX0 1 T.a__law_gone T.fd__law_gone ["house", "many"] spGone := by
  refine T.F__law_gone.ok sc__law_gone (fun vs H Q E h => ?_) (fun cdv A outer s H vs Q E hr h => ?_)
  · obtain ⟨p, r, m, rfl, _⟩ := h
    rfl
  · obtain ⟨p, r, m, rfl, hR, ok, hlen, m0, m1, q⟩ := h
    obtain ⟨ts, h1, h2, h3⟩ := id hR
    refine ⟨_, (pss_cons (ps_par (by rfl) sc__law_gone.nd (i := 3) (j := 4) rfl rfl (by decide) rfl rfl (pa_cons (pe_lc (te := tOp (rIxT K) (tVar 7) (tC (.int 1))) (own := [("one", 7)]) (by rfl) sc__law_gone.nd (pi_tup (pv 0))
        (blkOk_by (own := [("one", 7)]) (N := ["house", "many", "piece", "counted", "found", "took", "place", "one", "every", "begun"]) (sc := defScope s__law_gone) (by decide +kernel))
        (fun _ _ _ _ _ => (pg_name (i := 7) sc__law_gone.nd rfl (.inl rfl))) (fun _ _ _ _ _ => pts_nil) (fun _ _ _ _ _ => (pe_ix ix_tup (pv 7) pe_int (fun _ _ => rfl)))) (pa_cons (pe_lst pa_nil) pa_nil)) (by rfl))
      (pss_cons (ps_for PassesOwn.never rfl (pi_range1 (by rfl) T.z_range (pa_cons (pv 1) pa_nil)) (pg_name (i := 2) sc__law_gone.nd rfl (.inl rfl))
        (pss_cons (ps_set (i := 5) sc__law_gone.nd rfl (.inl rfl) pe_non)
      (pss_cons (ps_for PassesOwn.never rfl (pi_enumT (by rfl) T.z_enumerate (pa_cons (pv 0) pa_nil)) (pg_tup (by rfl) (pgs_cons (pg_name (i := 6) sc__law_gone.nd rfl (.inl rfl)) (pgs_cons (pg_tup (by rfl) (pgs_cons (pg_name (i := 8) sc__law_gone.nd rfl (.inl rfl)) (pgs_cons (pg_name (i := 9) sc__law_gone.nd rfl (.inl rfl)) pgs_nil))) pgs_nil)))
        (pss_one (ps_if (pt_cmpR op_isN (pv 5) pe_non (nomark _)) (pss_cons (ps_asg (pe_op op_mod (pe_op op_add (pe_ix ix_list (pv 3) (pv 6) (fun _ _ => rfl)) pe_int) (pv 8)) (pg_sub (pv 3) (pv 6) set_list))
      (pss_one (ps_if (pt_cmpR op_eq (pe_ix ix_list (pv 3) (pv 6) (fun _ _ => rfl)) pe_int (nomark _)) (pss_one (ps_set (i := 5) sc__law_gone.nd rfl (.inl rfl) (pv 6))) pss_nil))) pss_nil)))
      (pss_one (ps_expr (pe_bm PySem.F.plainAttrs_list PySem.F.slot_list_append PySem.F.type_list_append mt_append (pv 4) (pa_cons (pv 5) pa_nil)))))))
      (pss_one (ps_ret (pe_tup (pa_cons (pv 4) (pa_cons (pv 3) pa_nil))))))), ?_⟩
    refine ⟨.ref p, rfl, p, rfl, ⟨_, st_of h1⟩, fun C hC => ?_⟩
    refine lc_tup (K := K) (a := p) (xs := ts.map V.ref) (fun i H' => Same H H' ∧ H' C = some (.lst (((r.map (·.2)).take i).map V.int))) ⟨same_new hC, upd_same⟩ (fun i H' _ hp => st_of (hp.1 _ _ h1)) (fun i x H' hx hp => ?_) (fun H1 hp => ?_)
    · obtain ⟨sm, hd⟩ := hp
      rw [List.getElem?_map] at hx
      cases ht : ts[i]? with
      | none => rw [ht] at hx; cases hx
      | some t =>
        rw [ht] at hx
        cases hx
        have hi : i < r.length := h2 ▸ (List.getElem?_eq_some_iff.mp ht).1
        have hrt := h3 i t r[i] ht (List.getElem?_eq_getElem hi)
        refine ⟨rfl, yesT ?_⟩
        refine ⟨.ref t, rfl, t, _, 1, .int r[i].2, rfl, rfl, st_of (sm _ _ hrt), rfl, _, hd, ?_, same_upd_new hC sm, ?_⟩
        · rw [List.length_map, List.length_take]
          exact Nat.lt_of_le_of_lt (Nat.min_le_left _ _) (small1000 (by omega))
        · rw [upd_same, List.take_add_one, List.getElem?_map, List.getElem?_eq_getElem hi, List.map_append]
          rfl
    · obtain ⟨s1, hC1⟩ := hp
      have hC1 : H1 C = some (.lst ((cntF r 0).map V.int)) := by
        rw [cnt_zero r ok]
        rw [List.take_of_length_le (by rw [List.length_map, List.length_map]; omega)] at hC1
        exact hC1
      refine ⟨Nat.zero_le _, fun F nF => ⟨_, _, rfl, ?_⟩⟩
      have nFH : H F = none := s1.free nF
      have nCF : C ≠ F := ne_of_none hC1 nF
      refine ⟨.int m, rfl, m, rfl, by omega, by omega, ?_⟩
      refine for_range (lo := 0) (n := m.toNat) (fun k σ H' => Same H H' ∧ H' C = some (.lst ((cntF r (k : Int)).map V.int)) ∧ H' F = some (.lst ((seenF r k).map ofO)) ∧ ∃ y2 y5 y6 y7 y8 y9, σ = [some (.ref p), some (.int m), y2, some (.ref C), some (.ref F), y5, y6, y7, y8, y9])
        ⟨same_upd_new nFH s1, by rw [upd_ne nCF]; exact hC1, upd_same, none, none, none, none, none, none, rfl⟩ (fun k σ H2 hk hp => ?_) (fun σ H2 hp => ?_)
      · obtain ⟨s2, hC2, hF2, y2, y5, y6, y7, y8, y9, rfl⟩ := hp
        refine ⟨.ref p, rfl, p, _, rfl, st_of (s2 _ _ h1), ?_⟩
        refine for_it (walk_enumT (K := K) (a := p) (xs := ts.map V.ref)) (fun i σ H' => Same H H' ∧ H' C = some (.lst (((cntF r ((k : Int) + 1)).take i ++ (cntF r (k : Int)).drop i).map V.int)) ∧ H' F = some (.lst ((seenF r k).map ofO)) ∧
            ∃ (o : Option Nat) (y6 y7 y8 y9 : Option V), σ = [some (.ref p), some (.int m), some (.int (0 + (k : Int))), some (.ref C), some (.ref F), some (ofO o), y6, y7, y8, y9] ∧ TkSt r ((k : Int) + 1) i o)
          ⟨s2, by rw [List.take_zero, List.drop_zero]; exact hC2, hF2, none, _, _, _, _, rfl, .inl ⟨rfl, fun j _ => Nat.zero_le j⟩⟩ (fun i σ H' _ hp => st_of (hp.1 _ _ h1)) (fun i v σ H3 H4 hi hp hy => ?_) (fun σ H3 hp => ?_)
        · obtain ⟨s3, hC3, hF3, o, z6, z7, z8, z9, rfl, hT⟩ := hp
          obtain ⟨Tt, x, y, rfl, nT, rfl, ex, ey⟩ := hy
          cases ex
          rw [List.length_map] at hi
          have hir : i < r.length := h2 ▸ hi
          have ht : ts[i]? = some ts[i] := List.getElem?_eq_getElem hi
          have ey2 : y = .ref ts[i] := by
            have ey3 : (ts.map V.ref)[i]? = some y := ey
            rw [List.getElem?_map, ht] at ey3
            exact (Option.some.inj ey3).symm
          subst ey2
          have he := List.getElem?_eq_getElem hir
          obtain ⟨⟨e, c⟩, hec⟩ : ∃ ec, r[i] = ec := ⟨_, rfl⟩
          rw [hec] at he
          have hok : okT (e, c) := hec ▸ ok _ (List.getElem_mem hir)
          have o1 : 2 ≤ e := hok.1
          have hrt := h3 i _ _ ht he
          have sT : Same H3 (upd H3 Tt (.tup [.int (i : Nat), .ref ts[i]])) := same_new nT
          have s4 := s3.trans sT
          have hC4 := sT _ _ hC3
          have hF4 := sT _ _ hF3
          have hT4 : (upd H3 Tt (.tup [.int (i : Nat), .ref ts[i]])) Tt = some (.tup [.int (i : Nat), .ref ts[i]]) := upd_same
          generalize upd H3 Tt (.tup [.int (i : Nat), .ref ts[i]]) = H4 at s4 hC4 hF4 sT hT4 ⊢
          refine ⟨Tt, _, rfl, st_of hT4, rfl, _, _, rfl, _, _, rfl, ts[i], _, rfl, st_of (s4 _ _ hrt), rfl, _, _, rfl, _, _, rfl, rfl, rfl, ?_⟩
          refine ⟨ofO o, rfl, rfl, _, rfl, ite2 (fun z => ?_) (fun z => ?_)⟩
          · have ho : o = none := by
              cases o with
              | none => rfl
              | some j => exact absurd (of_decide_eq_true z) (by intro w; cases w)
            subst ho
            have hre : reach r ((k : Int) + 1) i := by
              rcases hT with ⟨_, h⟩ | ⟨j, h, _⟩
              · exact h
              · cases h
            have cs := come_step r (k : Int) i ok (by omega) hre
            have wa := who_at r ((k : Int) + 1) i e c he hre
            have g1 := cnt_get r (k : Int) i e c he
            have g2 := cnt_get r ((k : Int) + 1) i e c he
            have ll : (cntF r ((k : Int) + 1)).length = (cntF r (k : Int)).length := by rw [len_cntF, len_cntF]
            have lA : i ≤ (cntF r ((k : Int) + 1)).length := by rw [len_cntF]; omega
            have lM : i < ((cntF r ((k : Int) + 1)).take i ++ (cntF r (k : Int)).drop i).length := by
              rw [List.length_append, List.length_take, List.length_drop, len_cntF, len_cntF]
              omega
            have ev : ((c + comeF r i (k : Int)) % e + 1) % e = (c + comeF r i ((k : Int) + 1)) % e := by
              rw [mod_step, cs]
              congr 1
              omega
            refine ⟨.ref C, rfl, .int (i : Nat), rfl, C, _, (i : Int), .int ((c + comeF r i (k : Int)) % e), rfl, rfl, sq_of hC4, at_of rfl (by rw [List.getElem?_map, mix_get lA, g1]; rfl), _, 1, rfl, rfl, .int e, rfl, _, e, rfl, rfl, (by omega : (0 : Int) < e),
              .ref C, rfl, .int (i : Nat), rfl, C, _, (i : Int), i, rfl, rfl, hC4, ixN_nat rfl (by rw [List.length_map]; exact lM), ?_⟩
            have hC5 : (upd H4 C (.lst ((((cntF r ((k : Int) + 1)).take i ++ (cntF r (k : Int)).drop i).map V.int).set i (.int (((c + comeF r i (k : Int)) % e + 1) % e))))) C = some (.lst (((cntF r ((k : Int) + 1)).take (i + 1) ++ (cntF r (k : Int)).drop (i + 1)).map V.int)) := by
              rw [upd_same, ev, map_set, mix_set g2 ll]
            have s5 : Same H (upd H4 C (.lst ((((cntF r ((k : Int) + 1)).take i ++ (cntF r (k : Int)).drop i).map V.int).set i (.int (((c + comeF r i (k : Int)) % e + 1) % e))))) := same_upd_new hC s4
            have hF5 : (upd H4 C (.lst ((((cntF r ((k : Int) + 1)).take i ++ (cntF r (k : Int)).drop i).map V.int).set i (.int (((c + comeF r i (k : Int)) % e + 1) % e))))) F = some (.lst ((seenF r k).map ofO)) := by
              rw [upd_ne (Ne.symm nCF)]
              exact hF4
            have at5 : ((cntF r ((k : Int) + 1)).take (i + 1) ++ (cntF r (k : Int)).drop (i + 1))[i]? = some ((c + comeF r i ((k : Int) + 1)) % e) := by
              rw [List.getElem?_append_left (by rw [List.length_take, len_cntF]; omega), List.getElem?_take_of_lt (by omega), g2]
            refine ⟨.ref C, rfl, .int (i : Nat), rfl, C, _, (i : Int), .int ((c + comeF r i ((k : Int) + 1)) % e), rfl, rfl, sq_of hC5, at_of rfl (by rw [List.getElem?_map, at5]; rfl), rfl, _, rfl, ite2 (fun z2 => ?_) (fun z2 => ?_)⟩
            · have z3 : (c + comeF r i ((k : Int) + 1)) % e = 0 := V.int.inj (of_decide_eq_true z2)
              exact ⟨_, rfl, s5, hC5, hF5, some i, _, _, _, _, rfl, .inr ⟨i, rfl, Nat.lt_succ_self i, wa.mpr z3⟩⟩
            · have z3 : ¬ (c + comeF r i ((k : Int) + 1)) % e = 0 := fun w => z2 (decide_eq_true (congrArg V.int w))
              exact ⟨s5, hC5, hF5, none, _, _, _, _, rfl, .inl ⟨rfl, reach_succ hre (fun w => z3 (wa.mp w))⟩⟩
          · obtain ⟨j, rfl, hj, hw⟩ : ∃ j, o = some j ∧ j < i ∧ whoF r ((k : Int) + 1) = some j := by
              rcases hT with ⟨rfl, _⟩ | h
              · exact absurd (decide_eq_true rfl) z
              · exact h
            refine ⟨s4, ?_, hF4, some j, _, _, _, _, rfl, .inr ⟨j, rfl, by omega, hw⟩⟩
            rw [← mix_same (cnt_same r (k : Int) i j ok hw hj) (by rw [len_cntF]; omega) (by rw [len_cntF, len_cntF])]
            exact hC4
        · obtain ⟨s3, hC3, hF3, o, z6, z7, z8, z9, rfl, hT⟩ := hp
          rw [List.length_map, h2] at hC3 hT
          have ho := hT.done
          subst ho
          rw [List.take_of_length_le (by rw [len_cntF]; exact Nat.le_refl _), List.drop_eq_nil_of_le (by rw [len_cntF]; exact Nat.le_refl _), List.append_nil] at hC3
          refine ⟨.ref F, rfl, .inl ⟨rfl, _, sq_of hF3⟩, _, rfl, F, _, _, rfl, rfl, hF3, ?_, same_upd_new nFH s3, ?_, ?_, _, _, _, _, _, _, rfl⟩
          · rw [List.length_map, len_seenF]
            exact small1000 (by omega)
          · rw [upd_ne nCF]
            exact hC3
          · rw [upd_same, seen_succ, List.map_append]
            rfl
      · obtain ⟨s2, hC2, hF2, y2, y5, y6, y7, y8, y9, rfl⟩ := hp
        refine ⟨.ref F, rfl, .ref C, rfl, by show 2 ≤ sizeLine; decide, fun z nz => ?_⟩
        have sz := same_new (o := .tup [.ref F, .ref C]) nz
        refine q _ z F C (s2.trans sz) nFH hC upd_same (sz _ _ hF2) ?_
        rw [show ((m.toNat : Nat) : Int) = m by omega] at hC2
        exact sz _ _ hC2

/-! between two turns of the law's loop -/
def spLaw (K : PySem.W.Frag) : Sp := fun vs H Q _ => ∃ (a : Addr) (ns : List Int), vs = [.ref a] ∧ SqL K H a (ns.map V.int) ∧ ns.length ≤ 63 ∧ ∀ H', Q (.bl true) H'
theorem refs1 {bs : List Addr} : ∀ d, (bs.map V.ref)[1]? ≠ some (.int d) := fun d h => by
  rw [List.getElem?_map] at h
  cases q : bs[1]? <;> rw [q] at h <;> cases h
theorem os0 {os : List (Option Nat)} : ∀ d, (os.map ofO)[0]? ≠ some (.ref d) := fun d h => by
  rw [List.getElem?_map] at h
  cases q : os[0]? with
  | none => rw [q] at h; cases h
  | some o => rw [q] at h; cases o <;> cases h
theorem ints0 {ns : List Int} : ∀ d, (ns.map V.int)[0]? ≠ some (.ref d) := fun d h => by
  rw [List.getElem?_map] at h
  cases q : ns[0]? <;> rw [q] at h <;> cases h
structure Std (H : Hp) (L : Addr) (bs : List Addr) : Prop where
  l : H L = some (.lst (bs.map V.ref))
  b : ∀ b ∈ bs, Bag H b
theorem Std.same {H H' : Hp} {L : Addr} {bs : List Addr} (h : Std H L bs) (s : Same H H') : Std H' L bs := ⟨s _ _ h.l, fun b hb => (h.b b hb).same s⟩
theorem Std.kb {H H' : Hp} {L b : Addr} {bs : List Addr} (h : Std H L bs) (hb : b ∈ bs) (k : Kb b H H') (hn : Bag H' b) : Std H' L bs :=
  ⟨k _ _ (ne_bag2 h.l (h.b b hb) refs1) h.l, fun b' hb' => (h.b b hb).keep k hn (h.b b' hb')⟩
theorem ok_pair {r : List (Int × Int)} (h : r.all (fun ec => decide (2 ≤ ec.1) && decide (ec.1 ≤ 1000) && decide (0 ≤ ec.2) && decide (ec.2 ≤ ec.1 - 1)) = true) : ∀ ec ∈ r, okT ec := fun ec hm => by
  have := List.all_eq_true.mp h ec hm
  simp only [Bool.and_eq_true, decide_eq_true_eq] at this
  exact ⟨this.1.1.1, this.1.1.2, this.1.2, this.2⟩

/-! rows and numbers beside one another -/
theorem eq_rows {K : PySem.W.Frag} {H : Hp} {a b : Addr} {ps qs : List (Int × Int)} {Q : VK} (ha : RowAt H a ps) (hb : RowAt H b qs) (q : Q (.bl (decide (ps = qs))) H) : rEqD K (.ref a) (.ref b) H Q := by
  refine ⟨_, _, dp_row ha, dp_row hb, shp_row ps, shp_row qs, ?_⟩
  rw [PyData.eqv, eqv_tks]
  exact q
theorem eq_intsD {K : PySem.W.Frag} {H : Hp} {a b : Addr} {ns ms : List Int} {Q : VK} (ha : SqL K H a (ns.map V.int)) (hb : SqL K H b (ms.map V.int)) (q : Q (.bl (decide (ns = ms))) H) : rEqD K (.ref a) (.ref b) H Q := by
  refine ⟨_, _, dp_ints ha, dp_ints hb, shp_ints ns, shp_ints ms, ?_⟩
  rw [eqv_list]
  exact q
theorem ofI_non {o : Option Int} : decide (ofI o = V.non) = decide (o = none) := by
  cases o with
  | none => rfl
  | some i => rw [decide_eq_false (by intro z; cases z), decide_eq_false (by intro z; cases z)]
theorem ofI_ne_ref {o : Option Int} : ∀ d, ofI o ≠ V.ref d := fun d => by cases o <;> intro z <;> cases z

/-! a row beside a row -/
def spNear : Sp := fun vs H Q _ => ∃ (b p : Addr) (r : List (Int × Int)), vs = [.ref b, .ref p] ∧ Bag H b ∧ RowAt H p r ∧ (∀ ec ∈ r, okT ec) ∧ r.length ≤ 8 ∧
  ∀ H' p' (r' : List (Int × Int)), Kb b H H' → Bag H' b → RowAt H' p' r' → (∀ ec ∈ r', okT ec) → r'.length = r.length → Q (.ref p') H'
theorem at4 {a b c d : V} {i : Int} (h0 : 0 ≤ i) (h1 : i < 4) : atI [a, b, c, d] i = some (if i = 0 then a else if i = 1 then b else if i = 2 then c else d) := by
  have : i = 0 ∨ i = 1 ∨ i = 2 ∨ i = 3 := by omega
  rcases this with rfl | rfl | rfl | rfl <;> rfl
theorem ok__law_near (T : Top K mg) : FnOk P w K mg base CX0 3 T.a__law_near T.fd__law_near ["bag", "house"] spNear := by
  refine T.F__law_near.ok sc__law_near (fun vs H Q E h => ?_) (fun cdv A outer s H vs Q E hr h => ?_)
  · obtain ⟨b, p, r, rfl, _⟩ := h
    rfl
  · obtain ⟨b, p, r, rfl, hB, hR, ok, l8, q⟩ := h
    refine ⟨_, (pss_cons (ps_if (pt_cmpR (op_eqD hr.units) (pv 1) (pe_tup pa_nil) (nomark _)) (pss_one (ps_ret (pv 1))) pss_nil)
      (pss_cons (ps_set (i := 2) sc__law_near.nd rfl (.inl rfl) (pe_call (ok__law_take T) (hr.mono (by decide)) (by rfl) T.g__law_take T.F__law_take.kp T.b__law_take .nil pass0 (pa_cons (pv 0) (pa_cons (pe_callB call_len_seq (by rfl) T.z_len (by decide +kernel) (pa_cons (pv 1) pa_nil)) pa_nil))))
      (pss_cons (ps_asg (pe_ix ix_tup (pv 1) (pv 2) (fun _ _ => rfl)) (pg_tup (by rfl) (pgs_cons (pg_name (i := 5) sc__law_near.nd rfl (.inl rfl)) (pgs_cons (pg_name (i := 6) sc__law_near.nd rfl (.inl rfl)) pgs_nil))))
      (pss_cons (ps_set (i := 3) sc__law_near.nd rfl (.inl rfl) (pe_lst (pa_cons (pe_tup (pa_cons (pv 5) (pa_cons (pe_call (ok__law_take T) (hr.mono (by decide)) (by rfl) T.g__law_take T.F__law_take.kp T.b__law_take .nil pass0 (pa_cons (pv 0) (pa_cons (pv 5) pa_nil))) pa_nil))) (pa_cons (pe_tup (pa_cons (pe_callB (call_min2 rfl) (by rfl) T.z_min (by decide +kernel) (pa_cons pe_int (pa_cons (pe_op op_add (pv 5) pe_int) pa_nil))) (pa_cons (pv 6) pa_nil))) pa_nil))))
      (pss_cons (ps_set (i := 3) sc__law_near.nd rfl (.inl rfl) (pe_op op_cat (pv 3) (pe_lst (pa_cons (pe_call (ok__law_taker T) (hr.mono (by decide)) (by rfl) T.g__law_taker T.F__law_taker.kp T.b__law_taker .nil pass0 (pa_cons (pv 0) (pa_cons pe_int pa_nil))) (pa_cons (pe_tup (pa_cons (pv 5) (pa_cons (pv 6) pa_nil))) pa_nil)))))
      (pss_cons (ps_set (i := 4) sc__law_near.nd rfl (.inl rfl) (pe_op op_catA (pe_op op_catA (pe_slice sl_tupA (pv 1) po_none (po_some (pv 2))) (pe_tup (pa_cons (pe_ix ix_list (pv 3) (pe_call (ok__law_take T) (hr.mono (by decide)) (by rfl) T.g__law_take T.F__law_take.kp T.b__law_take .nil pass0 (pa_cons (pv 0) (pa_cons pe_int pa_nil))) (fun _ _ => rfl)) pa_nil))) (pe_slice sl_tupA (pv 1) (po_some (pe_op op_add (pv 2) pe_int)) po_none)))
      (pss_one (ps_ret (pe_ix ix_list (pe_lst (pa_cons (pv 4) (pa_cons (pv 4) (pa_cons (pe_revT (pv 1)) pa_nil)))) (pe_call (ok__law_take T) (hr.mono (by decide)) (by rfl) T.g__law_take T.F__law_take.kp T.b__law_take .nil pass0 (pa_cons (pv 0) (pa_cons pe_int pa_nil))) (fun _ _ => rfl)))))))))), ?_⟩
    refine ⟨.ref p, rfl, Nat.zero_le _, fun u0 nu0 => ?_⟩
    have s0 := same_new (o := .tup []) nu0
    refine eq_rows (qs := []) (hR.keep (tupS_of s0)) (row0 upd_same) ⟨_, rfl, ite2 (fun z => ?_) (fun z => ?_)⟩
    · exact ⟨.ref p, rfl, q _ p r (Kb.of s0) (hB.same s0) (hR.keep (tupS_of s0)) ok rfl⟩
    have hB := hB.same s0
    have kk0 : Kb b H (upd H u0 (.tup [])) := Kb.of s0
    have hR := hR.keep (tupS_of s0)
    generalize upd H u0 (.tup []) = H0 at hB kk0 hR ⊢
    have l1 : 1 ≤ r.length := by
      cases r with
      | nil => exact absurd (decide_eq_true rfl) z
      | cons x xs => simp
    obtain ⟨ts, h1, hpa⟩ := hR.pairs
    have h2 := hpa.1
    refine ⟨.ref b, rfl, .ref p, rfl, p, _, rfl, .inr (st_of h1), b, _, rfl, hB, by rw [List.length_map]; omega, fun H1 r1 k1 B1 lo1 hi1 => ?_⟩
    rw [List.length_map] at hi1
    obtain ⟨k, hk⟩ : ∃ k : Nat, r1 = (k : Int) := ⟨r1.toNat, by omega⟩
    subst hk
    have hkl : k < r.length := by omega
    have t1 := k1.tup hB
    have ht : ts[k]? = some ts[k] := List.getElem?_eq_getElem (by omega)
    have he := List.getElem?_eq_getElem hkl
    obtain ⟨⟨e, c⟩, hec⟩ : ∃ ec, r[k] = ec := ⟨_, rfl⟩
    rw [hec] at he
    have hok : okT (e, c) := hec ▸ ok _ (List.getElem_mem hkl)
    have o1 : 2 ≤ e := hok.1
    have o2 : e ≤ 1000 := hok.2.1
    have o3 : 0 ≤ c := hok.2.2.1
    have o4 : c ≤ e - 1 := hok.2.2.2
    have hrt := t1 _ _ (hpa.2 k _ _ ht he)
    refine ⟨.ref p, rfl, .int (k : Nat), rfl, p, _, (k : Int), .ref ts[k], rfl, rfl, st_of (t1 _ _ h1), at_of rfl (by rw [List.getElem?_map, ht]; rfl), ?_⟩
    refine ⟨_, _, rfl, st_of hrt, rfl, _, _, rfl, _, _, rfl, rfl, ?_⟩
    -- some
    refine ⟨.int e, rfl, .ref b, rfl, .int e, rfl, b, e, rfl, B1, by omega, fun H3 r3 k3 B3 lo3 hi3 => ⟨by show 2 ≤ sizeLine; decide, fun t1 nt1 => ?_⟩⟩
    have s1 := same_new (o := .tup [.int e, .int r3]) nt1
    have B3' := B3.same s1
    have ht1 : (upd H3 t1 (.tup [.int e, .int r3])) t1 = some (.tup [.int e, .int r3]) := upd_same
    generalize upd H3 t1 (.tup [.int e, .int r3]) = H4 at s1 B3' ht1 ⊢
    obtain ⟨m, hm⟩ : ∃ m : Int, m = if e + 1 < 1000 then e + 1 else 1000 := ⟨_, rfl⟩
    have m1 : e ≤ m := by rw [hm]; split <;> omega
    have m2 : m ≤ 1000 := by rw [hm]; split <;> omega
    refine ⟨.int e, rfl, e, 1, rfl, rfl, 1000, e + 1, rfl, .int c, rfl, by show 2 ≤ sizeLine; decide, fun t2 nt2 => ?_⟩
    rw [← hm]
    have s2 := same_new (o := .tup [.int m, .int c]) nt2
    have B4 := B3'.same s2
    have ht2 : (upd H4 t2 (.tup [.int m, .int c])) t2 = some (.tup [.int m, .int c]) := upd_same
    have ht1 := s2 _ _ ht1
    generalize upd H4 t2 (.tup [.int m, .int c]) = H5 at s2 B4 ht2 ht1 ⊢
    refine ⟨by show 2 ≤ sizeLine; decide, fun L nL => ?_⟩
    have s3 := same_new (o := .lst [.ref t1, .ref t2]) nL
    have B5 := B4.same s3
    have hL : (upd H5 L (.lst [.ref t1, .ref t2])) L = some (.lst [.ref t1, .ref t2]) := upd_same
    have ht1 := s3 _ _ ht1
    have ht2 := s3 _ _ ht2
    generalize upd H5 L (.lst [.ref t1, .ref t2]) = H6 at s3 B5 hL ht1 ht2 ⊢
    have k6 : Kb b H H6 := ((kk0.trans k1).trans k3).trans (Kb.of ((s1.trans s2).trans s3))
    have k6' : Kb b H0 H6 := (k1.trans k3).trans (Kb.of ((s1.trans s2).trans s3))
    refine ⟨.ref L, rfl, .ref b, rfl, b, 60, rfl, B5, by decide, by decide, fun H7 t3 e3 c3 k7 B7 nt3 ht3 ok3 le3 => ?_⟩
    have hL7 : H7 L = some (.lst [.ref t1, .ref t2]) := k7 _ _ (ne_bag2 hL B5 (by intro d z; cases z)) hL
    have ht1 := k7.tup B5 _ _ ht1
    have ht2 := k7.tup B5 _ _ ht2
    refine ⟨.int e, rfl, .int c, rfl, by show 2 ≤ sizeLine; decide, fun t4 nt4 => ?_⟩
    have v4 := same_new (o := .tup [.int e, .int c]) nt4
    have ht4 : (upd H7 t4 (.tup [.int e, .int c])) t4 = some (.tup [.int e, .int c]) := upd_same
    have hL7 := v4 _ _ hL7
    have ht1 := v4 _ _ ht1
    have ht2 := v4 _ _ ht2
    have ht3 := v4 _ _ ht3
    have B7 := B7.same v4
    have k7 := k7.trans (Kb.of v4)
    generalize upd H7 t4 (.tup [.int e, .int c]) = H7' at v4 ht4 hL7 ht1 ht2 ht3 B7 k7 ⊢
    refine ⟨by show 2 ≤ sizeLine; decide, fun L2 nL2 => ?_⟩
    have s4 := same_new (o := .lst [.ref t3, .ref t4]) nL2
    refine ⟨L, L2, _, _, rfl, rfl, s4 _ _ hL7, upd_same, by show 4 ≤ sizeLine; decide, fun L3 nL3 => ?_⟩
    have s5 := s4.trans (same_new (o := .lst ([.ref t1, .ref t2] ++ [.ref t3, .ref t4])) nL3)
    have hL3 : (upd (upd H7' L2 (.lst [.ref t3, .ref t4])) L3 (.lst ([.ref t1, .ref t2] ++ [.ref t3, .ref t4]))) L3 = some (.lst [.ref t1, .ref t2, .ref t3, .ref t4]) := upd_same
    have B8 := B7.same s5
    have ht1 := s5 _ _ ht1
    have ht2 := s5 _ _ ht2
    have ht3 := s5 _ _ ht3
    have ht4 := s5 _ _ ht4
    have k8 := (k6'.trans k7).trans (Kb.of s5)
    generalize upd (upd H7' L2 (.lst [.ref t3, .ref t4])) L3 (.lst ([.ref t1, .ref t2] ++ [.ref t3, .ref t4])) = H8 at s5 hL3 B8 ht1 ht2 ht3 ht4 k8 ⊢
    -- the row
    have t8 := k8.tup hB
    refine ⟨.ref p, rfl, .int (k : Nat), rfl, (k : Int), rfl, slice_use (t8 _ _ h1) fun q1 H9 s9 hq1 => ?_⟩
    rw [cut_to rfl (by rw [List.length_map]; omega)] at hq1
    refine ⟨.ref L3, rfl, .ref b, rfl, b, 4, rfl, B8.same s9, by decide, fun H10 r10 k10 B10 lo10 hi10 => ?_⟩
    have hL10 : H10 L3 = some (.lst [.ref t1, .ref t2, .ref t3, .ref t4]) := k10 _ _ (ne_bag2 (s9 _ _ hL3) (B8.same s9) (by intro d z; cases z)) (s9 _ _ hL3)
    have t10 : TupS H8 H10 := (tupS_of s9).trans (k10.tup (B8.same s9))
    obtain ⟨t, x, hte, htx, okx⟩ : ∃ (t : Addr) (x : Int × Int), (if r10 = 0 then V.ref t1 else if r10 = 1 then V.ref t2 else if r10 = 2 then V.ref t3 else V.ref t4) = .ref t ∧ H10 t = some (.tup [.int x.1, .int x.2]) ∧ okT x := by
      split
      · exact ⟨t1, (e, r3), rfl, t10 _ _ ht1, ⟨o1, o2, lo3, by show r3 ≤ e - 1; omega⟩⟩
      · split
        · exact ⟨t2, (m, c), rfl, t10 _ _ ht2, ⟨by show 2 ≤ m; omega, m2, o3, by show c ≤ m - 1; omega⟩⟩
        · split
          · exact ⟨t3, (e3, c3), rfl, t10 _ _ ht3, ok3⟩
          · exact ⟨t4, (e, c), rfl, t10 _ _ ht4, hok⟩
    refine ⟨L3, _, r10, .ref t, rfl, rfl, sq_of hL10, by rw [at4 lo10 hi10, hte], by show 1 ≤ sizeLine; decide, fun q2 nq2 => ?_⟩
    have s11 := same_new (o := .tup [.ref t]) nq2
    have hq1 := s11 _ _ (k10.tup (B8.same s9) _ _ hq1)
    refine cat_use hq1 upd_same (by rw [List.length_take, List.length_map]; exact Nat.le_of_lt (small1000 (by simp; omega))) fun q3 H12 s12 hq3 => ?_
    have k12' : Kb b H0 H12 := ((k8.trans (Kb.of s9)).trans k10).trans (Kb.of (s11.trans s12))
    have B12 := (B10.same s11).same s12
    have t12' := k12'.tup hB
    refine ⟨.ref p, rfl, .int (k : Nat), rfl, (k : Int), 1, rfl, rfl, (k : Int) + 1, rfl, ?_⟩
    dsimp only [tNoPart]
    refine slice_use (K := K) (lo := some ((k : Int) + 1)) (hi := none) (t12' _ _ h1) fun q4 H13 s13 hq4 => ?_
    rw [cut_from (k := k + 1) (by omega) (by rw [List.length_map]; omega)] at hq4
    refine cat_use (s13 _ _ hq3) hq4 (by rw [List.length_append, List.length_take, List.length_drop, List.length_map]; exact Nat.le_of_lt (small1000 (by simp; omega))) fun q5 H14 s14 hq5 => ?_
    have k14 := k12'.trans (Kb.of (s13.trans s14))
    have B14 := (B12.same s13).same s14
    have pr := hpa.keep (k14.tup hB)
    have px : PairsAt H14 [t] [x] := ⟨rfl, fun i u g a1 a2 => by
      cases i with
      | zero => cases a1; cases a2; exact ((s11.trans s12).trans (s13.trans s14)) _ _ htx
      | succ i => simp at a1⟩
    have hRo : RowAt H14 q5 (r.take k ++ [x] ++ r.drop (k + 1)) := (((pr.take k).app px).app (pr.drop (k + 1))).row (by
      rw [hq5, List.map_append, List.map_append, List.map_take, List.map_drop]
      rfl)
    have oko : ∀ ec ∈ r.take k ++ [x] ++ r.drop (k + 1), okT ec := fun ec hm => by
      rcases List.mem_append.mp hm with z | z
      · rcases List.mem_append.mp z with z | z
        · exact ok _ (List.mem_of_mem_take z)
        · rw [List.mem_singleton.mp z]; exact okx
      · exact ok _ (List.mem_of_mem_drop z)
    have lno : (r.take k ++ [x] ++ r.drop (k + 1)).length = r.length := by
      rw [List.length_append, List.length_append, List.length_take, List.length_drop]
      simp
      omega
    generalize r.take k ++ [x] ++ r.drop (k + 1) = ro at hRo oko lno
    have h14 := k14.tup hB _ _ h1
    refine ⟨.ref q5, rfl, .ref q5, rfl, .ref p, rfl, p, _, rfl, st_of h14, fun rv nrv => ?_⟩
    have sv := same_new (o := .tup (ts.map V.ref).reverse) nrv
    refine ⟨by show 3 ≤ sizeLine; decide, fun L4 nL4 => ?_⟩
    have sv2 := sv.trans (same_new (o := .lst [.ref q5, .ref q5, .ref rv]) nL4)
    have hL4 : (upd (upd H14 rv (.tup (ts.map V.ref).reverse)) L4 (.lst [.ref q5, .ref q5, .ref rv])) L4 = some (.lst [.ref q5, .ref q5, .ref rv]) := upd_same
    have hrv : (upd (upd H14 rv (.tup (ts.map V.ref).reverse)) L4 (.lst [.ref q5, .ref q5, .ref rv])) rv = some (.tup (ts.map V.ref).reverse) := same_new nL4 _ _ upd_same
    generalize upd (upd H14 rv (.tup (ts.map V.ref).reverse)) L4 (.lst [.ref q5, .ref q5, .ref rv]) = H15 at sv2 hL4 hrv ⊢
    have B15 := B14.same sv2
    refine ⟨.ref b, rfl, b, 3, rfl, B15, by decide, fun H16 r16 k16 B16 lo16 hi16 => ?_⟩
    have hL16 : H16 L4 = some (.lst [.ref q5, .ref q5, .ref rv]) := k16 _ _ (ne_bag2 hL4 B15 (by intro d z; cases z)) hL4
    have t16 := k16.tup B15
    have K16 : Kb b H H16 := kk0.trans (k14.trans ((Kb.of sv2).trans k16))
    obtain ⟨f, rf, hfe, hRf, okf, lnf⟩ : ∃ (f : Addr) (rf : List (Int × Int)), (if r16 = 0 then V.ref q5 else if r16 = 1 then V.ref q5 else V.ref rv) = .ref f ∧ RowAt H16 f rf ∧ (∀ ec ∈ rf, okT ec) ∧ rf.length = r.length := by
      have ho : RowAt H16 q5 ro := (hRo.keep (tupS_of sv2)).keep t16
      split
      · exact ⟨q5, ro, rfl, ho, oko, lno⟩
      · split
        · exact ⟨q5, ro, rfl, ho, oko, lno⟩
        · refine ⟨rv, r.reverse, rfl, ⟨ts.reverse, ?_, ?_, ?_⟩, ?_, ?_⟩
          · rw [List.map_reverse]
            exact t16 _ _ hrv
          · rw [List.length_reverse, List.length_reverse, h2]
          · intro i t' ec a1 a2
            have hi : i < ts.length := by
              have := (List.getElem?_eq_some_iff.mp a1).1
              rw [List.length_reverse] at this
              exact this
            rw [List.getElem?_reverse hi] at a1
            rw [List.getElem?_reverse (by omega), ← h2] at a2
            exact t16 _ _ (sv2 _ _ (pr.2 _ t' ec a1 a2))
          · exact fun ec hm => ok _ (List.mem_reverse.mp hm)
          · exact List.length_reverse
    refine ⟨L4, _, r16, .ref f, rfl, rfl, sq_of hL16, by rw [at3 lo16 hi16, hfe], ?_⟩
    exact q _ f rf K16 B16 hRf okf lnf

/-! who refuses -/
/-- the class D0 of an error, by what isinstance says of it -/
structure KinOf (T : Top K mg) (D0 : Addr) (b0 b1 b2 b3 b4 b5 b6 b7 : Bool) : Prop where
  ex : ExcC K D0
  tm : PySem.W.exmOne K (.ref D0) (.ref T.C_TooMany) = some false
  te : PySem.W.exmOne K (.ref D0) (.ref T.C_TakeError) = some true
  k0 : PySem.W.kitOne K (.ref D0) (.ref T.C_NoRow) = some b0
  k1 : PySem.W.kitOne K (.ref D0) (.ref T.C_NoNumber) = some b1
  k2 : PySem.W.kitOne K (.ref D0) (.ref T.C_NoTaker) = some b2
  k3 : PySem.W.kitOne K (.ref D0) (.ref T.C_NoSeen) = some b3
  k4 : PySem.W.kitOne K (.ref D0) (.ref T.C_NoCounts) = some b4
  k5 : PySem.W.kitOne K (.ref D0) (.ref T.C_NoPlace) = some b5
  k6 : PySem.W.kitOne K (.ref D0) (.ref T.C_Unlike) = some b6
  k7 : PySem.W.kitOne K (.ref D0) (.ref T.C_Full) = some b7
  kv : PySem.W.kitOne K (.ref D0) (.type "ValueError") = some true
def kinF (ws : List (Str × Bool)) : List V := (ws.filter (·.2)).map fun x => V.str x.1
theorem kinF_succ (ws : List (Str × Bool)) (i : Nat) (x : Str × Bool) (h : ws[i]? = some x) : kinF (ws.take (i + 1)) = kinF (ws.take i) ++ (if x.2 = true then [V.str x.1] else []) := by
  unfold kinF
  rw [List.take_add_one, h, List.filter_append, List.map_append]
  cases hx : x.2 <;> simp [hx]
def kinL (b0 b1 b2 b3 b4 b5 b6 b7 : Bool) : List (Str × Bool) := [("NoRow", b0), ("NoNumber", b1), ("NoTaker", b2), ("NoSeen", b3), ("NoCounts", b4), ("NoPlace", b5), ("Unlike", b6), ("Full", b7)]
def spRefused (P : Program) (w : World) (base : Heap) (T : Top K mg) : Sp := fun vs H Q _ => ∃ (f : Addr) (v1 v2 v3 : V) (sp : Sp), vs = [.ref f, v1, v2, v3] ∧ Acts P w K mg base 6 f H sp ∧
  ∀ D, H D = none → ∀ (Q' : VK) (E' : XK), (∀ v H2, H2 D = some (.lst []) → Q (.ref D) H2 → Q' v H2) →
    (∀ D0 b0 b1 b2 b3 b4 b5 b6 b7 H2, KinOf T D0 b0 b1 b2 b3 b4 b5 b6 b7 → (∀ H3 p, Same H2 H3 → H2 p = none → H3 p = some (.lst (kinF (kinL b0 b1 b2 b3 b4 b5 b6 b7) ++ [.bl true])) → Q (.ref p) H3) → E' (.ref D0) none H2) →
    sp [v1, v2, v3] (upd H D (.lst [])) Q' E'
theorem ok__law_refused (T : Top K mg) : FnOk P w K mg base CX0 7 T.a__law_refused T.fd__law_refused ["call", "one", "two", "three"] (spRefused P w base T) := by
  refine T.F__law_refused.ok sc__law_refused (fun vs H Q E h => ?_) (fun cdv A outer s H vs Q E hr h => ?_)
  · obtain ⟨f, v1, v2, v3, sp, rfl, _⟩ := h
    rfl
  · obtain ⟨f, v1, v2, v3, sp, rfl, ac, h⟩ := h
    refine ⟨_, (pss_cons (ps_set (i := 4) sc__law_refused.nd rfl (.inl rfl) (pe_lst pa_nil))
      (pss_cons (ps_try_manyA (i := 5) rfl rfl sc__law_refused.nd rfl rfl takesN0 (fun W pn xe tk _ => (pss_one (ps_expr (pe_callV (P := P) (w := w) (K := K) (mg := mg) (base := base) (k := 6) (i := 0) (hr.mono (by decide)) rfl (Or.inl rfl) (fun σ => L2N.passAt tk σ) (pa_cons (pv 1) (pa_cons (pv 2) (pa_cons (pv 3) pa_nil)))))))
      (clause_never ⟨rfl, by decide, .inl T.g_TooMany⟩
        (clause_exc ⟨rfl, by decide, .inl T.g_TakeError⟩ (fun a oe pn D0 hz hf hE hh => (pss_cons (ps_set (i := 6) sc__law_refused.nd rfl (.inl rfl) (pe_lst (pa_cons (pe_tup (pa_cons pe_str (pa_cons (pe_callB (call_isE hE hz.zc hf) (by rfl) T.z_isinstance (by decide +kernel) (pa_cons (pv 5) (pa_cons (pe_glob (v := .ref T.C_NoRow) (by rfl) T.g_NoRow rfl) pa_nil))) pa_nil))) (pa_cons (pe_tup (pa_cons pe_str (pa_cons (pe_callB (call_isE hE hz.zc hf) (by rfl) T.z_isinstance (by decide +kernel) (pa_cons (pv 5) (pa_cons (pe_glob (v := .ref T.C_NoNumber) (by rfl) T.g_NoNumber rfl) pa_nil))) pa_nil))) pa_nil))))
      (pss_cons (ps_set (i := 6) sc__law_refused.nd rfl (.inl rfl) (pe_op op_cat (pv 6) (pe_lst (pa_cons (pe_tup (pa_cons pe_str (pa_cons (pe_callB (call_isE hE hz.zc hf) (by rfl) T.z_isinstance (by decide +kernel) (pa_cons (pv 5) (pa_cons (pe_glob (v := .ref T.C_NoTaker) (by rfl) T.g_NoTaker rfl) pa_nil))) pa_nil))) pa_nil))))
      (pss_cons (ps_set (i := 6) sc__law_refused.nd rfl (.inl rfl) (pe_op op_cat (pv 6) (pe_lst (pa_cons (pe_tup (pa_cons pe_str (pa_cons (pe_callB (call_isE hE hz.zc hf) (by rfl) T.z_isinstance (by decide +kernel) (pa_cons (pv 5) (pa_cons (pe_glob (v := .ref T.C_NoSeen) (by rfl) T.g_NoSeen rfl) pa_nil))) pa_nil))) (pa_cons (pe_tup (pa_cons pe_str (pa_cons (pe_callB (call_isE hE hz.zc hf) (by rfl) T.z_isinstance (by decide +kernel) (pa_cons (pv 5) (pa_cons (pe_glob (v := .ref T.C_NoCounts) (by rfl) T.g_NoCounts rfl) pa_nil))) pa_nil))) pa_nil)))))
      (pss_cons (ps_set (i := 6) sc__law_refused.nd rfl (.inl rfl) (pe_op op_cat (pv 6) (pe_lst (pa_cons (pe_tup (pa_cons pe_str (pa_cons (pe_callB (call_isE hE hz.zc hf) (by rfl) T.z_isinstance (by decide +kernel) (pa_cons (pv 5) (pa_cons (pe_glob (v := .ref T.C_NoPlace) (by rfl) T.g_NoPlace rfl) pa_nil))) pa_nil))) (pa_cons (pe_tup (pa_cons pe_str (pa_cons (pe_callB (call_isE hE hz.zc hf) (by rfl) T.z_isinstance (by decide +kernel) (pa_cons (pv 5) (pa_cons (pe_glob (v := .ref T.C_Unlike) (by rfl) T.g_Unlike rfl) pa_nil))) pa_nil))) pa_nil)))))
      (pss_cons (ps_set (i := 6) sc__law_refused.nd rfl (.inl rfl) (pe_op op_cat (pv 6) (pe_lst (pa_cons (pe_tup (pa_cons pe_str (pa_cons (pe_callB (call_isE hE hz.zc hf) (by rfl) T.z_isinstance (by decide +kernel) (pa_cons (pv 5) (pa_cons (pe_glob (v := .ref T.C_Full) (by rfl) T.g_Full rfl) pa_nil))) pa_nil))) pa_nil))))
      (pss_one (ps_set (i := 4) sc__law_refused.nd rfl (.inl rfl) (pe_op op_cat (pe_lcH (K := K) (g := (gTup K 2 (gCons (gName 7) (gCons (gName 8) gNil)))) (own := [("word", 7), ("there", 8)]) sc__law_refused.nd (pv 6)
        (blkOk_by (own := [("word", 7), ("there", 8)]) (N := ["call", "one", "two", "three", "kin", "e", "words", "word", "there"]) (sc := defScope s__law_refused) (by decide +kernel))
        (fun _ _ _ _ _ hb => (pg_tupH hb (pgs_cons (pg_name (i := 7) sc__law_refused.nd rfl (.inl rfl)) (pgs_cons (pg_name (i := 8) sc__law_refused.nd rfl (.inl rfl)) pgs_nil)))) (fun _ _ _ _ _ => (pts_one (pt_val (pv 8)))) (fun _ _ _ _ _ => (pv 7)) hh) (pe_lst (pa_cons (pe_callB (call_isE hE hz.zc hf) (by rfl) T.z_isinstance (by decide +kernel) (pa_cons (pv 5) (pa_cons (pe_bltn (v := .ty "ValueError") (by rfl) T.z_ValueError (by decide +kernel) rfl) pa_nil))) pa_nil)))))))))))
        Clauses.nil)))
      (pss_one (ps_ret (pv 4))))), ?_⟩
    refine ⟨Nat.zero_le _, fun D nD => ?_⟩
    refine ⟨f, sp, rfl, ac.same (same_new nD), v1, rfl, v2, rfl, v3, rfl, Same.refl _, ?_⟩
    refine h D nD _ _ (fun v H2 _ q => ⟨.ref D, rfl, q⟩) (fun D0 b0 b1 b2 b3 b4 b5 b6 b7 H2 kin q => ?_)
    refine ⟨false, kin.tm, nofun, fun _ => ⟨true, kin.te, fun _ a na => ?_, nofun⟩⟩
    refine ⟨D0, rfl, rfl, kin.ex, ?_⟩
    refine ⟨.ref a, rfl, .ref T.C_NoRow, _, b0, rfl, fun u h => h, kin.k0, by show 2 ≤ sizeLine; decide, fun t0 n0 => ?_⟩
    have s0 := same_new (o := .tup [.str "NoRow", .bl b0]) n0
    have h0 : (upd H2 t0 (.tup [.str "NoRow", .bl b0])) t0 = some (.tup [.str "NoRow", .bl b0]) := upd_same
    generalize upd H2 t0 (.tup [.str "NoRow", .bl b0]) = G0 at s0 h0 ⊢
    refine ⟨.ref a, rfl, .ref T.C_NoNumber, _, b1, rfl, fun u h => h, kin.k1, by show 2 ≤ sizeLine; decide, fun t1 n1 => ?_⟩
    have s1 := same_new (o := .tup [.str "NoNumber", .bl b1]) n1
    have h1 : (upd G0 t1 (.tup [.str "NoNumber", .bl b1])) t1 = some (.tup [.str "NoNumber", .bl b1]) := upd_same
    generalize upd G0 t1 (.tup [.str "NoNumber", .bl b1]) = G1 at s1 h1 ⊢
    refine ⟨by show 2 ≤ sizeLine; decide, fun L0 nL0 => ?_⟩
    have e0 := same_new (o := .lst [.ref t0, .ref t1]) nL0
    have g0 : (upd G1 L0 (.lst [.ref t0, .ref t1])) L0 = some (.lst [.ref t0, .ref t1]) := upd_same
    generalize upd G1 L0 (.lst [.ref t0, .ref t1]) = G2 at e0 g0 ⊢
    -- the second
    refine ⟨.ref L0, rfl, .ref a, rfl, .ref T.C_NoTaker, _, b2, rfl, fun u h => h, kin.k2, by show 2 ≤ sizeLine; decide, fun t2 n2 => ?_⟩
    have s2 := same_new (o := .tup [.str "NoTaker", .bl b2]) n2
    have h2 : (upd G2 t2 (.tup [.str "NoTaker", .bl b2])) t2 = some (.tup [.str "NoTaker", .bl b2]) := upd_same
    generalize upd G2 t2 (.tup [.str "NoTaker", .bl b2]) = G3 at s2 h2 ⊢
    refine ⟨by show 1 ≤ sizeLine; decide, fun M1 nM1 => ?_⟩
    have e1 := same_new (o := .lst [.ref t2]) nM1
    refine ⟨L0, M1, _, _, rfl, rfl, e1 _ _ (s2 _ _ g0), upd_same, by show 3 ≤ sizeLine; decide, fun L1 nL1 => ?_⟩
    have e2 := e1.trans (same_new (o := .lst ([.ref t0, .ref t1] ++ [.ref t2])) nL1)
    have g1 : (upd (upd G3 M1 (.lst [.ref t2])) L1 (.lst ([.ref t0, .ref t1] ++ [.ref t2]))) L1 = some (.lst [.ref t0, .ref t1, .ref t2]) := upd_same
    generalize upd (upd G3 M1 (.lst [.ref t2])) L1 (.lst ([.ref t0, .ref t1] ++ [.ref t2])) = G4 at e2 g1 ⊢
    -- the third
    refine ⟨.ref L1, rfl, .ref a, rfl, .ref T.C_NoSeen, _, b3, rfl, fun u h => h, kin.k3, by show 2 ≤ sizeLine; decide, fun t3 n3 => ?_⟩
    have s3 := same_new (o := .tup [.str "NoSeen", .bl b3]) n3
    have h3 : (upd G4 t3 (.tup [.str "NoSeen", .bl b3])) t3 = some (.tup [.str "NoSeen", .bl b3]) := upd_same
    generalize upd G4 t3 (.tup [.str "NoSeen", .bl b3]) = G5 at s3 h3 ⊢
    refine ⟨.ref a, rfl, .ref T.C_NoCounts, _, b4, rfl, fun u h => h, kin.k4, by show 2 ≤ sizeLine; decide, fun t4 n4 => ?_⟩
    have s4 := same_new (o := .tup [.str "NoCounts", .bl b4]) n4
    have h4 : (upd G5 t4 (.tup [.str "NoCounts", .bl b4])) t4 = some (.tup [.str "NoCounts", .bl b4]) := upd_same
    generalize upd G5 t4 (.tup [.str "NoCounts", .bl b4]) = G6 at s4 h4 ⊢
    refine ⟨by show 2 ≤ sizeLine; decide, fun M2 nM2 => ?_⟩
    have e3 := same_new (o := .lst [.ref t3, .ref t4]) nM2
    refine ⟨L1, M2, _, _, rfl, rfl, e3 _ _ (s4 _ _ (s3 _ _ g1)), upd_same, by show 5 ≤ sizeLine; decide, fun L2' nL2 => ?_⟩
    have e4 := e3.trans (same_new (o := .lst ([.ref t0, .ref t1, .ref t2] ++ [.ref t3, .ref t4])) nL2)
    have g2 : (upd (upd G6 M2 (.lst [.ref t3, .ref t4])) L2' (.lst ([.ref t0, .ref t1, .ref t2] ++ [.ref t3, .ref t4]))) L2' = some (.lst [.ref t0, .ref t1, .ref t2, .ref t3, .ref t4]) := upd_same
    generalize upd (upd G6 M2 (.lst [.ref t3, .ref t4])) L2' (.lst ([.ref t0, .ref t1, .ref t2] ++ [.ref t3, .ref t4])) = G7 at e4 g2 ⊢
    -- the fourth
    refine ⟨.ref L2', rfl, .ref a, rfl, .ref T.C_NoPlace, _, b5, rfl, fun u h => h, kin.k5, by show 2 ≤ sizeLine; decide, fun t5 n5 => ?_⟩
    have s5 := same_new (o := .tup [.str "NoPlace", .bl b5]) n5
    have h5 : (upd G7 t5 (.tup [.str "NoPlace", .bl b5])) t5 = some (.tup [.str "NoPlace", .bl b5]) := upd_same
    generalize upd G7 t5 (.tup [.str "NoPlace", .bl b5]) = G8 at s5 h5 ⊢
    refine ⟨.ref a, rfl, .ref T.C_Unlike, _, b6, rfl, fun u h => h, kin.k6, by show 2 ≤ sizeLine; decide, fun t6 n6 => ?_⟩
    have s6 := same_new (o := .tup [.str "Unlike", .bl b6]) n6
    have h6 : (upd G8 t6 (.tup [.str "Unlike", .bl b6])) t6 = some (.tup [.str "Unlike", .bl b6]) := upd_same
    generalize upd G8 t6 (.tup [.str "Unlike", .bl b6]) = G9 at s6 h6 ⊢
    refine ⟨by show 2 ≤ sizeLine; decide, fun M3 nM3 => ?_⟩
    have e5 := same_new (o := .lst [.ref t5, .ref t6]) nM3
    refine ⟨L2', M3, _, _, rfl, rfl, e5 _ _ (s6 _ _ (s5 _ _ g2)), upd_same, by show 7 ≤ sizeLine; decide, fun L3 nL3 => ?_⟩
    have e6 := e5.trans (same_new (o := .lst ([.ref t0, .ref t1, .ref t2, .ref t3, .ref t4] ++ [.ref t5, .ref t6])) nL3)
    have g3 : (upd (upd G9 M3 (.lst [.ref t5, .ref t6])) L3 (.lst ([.ref t0, .ref t1, .ref t2, .ref t3, .ref t4] ++ [.ref t5, .ref t6]))) L3 = some (.lst [.ref t0, .ref t1, .ref t2, .ref t3, .ref t4, .ref t5, .ref t6]) := upd_same
    generalize upd (upd G9 M3 (.lst [.ref t5, .ref t6])) L3 (.lst ([.ref t0, .ref t1, .ref t2, .ref t3, .ref t4] ++ [.ref t5, .ref t6])) = G10 at e6 g3 ⊢
    -- the last
    refine ⟨.ref L3, rfl, .ref a, rfl, .ref T.C_Full, _, b7, rfl, fun u h => h, kin.k7, by show 2 ≤ sizeLine; decide, fun t7 n7 => ?_⟩
    have s7 := same_new (o := .tup [.str "Full", .bl b7]) n7
    have h7 : (upd G10 t7 (.tup [.str "Full", .bl b7])) t7 = some (.tup [.str "Full", .bl b7]) := upd_same
    generalize upd G10 t7 (.tup [.str "Full", .bl b7]) = G11 at s7 h7 ⊢
    refine ⟨by show 1 ≤ sizeLine; decide, fun M4 nM4 => ?_⟩
    have e7 := same_new (o := .lst [.ref t7]) nM4
    refine ⟨L3, M4, _, _, rfl, rfl, e7 _ _ (s7 _ _ g3), upd_same, by show 8 ≤ sizeLine; decide, fun L4 nL4 => ?_⟩
    have e8 := e7.trans (same_new (o := .lst ([.ref t0, .ref t1, .ref t2, .ref t3, .ref t4, .ref t5, .ref t6] ++ [.ref t7])) nL4)
    have g4 : (upd (upd G11 M4 (.lst [.ref t7])) L4 (.lst ([.ref t0, .ref t1, .ref t2, .ref t3, .ref t4, .ref t5, .ref t6] ++ [.ref t7]))) L4 = some (.lst ([t0, t1, t2, t3, t4, t5, t6, t7].map V.ref)) := upd_same
    generalize upd (upd G11 M4 (.lst [.ref t7])) L4 (.lst ([.ref t0, .ref t1, .ref t2, .ref t3, .ref t4, .ref t5, .ref t6] ++ [.ref t7])) = G12 at e8 g4 ⊢
    -- all of it
    have r67 := (s7.trans e8)
    have r56 := e6.trans r67
    have r5 := s6.trans r56
    have r4 := s5.trans r5
    have r34 := e4.trans r4
    have r3 := s4.trans r34
    have r2 := s3.trans r3
    have r23 := e2.trans r2
    have r1 := s2.trans r23
    have r12 := e0.trans r1
    have r0 := s1.trans r12
    have rr := s0.trans r0
    have hw : ∀ (i : Nat) (t : Addr) (x : Str × Bool), [t0, t1, t2, t3, t4, t5, t6, t7][i]? = some t → (kinL b0 b1 b2 b3 b4 b5 b6 b7)[i]? = some x → G12 t = some (.tup [.str x.1, .bl x.2]) := by
      intro i t x ht hx
      match i, ht, hx with
      | 0, ht, hx => cases ht; cases hx; exact r0 _ _ h0
      | 1, ht, hx => cases ht; cases hx; exact r12 _ _ h1
      | 2, ht, hx => cases ht; cases hx; exact r23 _ _ h2
      | 3, ht, hx => cases ht; cases hx; exact r3 _ _ h3
      | 4, ht, hx => cases ht; cases hx; exact r34 _ _ h4
      | 5, ht, hx => cases ht; cases hx; exact r5 _ _ h5
      | 6, ht, hx => cases ht; cases hx; exact r56 _ _ h6
      | 7, ht, hx => cases ht; cases hx; exact e8 _ _ h7
      | (i + 8), ht, _ => simp at ht
    obtain ⟨ws, hws⟩ : ∃ ws, kinL b0 b1 b2 b3 b4 b5 b6 b7 = ws := ⟨_, rfl⟩
    have hwl : ws.length = 8 := by rw [← hws]; rfl
    rw [hws] at hw q
    clear s0 s1 s2 s3 s4 s5 s6 s7 e0 e1 e2 e3 e4 e5 e6 e7 e8 g0 g1 g2 g3 r0 r1 r2 r3 r4 r5 r12 r23 r34 r56 r67 h0 h1 h2 h3 h4 h5 h6 h7
    obtain ⟨ts, hts⟩ : ∃ ts, [t0, t1, t2, t3, t4, t5, t6, t7] = ts := ⟨_, rfl⟩
    have htl : ts.length = 8 := by rw [← hts]; rfl
    rw [hts] at hw g4
    refine ⟨.ref L4, rfl, L4, rfl, ⟨_, sq_of g4⟩, fun W nW => ?_⟩
    refine lc_list (K := K) (a := L4) (xs := ts.map V.ref) (fun i H' => Same G12 H' ∧ H' W = some (.lst (kinF (ws.take i)))) ⟨same_new nW, upd_same⟩ (fun i H' _ hp => sq_of (hp.1 _ _ g4)) (fun i x H' hx hp => ?_) (fun H' hp => ?_)
    · obtain ⟨sm, hd⟩ := hp
      rw [List.getElem?_map] at hx
      obtain ⟨t, ht, hxe⟩ := Option.map_eq_some_iff.mp hx
      subst hxe
      have hi : i < ws.length := by rw [hwl, ← htl]; exact (List.getElem?_eq_some_iff.mp ht).1
      have hx := List.getElem?_eq_getElem hi
      obtain ⟨⟨nm, b⟩, hnb⟩ : ∃ x, ws[i] = x := ⟨_, rfl⟩
      rw [hnb] at hx
      have hv := sm _ _ (hw i t _ ht hx)
      have ks := kinF_succ ws i _ hx
      refine ⟨t, _, rfl, st_of hv, rfl, _, _, rfl, _, _, rfl, rfl, ?_⟩
      refine ⟨rfl, .bl b, rfl, b, rfl, ite2 (fun z => ⟨_, rfl, _, hd, ?_, same_upd_new nW sm, ?_⟩) (fun z => ⟨sm, ?_⟩)⟩
      · unfold kinF
        rw [List.length_map]
        refine Nat.lt_of_le_of_lt (List.length_filter_le _ _) ?_
        rw [List.length_take]
        exact small1000 (by omega)
      · rw [upd_same, ks, if_pos z]
      · rw [ks, if_neg z, List.append_nil]
        exact hd
    · obtain ⟨sm, hd⟩ := hp
      rw [List.length_map, htl, ← hwl, List.take_length] at hd
      refine ⟨.ref a, rfl, .ty "ValueError", _, true, rfl, fun u h => h, kin.kv, by show 1 ≤ sizeLine; decide, fun M nM => ?_⟩
      have sM := same_new (o := .lst [.bl true]) nM
      refine ⟨W, M, _, _, rfl, rfl, sM _ _ hd, upd_same, ?_, fun p np => ?_⟩
      · unfold kinF
        rw [List.length_map]
        have := List.length_filter_le (fun x : Str × Bool => x.2) ws
        exact Nat.le_of_lt (small1000 (by simp; omega))
      · refine ⟨.ref p, rfl, q _ p (rr.trans (sm.trans (sM.trans (same_new np)))) ?_ upd_same⟩
        exact (rr.trans (sm.trans sM)).free np
theorem kin_mk (T : Top K mg) {D0 : Addr} {b0 b1 b2 b3 b4 b5 b6 b7 : Bool} (ex : ExcC K D0) (tm : PySem.W.subIn K (.ref D0) (.ref T.C_TooMany) = some false) (te : PySem.W.subIn K (.ref D0) (.ref T.C_TakeError) = some true)
    (k0 : PySem.W.subIn K (.ref D0) (.ref T.C_NoRow) = some b0) (k1 : PySem.W.subIn K (.ref D0) (.ref T.C_NoNumber) = some b1) (k2 : PySem.W.subIn K (.ref D0) (.ref T.C_NoTaker) = some b2) (k3 : PySem.W.subIn K (.ref D0) (.ref T.C_NoSeen) = some b3)
    (k4 : PySem.W.subIn K (.ref D0) (.ref T.C_NoCounts) = some b4) (k5 : PySem.W.subIn K (.ref D0) (.ref T.C_NoPlace) = some b5) (k6 : PySem.W.subIn K (.ref D0) (.ref T.C_Unlike) = some b6) (k7 : PySem.W.subIn K (.ref D0) (.ref T.C_Full) = some b7)
    (kv : PySem.W.subIn K (.ref D0) (.type "ValueError") = some true) : KinOf T D0 b0 b1 b2 b3 b4 b5 b6 b7 :=
  ⟨ex, PySem.W.exm_ref T.b_TooMany T.d_TooMany T.t_TooMany tm, PySem.W.exm_ref T.b_TakeError T.d_TakeError T.t_TakeError te, kit_of T.d_NoRow T.t_NoRow T.r_NoRow k0, kit_of T.d_NoNumber T.t_NoNumber T.r_NoNumber k1, kit_of T.d_NoTaker T.t_NoTaker T.r_NoTaker k2, kit_of T.d_NoSeen T.t_NoSeen T.r_NoSeen k3,
    kit_of T.d_NoCounts T.t_NoCounts T.r_NoCounts k4, kit_of T.d_NoPlace T.t_NoPlace T.r_NoPlace k5, kit_of T.d_Unlike T.t_Unlike T.r_Unlike k6, kit_of T.d_Full T.t_Full T.r_Full k7, kit_val kv⟩

/-! two rows that have not as many takers -/
def spPartU (C : Addr) : Sp := fun vs H _ E => ∃ (p p' : Addr) (r r' : List (Int × Int)), vs = [.ref p, .ref p'] ∧ RowAt H p r ∧ RowAt H p' r' ∧ (∀ ec ∈ r, okT ec) ∧ (∀ ec ∈ r', okT ec) ∧ r.length ≤ 8 ∧ r'.length ≤ 8 ∧ r.length ≠ r'.length ∧ ∀ H', Same H H' → E (.ref C) none H'
theorem okU_parted (T : Top K mg) : FnOk P w K mg base (L2N.CX P w) 5 T.a_parted T.fd_parted ["one", "other"] (spPartU T.C_Unlike) := by
  refine okN T.F_parted sc_parted (fun vs H Q E h => ?_) (fun cdv A outer s H vs Q E hr h => ?_)
  · obtain ⟨p, p', r, r', rfl, _⟩ := h
    rfl
  · obtain ⟨p, p', r, r', rfl, hR, hR', ok, ok', hl, hl', hne, q⟩ := h
    refine ⟨_, (pss_cons (ps_expr (pe_call (ok_check_row T) (hr.mono (by decide)) (by rfl) T.g_check_row T.F_check_row.kp T.b_check_row .nil pass0 (pa_cons (pv 0) pa_nil)))
      (pss_cons (ps_expr (pe_call (ok_check_row T) (hr.mono (by decide)) (by rfl) T.g_check_row T.F_check_row.kp T.b_check_row .nil pass0 (pa_cons (pv 1) pa_nil)))
      (pss_cons (ps_if (pt_cmpR op_ne (pe_callB call_len_seq (by rfl) T.z_len (by decide +kernel) (pa_cons (pv 0) pa_nil)) (pe_callB call_len_seq (by rfl) T.z_len (by decide +kernel) (pa_cons (pv 1) pa_nil)) (nomark _)) (pss_one (L2N.ps_raise rfl (L2N.takes_of rfl rfl rfl rfl) (L2N.pmk_own PySem.F.excBase_ValueError T.x_Unlike T.g_Unlike T.k_Unlike (raises_own T.b_Unlike T.t_Unlike) rfl))) pss_nil)
      (pss_cons (ps_set (i := 2) sc_parted.nd rfl (.inl rfl) (pe_lst pa_nil))
      (pss_cons (ps_for (passes_of rfl) rfl (pi_range1 (by rfl) T.z_range (pa_cons (pe_callB call_len_seq (by rfl) T.z_len (by decide +kernel) (pa_cons (pv 0) pa_nil)) pa_nil)) (pg_name (i := 3) sc_parted.nd rfl (.inl rfl))
        (pss_cons (ps_set (i := 4) sc_parted.nd rfl (.inl rfl) (pe_call (ok_taken_unlike T) (hr.mono (by decide)) (by rfl) T.g_taken_unlike T.F_taken_unlike.kp T.b_taken_unlike .nil pass0 (pa_cons (pe_ix ix_tup (pv 0) (pv 3) (fun _ _ => rfl)) (pa_cons (pe_ix ix_tup (pv 1) (pv 3) (fun _ _ => rfl)) pa_nil))))
      (pss_one (ps_if (pt_cmpR op_notN (pv 4) pe_non (nomark _)) (pss_one (ps_expr (pe_bm PySem.F.plainAttrs_list PySem.F.slot_list_append PySem.F.type_list_append mt_append (pv 2) (pa_cons (pe_call (ok_piece_behind T) (hr.mono (by decide)) (by rfl) T.g_piece_behind T.F_piece_behind.kp T.b_piece_behind .nil pass0 (pa_cons (pe_slice sl_tupA (pv 0) po_none (po_some (pv 3))) (pa_cons (pv 4) pa_nil))) pa_nil)))) pss_nil))))
      (pss_one (ps_ret (pe_callBK (cr_minDef rfl) (by rfl) T.z_min (by decide +kernel) (pa_cons (pv 2) pa_nil) (pk_cons pe_non pk_nil))))))))), ?_⟩
    refine ⟨.ref p, rfl, p, r, rfl, hR, ok, hl, fun H1 s1 => ?_⟩
    refine ⟨.ref p', rfl, p', r', rfl, hR'.keep (tupS_of s1), ok', hl', fun H2 s2 => ?_⟩
    have s12 := s1.trans s2
    obtain ⟨ts, h1, h2, h3⟩ := hR.keep (tupS_of s12)
    obtain ⟨us, g1, g2, g3⟩ := hR'.keep (tupS_of s12)
    refine ⟨.ref p, rfl, p, _, rfl, .inr (st_of h1), .ref p', rfl, p', _, rfl, .inr (st_of g1), rfl, true, ?_, iteT ?_⟩
    · rw [List.length_map, List.length_map, h2, g2, decide_eq_false (fun z => hne (by have := V.int.inj z; omega))]
      rfl
    · exact q _ s12
def excU (T : Top K mg) : ExcC K T.C_Unlike := ⟨T.y_Unlike, T.w_Unlike, T.b_Unlike, T.d_Unlike, T.u_Unlike, T.q_n, T.q_t, T.m_Unlike⟩
theorem kinU (T : Top K mg) : KinOf T T.C_Unlike false false false false false false true false :=
  kin_mk T (excU T) T.s_Unlike_TooMany T.s_Unlike_TakeError T.s_Unlike_NoRow T.s_Unlike_NoNumber T.s_Unlike_NoTaker T.s_Unlike_NoSeen T.s_Unlike_NoCounts T.s_Unlike_NoPlace T.r_Unlike T.s_Unlike_Full T.v_Unlike

/-! the law's own table of code objects -/
def cs0 (T : Top K mg) : List (Addr × Addr) := [(T.cc_law, T.pt_law)]
def TLs (T : Top K mg) : List (Addr × Str) := [(T.pt_law, ("law" : Str) ++ ".<locals>." ++ "<lambda>")]
theorem tabs0 (T : Top K mg) {H : Hp} (h : ∀ p ∈ cs0 T, H p.2 = some (.tbl #[])) : LamX.Tabs (TLs T) H := fun p hp => by
  have e : p = (T.pt_law, ("law" : Str) ++ ".<locals>." ++ "<lambda>") := List.mem_singleton.mp hp
  subst e
  exact LamX.TabS.nil (h (T.cc_law, T.pt_law) (List.mem_singleton.mpr rfl))
def spLawT (K : PySem.W.Frag) {mg : Str → Option Value} (T : Top K mg) : Sp := fun vs H Q _ => ∃ (a : Addr) (ns : List Int), vs = [.ref a] ∧ SqL K H a (ns.map V.int) ∧ ns.length ≤ 63 ∧ LamX.Tabs (TLs T) H ∧ ∀ H', Q (.bl true) H'

/-! the law -/
def unlF (a b : List (Int × Int)) (m : Nat) : List Int := ((List.range m).filter fun (k : Nat) => !decide (whoF a ((k : Int) + 1) = whoF b ((k : Int) + 1))).map fun (k : Nat) => (k : Int) + 1
theorem unl_succ (a b : List (Int × Int)) (m : Nat) : unlF a b (m + 1) = unlF a b m ++ (if whoF a ((m : Int) + 1) = whoF b ((m : Int) + 1) then [] else [(m : Int) + 1]) := by
  unfold unlF
  rw [List.range_succ, List.filter_append, List.map_append]
  congr 1
  split
  · rename_i h
    simp [h]
  · rename_i h
    simp [h]
theorem unl_len (a b : List (Int × Int)) (m : Nat) : (unlF a b m).length ≤ m := by
  unfold unlF
  rw [List.length_map]
  refine Nat.le_trans (List.length_filter_le _ _) ?_
  rw [List.length_range]
  exact Nat.le_refl _
theorem unl_nil {a b : List (Int × Int)} : ∀ {m : Nat}, (∀ n : Int, 1 ≤ n → n ≤ m → whoF a n = whoF b n) → unlF a b m = []
  | 0, _ => rfl
  | m + 1, h => by
    rw [unl_succ, unl_nil (fun n h1 h2 => h n h1 (by omega)), if_pos (h _ (by omega) (by omega))]
    rfl
theorem unl_first {a b : List (Int × Int)} {n : Int} (h : Parts a b n) : ∀ {m : Nat}, n ≤ m → ∃ rest, unlF a b m = n :: rest
  | 0, hn => absurd hn (by have := h.pos; omega)
  | m + 1, hn => by
    by_cases hm : n ≤ m
    · obtain ⟨rest, e⟩ := unl_first h hm
      exact ⟨_, by rw [unl_succ, e]; rfl⟩
    · have e : n = (m : Int) + 1 := by omega
      refine ⟨[], ?_⟩
      rw [unl_succ, unl_nil (fun k h1 h2 => h.low k h1 (by omega)), if_neg (by rw [← e]; exact h.ne), e]
      rfl
theorem ne_intsD {K : PySem.W.Frag} {H : Hp} {a b : Addr} {ns ms : List Int} {Q : VK} (ha : SqL K H a (ns.map V.int)) (hb : SqL K H b (ms.map V.int)) (q : Q (.bl (!decide (ns = ms))) H) : rNeD K (.ref a) (.ref b) H Q := by
  refine ⟨_, _, dp_ints ha, dp_ints hb, shp_ints ns, shp_ints ms, ?_⟩
  rw [eqv_list]
  exact q
theorem scal_ofI (a b : Option Int) : scal (ofI a) (ofI b) = true := by cases a <;> cases b <;> rfl
theorem ofO_dec (a b : Option Nat) : decide (ofO a = ofO b) = decide (a = b) := by
  rw [decide_eq_decide]
  exact ⟨fun z => ofO_inj z, fun z => by rw [z]⟩
theorem ne_kin {K : PySem.W.Frag} {H : Hp} {a b : Addr} {nm : Str} {Q : VK} (ha : H a = some (.lst [.str nm, .bl true])) (hb : H b = some (.lst [.str nm, .bl true])) (q : Q (.bl false) H) (hs : SeqAt.shaped (.list [.str nm, .bool true]) = true := by decide +kernel) (hc : PyData.canLay0 (.list [.str nm, .bool true]) = true := by decide +kernel) : rNeD K (.ref a) (.ref b) H Q := by
  refine ⟨.list [.str nm, .bool true], .list [.str nm, .bool true], .lst (sq_of ha) (.cons (.str _) (.cons (.bl _) .nil)), .lst (sq_of hb) (.cons (.str _) (.cons (.bl _) .nil)), hs, hs, ?_⟩
  rw [SeqAt.eqv_refl _ hc]
  exact q
theorem ok_law (T : Top K mg) (TB : ∀ p ∈ cs0 T, LamX.TabB base mg p.1 p.2) : FnOk P w K mg base CX0 8 T.a_law T.fd_law ["script"] (spLawT K T) := by
  have TBlaw : LamX.TabB base mg T.cc_law T.pt_law := TB _ (List.mem_singleton.mpr rfl)
  have ULlaw : ∀ p ∈ TLs T, p.1 = T.pt_law → p.2 = ("law" : Str) ++ ".<locals>." ++ "<lambda>" := fun p hp _ => by rw [List.mem_singleton.mp hp]
  refine ok_code T.F_law T.hc_law sc_law (fun vs H Q E h => ?_) (fun A outer s H vs Q E hr h => ?_)
  · obtain ⟨a, ns, rfl, _⟩ := h
    rfl
  · obtain ⟨a, ns, rfl, hS, hlen, hT, q⟩ := h
    refine ⟨_, (pss_cons (ps_for PassesOwn.never rfl (pi_list (pe_call (ok__law_bags T) (hr.mono (by decide)) (by rfl) T.g__law_bags T.F__law_bags.kp T.b__law_bags .nil pass0 (pa_cons (pv 0) (pa_cons pe_int pa_nil)))) (pg_name (i := 1) sc_law.nd rfl (.inl rfl))
        (pss_cons (ps_set (i := 2) sc_law.nd rfl (.inl rfl) (pe_call (ok__law_drawn_row T) (hr.mono (by decide)) (by rfl) T.g__law_drawn_row T.F__law_drawn_row.kp T.b__law_drawn_row .nil pass0 (pa_cons (pv 1) (pa_cons pe_int (pa_cons (pe_ix ix_list (pe_lst (pa_cons pe_int (pa_cons pe_int pa_nil))) (pe_call (ok__law_take T) (hr.mono (by decide)) (by rfl) T.g__law_take T.F__law_take.kp T.b__law_take .nil pass0 (pa_cons (pv 1) (pa_cons pe_int pa_nil))) (fun _ _ => rfl)) pa_nil)))))
      (pss_cons (ps_set (i := 3) sc_law.nd rfl (.inr rfl) (pe_ix ix_tup (pe_call (ok__law_gone T) (hr.mono (by decide)) (by rfl) T.g__law_gone T.F__law_gone.kp T.b__law_gone .nil pass0 (pa_cons (pv 2) (pa_cons pe_int pa_nil))) pe_int (fun _ _ => rfl)))
      (pss_cons (ps_for PassesOwn.never rfl (pi_range1 (by rfl) T.z_range (pa_cons pe_int pa_nil)) (pg_name (i := 4) sc_law.nd rfl (.inl rfl))
        (pss_cons (ps_set (i := 5) sc_law.nd rfl (.inl rfl) (pe_call (ok__law_near T) (hr.mono (by decide)) (by rfl) T.g__law_near T.F__law_near.kp T.b__law_near .nil pass0 (pa_cons (pv 1) (pa_cons (pv 2) pa_nil))))
      (pss_cons (ps_set (i := 6) sc_law.nd rfl (.inr rfl) (pe_ix ix_tup (pe_call (ok__law_gone T) (hr.mono (by decide)) (by rfl) T.g__law_gone T.F__law_gone.kp T.b__law_gone .nil pass0 (pa_cons (pv 5) (pa_cons pe_int pa_nil))) pe_int (fun _ _ => rfl)))
      (pss_cons (ps_setLc (i := 7) (tt := tTest (tOp rNe (tOp (rIxL K) (tVar 3) (tVar 9)) (tOp (rIxL K) (tVar 6) (tVar 9)))) (own := [("piece", 9)]) (by rfl) sc_law.nd rfl rfl (sw_true rfl rfl rfl (by decide +kernel)) (pi_range1 (by rfl) T.z_range (pa_cons pe_int pa_nil))
        (blkOk_by (own := [("piece", 9)]) (N := ["script", "bag", "house", "seen", "turn", "other", "far", "unlike", "told", "piece"]) (sc := defScope s_law) (by decide +kernel))
        (fun _ _ _ _ _ => (pg_name (i := 9) sc_law.nd rfl (.inl rfl))) (fun _ _ _ _ _ => (pts_one (pt_cmpR op_ne (pe_ix ix_list (pv 3) (pv 9) (fun _ _ => rfl)) (pe_ix ix_list (pv 6) (pv 9) (fun _ _ => rfl)) (nomark _)))) (fun _ _ _ _ _ => (pe_op op_add (pv 9) pe_int)))
      (pss_cons (ps_set (i := 8) sc_law.nd rfl (.inl rfl) (pe_call (ok_parted T) (hr.mono (by decide)) (by rfl) T.g_parted T.F_parted.kp T.b_parted .nil pass0 (pa_cons (pv 2) (pa_cons (pv 5) pa_nil))))
      (pss_cons (ps_if (PW.pt (pw_or (pt_cmpR op_ne (pe_call (ok_parted T) (hr.mono (by decide)) (by rfl) T.g_parted T.F_parted.kp T.b_parted .nil pass0 (pa_cons (pv 5) (pa_cons (pv 2) pa_nil))) (pv 8) (nomark _)) (pw_or1 (pt_cmpR op_ne (pe_cmpR op_isN (pv 8) pe_non (nomark _)) (pe_cmpR (op_eqD hr.units) (pv 2) (pv 5) (nomark _)) (nomark _))))) (pss_one (ps_ret pe_bl)) pss_nil)
      (pss_one (ps_if (PW.pt (pw_or (PW.pt (pw_and (pt_cmpR (op_neD hr.units) (pv 7) (pe_lst pa_nil) (nomark _)) (pw_and1 (pt_cmpR op_ne (pv 8) (pe_ix ix_list (pv 7) pe_int (fun _ _ => rfl)) (nomark _))))) (pw_or1 (PW.pt (pw_and (pt_cmpR (op_eqD hr.units) (pv 7) (pe_lst pa_nil) (nomark _)) (pw_and (pt_cmpR op_notN (pv 8) pe_non (nomark _)) (pw_and1 (pt_cmpR op_le (pv 8) pe_int (nomark _))))))))) (pss_one (ps_ret pe_bl)) pss_nil))))))))
      (pss_cons (ps_if (pt_cmpR op_notN (pe_call (ok_parted T) (hr.mono (by decide)) (by rfl) T.g_parted T.F_parted.kp T.b_parted .nil pass0 (pa_cons (pv 2) (pa_cons (pv 2) pa_nil))) pe_non (nomark _)) (pss_one (ps_ret pe_bl)) pss_nil)
      (pss_one (ps_if (pt_cmpR (op_neD hr.units) (pe_call (ok__law_refused T) (hr.mono (by decide)) (by rfl) T.g__law_refused T.F__law_refused.kp T.b__law_refused .nil pass0 (pa_cons (pe_lamb (T := TLs T) TBlaw rfl (by first | exact List.mem_singleton.mpr rfl | decide) ULlaw rfl (no_free (by decide +kernel))) (pa_cons (pv 2) (pa_cons (pe_op op_catA (pv 2) (pe_tup (pa_cons (pe_tup (pa_cons pe_int (pa_cons pe_int pa_nil))) pa_nil))) (pa_cons pe_int pa_nil))))) (pe_lst (pa_cons pe_str (pa_cons pe_bl pa_nil))) (nomark _)) (pss_one (ps_ret pe_bl)) pss_nil)))))))
      (pss_one (ps_ret (pe_and (pe_cmpR op_eq (pe_call (ok_parted T) (hr.mono (by decide)) (by rfl) T.g_parted T.F_parted.kp T.b_parted .nil pass0 (pa_cons (pe_tup (pa_cons (pe_tup (pa_cons pe_int (pa_cons pe_int pa_nil))) (pa_cons (pe_tup (pa_cons pe_int (pa_cons pe_int pa_nil))) pa_nil))) (pa_cons (pe_tup (pa_cons (pe_tup (pa_cons pe_int (pa_cons pe_int pa_nil))) (pa_cons (pe_tup (pa_cons pe_int (pa_cons pe_int pa_nil))) pa_nil))) pa_nil))) pe_int (nomark _)) (pe_one (pe_cmpR op_isN (pe_call (ok_parted T) (hr.mono (by decide)) (by rfl) T.g_parted T.F_parted.kp T.b_parted .nil pass0 (pa_cons (pe_tup pa_nil) (pa_cons (pe_tup pa_nil) pa_nil))) pe_non (nomark _))))))), ?_⟩
    refine ⟨.ref a, rfl, a, ns, 8, rfl, hS, by decide, by decide, fun H1 L bs s1 nL hL hB => ⟨L, rfl, ⟨_, sq_of hL⟩, ?_⟩⟩
    refine for_list (K := K) (a := L) (xs := bs.map V.ref) (fun i σ H' => Std H' L bs ∧ LamX.Tabs (TLs T) H' ∧ ∃ y1 y2 y3 y4 y5 y6 y7 y8 y9, σ = [some (.ref a), y1, y2, y3, y4, y5, y6, y7, y8, y9])
      ⟨⟨hL, hB⟩, hT.ext s1, none, none, none, none, none, none, none, none, none, rfl⟩ (fun i σ H' _ hp => sq_of hp.1.l) (fun i x σ H2 hx hp => ?_) (fun σ H2 hp => ?_)
    · obtain ⟨std, hT2, y1, y2, y3, y4, y5, y6, y7, y8, y9, rfl⟩ := hp
      rw [List.getElem?_map] at hx
      obtain ⟨b, hb, hxe⟩ := Option.map_eq_some_iff.mp hx
      subst hxe
      have bm : b ∈ bs := List.mem_of_getElem? hb
      -- house
      refine ⟨.ref b, rfl, by show 2 ≤ sizeLine; decide, fun M nM => ?_⟩
      have sM := same_new (o := .lst [.int 6, .int 60]) nM
      have stdM := std.same sM
      have hT3 := hT2.ext sM
      have hM : (upd H2 M (.lst [.int 6, .int 60])) M = some (.lst [.int 6, .int 60]) := upd_same
      generalize upd H2 M (.lst [.int 6, .int 60]) = H3 at sM stdM hM hT3 ⊢
      refine ⟨.ref b, rfl, b, 2, rfl, stdM.b b bm, by decide, fun H4 r4 k4 B4 lo4 hi4 => ?_⟩
      have hM4 := keepL hM (stdM.b b bm) k4 (by intro d z; cases z)
      have std4 := stdM.kb bm k4 B4
      have hT4 := tabs_kb hT3 (stdM.b b bm) k4
      obtain ⟨far, hfar, f1, f2⟩ : ∃ far : Int, (if r4 = 0 then V.int 6 else V.int 60) = .int far ∧ 2 ≤ far ∧ far ≤ 1000 := by
        split
        · exact ⟨6, rfl, by decide, by decide⟩
        · exact ⟨60, rfl, by decide, by decide⟩
      refine ⟨M, _, r4, .int far, rfl, rfl, sq_of hM4, by rw [at2 lo4 hi4, hfar], b, 6, far, rfl, B4, by decide, by decide, f1, f2, fun H5 p r k5 B5 hR ok _ hl0 => ?_⟩
      have std5 := std4.kb bm k5 B5
      have hT5 := tabs_kb hT4 B4 k5
      have hl8 : r.length ≤ 6 := by omega
      -- seen
      refine ⟨.ref p, rfl, p, r, 600, rfl, hR, ok, by omega, by decide, by decide, fun H6 qq F C s6 nF nC hq hF hC => ?_⟩
      refine ⟨qq, _, 0, .ref F, rfl, rfl, st_of hq, rfl, ?_⟩
      have hF : H6 F = some (.lst ((seenF r 600).map ofO)) := hF
      have std6 := std5.same s6
      have hT6 := hT5.ext s6
      have hR6 := hR.keep (tupS_of s6)
      -- the turns
      refine ⟨4, rfl, by decide, by decide, ?_⟩
      refine for_range (lo := 0) (n := 4) (fun i σ H' => Std H' L bs ∧ LamX.Tabs (TLs T) H' ∧ RowAt H' p r ∧ H' F = some (.lst ((seenF r 600).map ofO)) ∧ ∃ y4 y5 y6 y7 y8 y9, σ = [some (.ref a), some (.ref b), some (.ref p), some (.ref F), y4, y5, y6, y7, y8, y9])
        ⟨std6, hT6, hR6, hF, _, _, _, _, _, _, rfl⟩ (fun i σ H7 hi hp => ?_) (fun σ H7 hp => ?_)
      · obtain ⟨std7, hT7, hR7, hF7, z4, z5, z6, z7, z8, z9, rfl⟩ := hp
        have B7 := std7.b b bm
        refine ⟨.ref b, rfl, .ref p, rfl, b, p, r, rfl, B7, hR7, ok, by omega, fun H8 p' r' k8 B8 hR' ok' hl' => ?_⟩
        have std8 := std7.kb bm k8 B8
        have hT8 := tabs_kb hT7 B7 k8
        have hR8 := hR7.keep (k8.tup B7)
        have hF8 := keepL hF7 B7 k8 os0
        refine ⟨.ref p', rfl, p', r', 600, rfl, hR', ok', by omega, by decide, by decide, fun H9 q9 F' C' s9 nF' nC' hq9 hF' hC' => ?_⟩
        refine ⟨q9, _, 0, .ref F', rfl, rfl, st_of hq9, rfl, ?_⟩
        have hF' : H9 F' = some (.lst ((seenF r' 600).map ofO)) := hF'
        have std9 := std8.same s9
        have hT9 := hT8.ext s9
        have hR9 := hR8.keep (tupS_of s9)
        have hR9' := hR'.keep (tupS_of s9)
        have hF9 := s9 _ _ hF8
        -- unlike
        refine ⟨600, rfl, by decide, by decide, fun U nU => ?_⟩
        refine lc_range (lo := 0) (n := 600) (fun i H' => Same H9 H' ∧ H' U = some (.lst ((unlF r r' i).map V.int))) ⟨same_new nU, upd_same⟩ (fun j H10 hj hp => ?_) (fun H10 hp => ?_)
        · obtain ⟨s10, hU⟩ := hp
          have w1 : ((seenF r 600).map ofO)[j]? = some (ofO (whoF r ((j : Int) + 1))) := by
            unfold seenF
            rw [List.getElem?_map, List.getElem?_map, List.getElem?_range hj]
            rfl
          have w2 : ((seenF r' 600).map ofO)[j]? = some (ofO (whoF r' ((j : Int) + 1))) := by
            unfold seenF
            rw [List.getElem?_map, List.getElem?_map, List.getElem?_range hj]
            rfl
          have ul := unl_len r r' j
          refine ⟨rfl, .ref F, rfl, .int (0 + (j : Int)), rfl, F, _, 0 + (j : Int), _, rfl, rfl, sq_of (s10 _ _ hF9), at_of (j := j) (by omega) w1, ?_⟩
          refine ⟨.ref F', rfl, .int (0 + (j : Int)), rfl, F', _, 0 + (j : Int), _, rfl, rfl, sq_of (s10 _ _ hF'), at_of (j := j) (by omega) w2, scal_ofO _ _, _, rfl, ?_⟩
          rw [ofO_dec]
          refine ite2 (fun z => ⟨.int (0 + (j : Int)), rfl, _, 1, rfl, rfl, _, hU, ?_, same_upd_new nU s10, ?_⟩) (fun z => ⟨s10, ?_⟩)
          · rw [List.length_map]
            exact small1000 (by omega)
          · have hn : ¬ whoF r ((j : Int) + 1) = whoF r' ((j : Int) + 1) := by simpa using z
            rw [upd_same, unl_succ, if_neg hn, List.map_append, Int.zero_add]
            rfl
          · have hn : whoF r ((j : Int) + 1) = whoF r' ((j : Int) + 1) := by simpa using z
            rw [unl_succ, if_pos hn, List.append_nil]
            exact hU
        · obtain ⟨s10, hU⟩ := hp
          have hR10 := hR9.keep (tupS_of s10)
          have hR10' := hR9'.keep (tupS_of s10)
          have std10 := std9.same s10
          have hT10 := hT9.ext s10
          have hF10 := s10 _ _ hF9
          refine ⟨.ref p, rfl, .ref p', rfl, p, p', r, r', rfl, hR10, hR10', ok, ok', by omega, hl'.symm, fun H11 s11 => ?_⟩
          refine ⟨.ref p', rfl, .ref p, rfl, p', p, r', r, rfl, hR10'.keep (tupS_of s11), hR10.keep (tupS_of s11), ok', ok, by omega, hl', fun H12 s12 => ?_⟩
          have s1112 := s11.trans s12
          refine ⟨_, rfl, scal_ofI _ _, false, ?_, iteF ?_⟩
          · rw [part_comm hl' ok' ok, decide_eq_true rfl]
            rfl
          refine ⟨_, rfl, rfl, .ref p, rfl, .ref p', rfl, eq_rows (hR10.keep (tupS_of s1112)) (hR10'.keep (tupS_of s1112)) ⟨rfl, false, ?_, iteF ?_⟩⟩
          · rw [ofI_non, show decide (partF r r' = none) = decide (r = r') from decide_eq_decide.mpr (part_none hl'.symm ok ok'), decide_eq_true rfl]
            rfl
          have hU12 := s1112 _ _ hU
          have fin : ∀ {H'}, Same H12 H' → Std H' L bs ∧ LamX.Tabs (TLs T) H' ∧ RowAt H' p r ∧ H' F = some (.lst ((seenF r 600).map ofO)) := fun s' =>
            ⟨std10.same (s1112.trans s'), hT10.ext (s1112.trans s'), hR10.keep (tupS_of (s1112.trans s')), (s1112.trans s') _ _ hF10⟩
          refine ⟨.ref U, rfl, Nat.zero_le _, fun B1 nB1 => ?_⟩
          have e1 := same_new (o := .lst []) nB1
          refine ne_intsD (ms := []) (sq_of (e1 _ _ hU12)) (sq_of upd_same) ⟨_, rfl, ?_⟩
          cases hp : partF r r' with
          | none =>
            have er := (part_none hl'.symm ok ok').mp hp
            have eu : unlF r r' 600 = [] := unl_nil fun n _ _ => by rw [er]
            rw [eu] at hU12 ⊢
            refine iteF (iteF ?_)
            refine ⟨.ref U, rfl, Nat.zero_le _, fun B2 nB2 => ?_⟩
            have e2 := e1.trans (same_new (o := .lst []) nB2)
            refine eq_intsD (ns := []) (ms := []) (sq_of (e2 _ _ hU12)) (sq_of upd_same) ⟨true, rfl, iteT ⟨.non, rfl, rfl, false, rfl, iteF (iteF ?_)⟩⟩
            obtain ⟨f1, f2, f3, f4⟩ := fin e2
            exact ⟨f1, f2, f3, f4, _, _, _, _, _, _, rfl⟩
          | some n =>
            have hP := part_some hl'.symm ok ok' hp
            by_cases hn : n ≤ 600
            · obtain ⟨rest, eu⟩ := unl_first hP (m := 600) hn
              rw [eu] at hU12 ⊢
              refine iteT ⟨.int n, rfl, .ref U, rfl, U, _, 0, .int n, rfl, rfl, sq_of (e1 _ _ hU12), at_of (j := 0) rfl rfl, rfl, false, ?_, iteF ?_⟩
              · rw [decide_eq_true rfl]
                rfl
              refine ⟨.ref U, rfl, Nat.zero_le _, fun B2 nB2 => ?_⟩
              have e2 := e1.trans (same_new (o := .lst []) nB2)
              refine eq_intsD (ms := []) (sq_of (e2 _ _ hU12)) (sq_of upd_same) ⟨false, rfl, iteF (iteF ?_)⟩
              obtain ⟨f1, f2, f3, f4⟩ := fin e2
              exact ⟨f1, f2, f3, f4, _, _, _, _, _, _, rfl⟩
            · have eu : unlF r r' 600 = [] := unl_nil fun k h1 h2 => hP.low k h1 (by omega)
              rw [eu] at hU12 ⊢
              refine iteF (iteF ?_)
              refine ⟨.ref U, rfl, Nat.zero_le _, fun B2 nB2 => ?_⟩
              have e2 := e1.trans (same_new (o := .lst []) nB2)
              refine eq_intsD (ns := []) (ms := []) (sq_of (e2 _ _ hU12)) (sq_of upd_same) ⟨true, rfl, iteT ⟨.int n, rfl, rfl, true, rfl, iteT ⟨.int n, rfl, n, 600, rfl, rfl, false, ?_, ?_⟩⟩⟩
              · show V.bl (decide (n ≤ 600)) = V.bl false
                rw [decide_eq_false hn]
              · refine iteF ?_
                obtain ⟨f1, f2, f3, f4⟩ := fin e2
                exact ⟨f1, f2, f3, f4, _, _, _, _, _, _, rfl⟩
      · obtain ⟨std7, hT7, hR7, hF7, z4, z5, z6, z7, z8, z9, rfl⟩ := hp
        refine ⟨.ref p, rfl, .ref p, rfl, p, p, r, r, rfl, hR7, hR7, ok, ok, by omega, rfl, fun H8 s8 => ?_⟩
        have hpn : partF r r = none := (part_none rfl ok ok).mpr rfl
        rw [hpn]
        refine ⟨rfl, false, rfl, iteF ?_⟩
        have std8 := std7.same s8
        have hT8 := hT7.ext s8
        have hR8 := hR7.keep (tupS_of s8)
        -- the lambda
        refine ⟨hT8, fun f c' pm ctv H9 eN hT9 nf hf hc => ?_⟩
        have hR9 := hR8.keep (tupS_ext eN)
        have std9 : Std H9 L bs := ⟨lst_ext eN std8.l, fun b' hb' => bag_ext eN (std8.b b' hb')⟩
        refine ⟨.ref p, rfl, .ref p, rfl, by show 2 ≤ sizeLine; decide, fun u1 nu1 => ⟨by show 1 ≤ sizeLine; decide, fun u2 nu2 => ?_⟩⟩
        have su := (same_new (o := .tup [.int 2, .int 0]) nu1).trans (same_new (o := .tup [.ref u1]) nu2)
        have hu1 : (upd (upd H9 u1 (.tup [.int 2, .int 0])) u2 (.tup [.ref u1])) u1 = some (.tup [.int 2, .int 0]) := same_new nu2 _ _ upd_same
        have hu2 : (upd (upd H9 u1 (.tup [.int 2, .int 0])) u2 (.tup [.ref u1])) u2 = some (.tup [.ref u1]) := upd_same
        generalize upd (upd H9 u1 (.tup [.int 2, .int 0])) u2 (.tup [.ref u1]) = H10 at su hu1 hu2 ⊢
        obtain ⟨ts, t1, t2⟩ := (hR9.keep (tupS_of su)).pairs
        refine cat_use t1 hu2 (by rw [List.length_map, t2.1]; exact Nat.le_of_lt (small1000 (by simp; omega))) fun p2 H11 s11 hp2 => ?_
        have s911 := su.trans s11
        have hR2 : RowAt H11 p2 (r ++ [(2, 0)]) := by
          refine ((t2.keep (tupS_of s11)).app (us := [u1]) (q := [(2, 0)]) ⟨rfl, fun i u g a1 a2 => ?_⟩).row (by rw [hp2, List.map_append]; rfl)
          cases i with
          | zero => cases a1; cases a2; exact s11 _ _ hu1
          | succ i => simp at a1
        have ok2 : ∀ ec ∈ r ++ [(2, 0)], okT ec := fun ec hm => by
          rcases List.mem_append.mp hm with z | z
          · exact ok _ z
          · rw [List.mem_singleton.mp z]; exact ⟨by decide, by decide, by decide, by decide⟩
        have hR11 := hR9.keep (tupS_of s911)
        refine ⟨f, .ref p, .ref p2, .int 0, fun vs H _ E => ∃ v3, vs = [.ref p, .ref p2, v3] ∧ RowAt H p r ∧ RowAt H p2 (r ++ [(2, 0)]) ∧ ∀ H', Same H H' → E (.ref T.C_Unlike) none H', rfl, ?_, fun D nD Q' E' hQ' hE' => ?_⟩
        · refine Acts.lam (N := ["a", "b", "c"]) (ps := ["a", "b", "c"]) (s911 _ _ hf) (s911 _ _ hc) ⟨rfl, rfl, rfl, by decide +kernel, rfl, by decide +kernel, by decide +kernel⟩ (fun vs H Q E h => ?_) (fun us hl => match us, hl with | [_, _, _], _ => rfl) (fun A outer s H' vs Q E hr _ h => ?_)
          · obtain ⟨v3, rfl, _⟩ := h
            rfl
          · obtain ⟨v3, rfl, g1, g2, g3⟩ := h
            refine ⟨_, (pe_call (okU_parted T) (hr.mono (by decide)) (by rfl) T.g_parted T.F_parted.kp T.b_parted .nil (L2N.passes_call (L2N.takes_of rfl rfl rfl rfl) (fun _ _ _ _ h => h)) (pa_cons (pv 0) (pa_cons (pv 1) pa_nil))), ?_⟩
            exact ⟨.ref p, rfl, .ref p2, rfl, p, p2, r, r ++ [(2, 0)], rfl, g1, g2, ok, ok2, by omega, by simp; omega, by simp, g3⟩
        · refine ⟨_, rfl, hR11.keep (tupS_of (same_new nD)), hR2.keep (tupS_of (same_new nD)), fun H' sH => ?_⟩
          refine hE' _ _ _ _ _ _ _ _ _ H' (kinU T) fun H12 g s12 ng hg => ?_
          have sall := ((s911.trans (same_new (o := .lst []) nD)).trans sH).trans s12
          refine ⟨by show 2 ≤ sizeLine; decide, fun B nB => ?_⟩
          have sB := same_new (o := .lst [.str "Unlike", .bl true]) nB
          refine ne_kin (nm := "Unlike") (sB _ _ hg) upd_same ⟨false, rfl, iteF ?_⟩
          exact ⟨std9.same (sall.trans sB), hT9.ext (sall.trans sB), _, _, _, _, _, _, _, _, _, rfl⟩
    · obtain ⟨std, hT2, y1, y2, y3, y4, y5, y6, y7, y8, y9, rfl⟩ := hp
      refine ⟨by show 2 ≤ sizeLine; decide, fun a1 n1 => ⟨by show 2 ≤ sizeLine; decide, fun a2 n2 => ⟨by show 2 ≤ sizeLine; decide, fun a3 n3 => ?_⟩⟩⟩
      have v1 := same_new (o := .tup [.int 2, .int 0]) n1
      have v2 := same_new (o := .tup [.int 3, .int 0]) n2
      have v3 := same_new (o := .tup [.ref a1, .ref a2]) n3
      have g1 := v3 _ _ (v2 _ _ (upd_same (H := H2) (a := a1) (o := .tup [.int 2, .int 0])))
      have g2 := v3 _ _ (upd_same (a := a2) (o := .tup [.int 3, .int 0]))
      have g3 : (upd (upd (upd H2 a1 (.tup [.int 2, .int 0])) a2 (.tup [.int 3, .int 0])) a3 (.tup [.ref a1, .ref a2])) a3 = some (.tup [.ref a1, .ref a2]) := upd_same
      generalize upd (upd (upd H2 a1 (.tup [.int 2, .int 0])) a2 (.tup [.int 3, .int 0])) a3 (.tup [.ref a1, .ref a2]) = G at g1 g2 g3 ⊢
      refine ⟨by show 2 ≤ sizeLine; decide, fun b1 m1 => ⟨by show 2 ≤ sizeLine; decide, fun b2 m2 => ⟨by show 2 ≤ sizeLine; decide, fun b3 m3 => ?_⟩⟩⟩
      have w1 := same_new (o := .tup [.int 2, .int 0]) m1
      have w2 := same_new (o := .tup [.int 3, .int 1]) m2
      have w3 := same_new (o := .tup [.ref b1, .ref b2]) m3
      have ww := (w1.trans w2).trans w3
      refine ⟨a3, b3, [(2, 0), (3, 0)], [(2, 0), (3, 1)], rfl, row2 (ww _ _ g3) (ww _ _ g1) (ww _ _ g2), row2 upd_same (w3 _ _ (w2 _ _ upd_same)) (w3 _ _ upd_same), ok_pair rfl, ok_pair rfl, by decide, rfl, fun G2 s2 => ?_⟩
      have e3 : partF [(2, 0), (3, 0)] [(2, 0), (3, 1)] = some 3 := by decide +kernel
      rw [e3]
      refine ⟨rfl, true, rfl, iteT ?_⟩
      refine ⟨Nat.zero_le _, fun c1 o1 => ⟨Nat.zero_le _, fun c2 o2 => ?_⟩⟩
      refine ⟨c1, c2, [], [], rfl, row0 (same_new o2 _ _ upd_same), row0 upd_same, (fun _ h => nomatch h), (fun _ h => nomatch h), by decide, rfl, fun G3 s3 => ?_⟩
      exact ⟨rfl, q _⟩

end
theorem all_mk {l : PySem.W.OpenLaw} {w : World} {K : PySem.W.Frag} {h : Heap} {mg : Str → Option Value} {fa : Addr} (X : K.In h) (G : h.Ns mainGlobals mg) (hfa : mg "law" = some (.ref fa))
    {f1 f2 f3 f4 f5 f6 f7 f8 f9 f10 f11 f12 f13 f14 f15 f16 f17 f18 : Addr} {od1 an1 od2 an2 od3 an3 od4 an4 od5 an5 od6 an6 od7 an7 od8 an8 od9 an9 od10 an10 od11 an11 od12 an12 od13 an13 od14 an14 od15 an15 od16 an16 od17 an17 od18 an18 : Option Addr} {sl1 sl2 sl3 sl4 sl5 sl6 sl7 sl8 sl9 sl10 sl11 sl12 sl13 sl14 sl15 sl16 sl17 sl18 : Array (Option Value)} {oc1 kV1 dc1 pm1 cd1 ct1 oc2 kV2 dc2 pm2 cd2 ct2 oc3 kV3 dc3 pm3 cd3 ct3 oc4 kV4 dc4 pm4 cd4 ct4 oc5 kV5 dc5 pm5 cd5 ct5 oc6 kV6 dc6 pm6 cd6 ct6 oc7 kV7 dc7 pm7 cd7 ct7 oc8 kV8 dc8 pm8 cd8 ct8 oc9 kV9 dc9 pm9 cd9 ct9 oc10 kV10 dc10 pm10 cd10 ct10 oc11 kV11 dc11 pm11 cd11 ct11 oc12 kV12 dc12 pm12 cd12 ct12 oc13 kV13 dc13 pm13 cd13 ct13 oc14 kV14 dc14 pm14 cd14 ct14 oc15 kV15 dc15 pm15 cd15 ct15 oc16 kV16 dc16 pm16 cd16 ct16 oc17 kV17 dc17 pm17 cd17 ct17 oc18 kV18 dc18 pm18 cd18 ct18 : Value}
    (a1 : PySem.W.nsIn K mainGlobals "is_whole" = some (some (.ref f1)))
    (l1 : K.lookup f1 = some ⟨oc1, od1, .func (PySem.W.fnOf "is_whole" "is_whole" (defArgs s_is_whole) (defBody s_is_whole) (defScope s_is_whole) .none kV1 dc1 pm1 an1 cd1 ct1), sl1⟩)
    (c1 : PySem.W.codeIn K cd1 "is_whole" = true) (k1 : PySem.W.keepIn K (.ref f1) = true)
    (a2 : PySem.W.nsIn K mainGlobals "is_taker" = some (some (.ref f2)))
    (l2 : K.lookup f2 = some ⟨oc2, od2, .func (PySem.W.fnOf "is_taker" "is_taker" (defArgs s_is_taker) (defBody s_is_taker) (defScope s_is_taker) .none kV2 dc2 pm2 an2 cd2 ct2), sl2⟩)
    (c2 : PySem.W.codeIn K cd2 "is_taker" = true) (k2 : PySem.W.keepIn K (.ref f2) = true)
    (a3 : PySem.W.nsIn K mainGlobals "is_row" = some (some (.ref f3)))
    (l3 : K.lookup f3 = some ⟨oc3, od3, .func (PySem.W.fnOf "is_row" "is_row" (defArgs s_is_row) (defBody s_is_row) (defScope s_is_row) .none kV3 dc3 pm3 an3 cd3 ct3), sl3⟩)
    (c3 : PySem.W.codeIn K cd3 "is_row" = true) (k3 : PySem.W.keepIn K (.ref f3) = true)
    (a4 : PySem.W.nsIn K mainGlobals "check_row" = some (some (.ref f4)))
    (l4 : K.lookup f4 = some ⟨oc4, od4, .func (PySem.W.fnOf "check_row" "check_row" (defArgs s_check_row) (defBody s_check_row) (defScope s_check_row) .none kV4 dc4 pm4 an4 cd4 ct4), sl4⟩)
    (c4 : PySem.W.codeIn K cd4 "check_row" = true) (k4 : PySem.W.keepIn K (.ref f4) = true)
    (a5 : PySem.W.nsIn K mainGlobals "piece_behind" = some (some (.ref f5)))
    (l5 : K.lookup f5 = some ⟨oc5, od5, .func (PySem.W.fnOf "piece_behind" "piece_behind" (defArgs s_piece_behind) (defBody s_piece_behind) (defScope s_piece_behind) .none kV5 dc5 pm5 an5 cd5 ct5), sl5⟩)
    (c5 : PySem.W.codeIn K cd5 "piece_behind" = true) (k5 : PySem.W.keepIn K (.ref f5) = true)
    (a6 : PySem.W.nsIn K mainGlobals "parted" = some (some (.ref f6)))
    (l6 : K.lookup f6 = some ⟨oc6, od6, .func (PySem.W.fnOf "parted" "parted" (defArgs s_parted) (defBody s_parted) (defScope s_parted) .none kV6 dc6 pm6 an6 cd6 ct6), sl6⟩)
    (c6 : PySem.W.codeIn K cd6 "parted" = true) (k6 : PySem.W.keepIn K (.ref f6) = true)
    (a7 : PySem.W.nsIn K mainGlobals "taken_unlike" = some (some (.ref f7)))
    (l7 : K.lookup f7 = some ⟨oc7, od7, .func (PySem.W.fnOf "taken_unlike" "taken_unlike" (defArgs s_taken_unlike) (defBody s_taken_unlike) (defScope s_taken_unlike) .none kV7 dc7 pm7 an7 cd7 ct7), sl7⟩)
    (c7 : PySem.W.codeIn K cd7 "taken_unlike" = true) (k7 : PySem.W.keepIn K (.ref f7) = true)
    (a8 : PySem.W.nsIn K mainGlobals "_law_cell_at" = some (some (.ref f8)))
    (l8 : K.lookup f8 = some ⟨oc8, od8, .func (PySem.W.fnOf "_law_cell_at" "_law_cell_at" (defArgs s__law_cell_at) (defBody s__law_cell_at) (defScope s__law_cell_at) .none kV8 dc8 pm8 an8 cd8 ct8), sl8⟩)
    (c8 : PySem.W.codeIn K cd8 "_law_cell_at" = true) (k8 : PySem.W.keepIn K (.ref f8) = true)
    (a9 : PySem.W.nsIn K mainGlobals "_law_draws" = some (some (.ref f9)))
    (l9 : K.lookup f9 = some ⟨oc9, od9, .func (PySem.W.fnOf "_law_draws" "_law_draws" (defArgs s__law_draws) (defBody s__law_draws) (defScope s__law_draws) .none kV9 dc9 pm9 an9 cd9 ct9), sl9⟩)
    (c9 : PySem.W.codeIn K cd9 "_law_draws" = true) (k9 : PySem.W.keepIn K (.ref f9) = true)
    (a10 : PySem.W.nsIn K mainGlobals "_law_bag" = some (some (.ref f10)))
    (l10 : K.lookup f10 = some ⟨oc10, od10, .func (PySem.W.fnOf "_law_bag" "_law_bag" (defArgs s__law_bag) (defBody s__law_bag) (defScope s__law_bag) .none kV10 dc10 pm10 an10 cd10 ct10), sl10⟩)
    (c10 : PySem.W.codeIn K cd10 "_law_bag" = true) (k10 : PySem.W.keepIn K (.ref f10) = true)
    (a11 : PySem.W.nsIn K mainGlobals "_law_bags" = some (some (.ref f11)))
    (l11 : K.lookup f11 = some ⟨oc11, od11, .func (PySem.W.fnOf "_law_bags" "_law_bags" (defArgs s__law_bags) (defBody s__law_bags) (defScope s__law_bags) .none kV11 dc11 pm11 an11 cd11 ct11), sl11⟩)
    (c11 : PySem.W.codeIn K cd11 "_law_bags" = true) (k11 : PySem.W.keepIn K (.ref f11) = true)
    (a12 : PySem.W.nsIn K mainGlobals "_law_take" = some (some (.ref f12)))
    (l12 : K.lookup f12 = some ⟨oc12, od12, .func (PySem.W.fnOf "_law_take" "_law_take" (defArgs s__law_take) (defBody s__law_take) (defScope s__law_take) .none kV12 dc12 pm12 an12 cd12 ct12), sl12⟩)
    (c12 : PySem.W.codeIn K cd12 "_law_take" = true) (k12 : PySem.W.keepIn K (.ref f12) = true)
    (a13 : PySem.W.nsIn K mainGlobals "_law_taker" = some (some (.ref f13)))
    (l13 : K.lookup f13 = some ⟨oc13, od13, .func (PySem.W.fnOf "_law_taker" "_law_taker" (defArgs s__law_taker) (defBody s__law_taker) (defScope s__law_taker) .none kV13 dc13 pm13 an13 cd13 ct13), sl13⟩)
    (c13 : PySem.W.codeIn K cd13 "_law_taker" = true) (k13 : PySem.W.keepIn K (.ref f13) = true)
    (a14 : PySem.W.nsIn K mainGlobals "_law_drawn_row" = some (some (.ref f14)))
    (l14 : K.lookup f14 = some ⟨oc14, od14, .func (PySem.W.fnOf "_law_drawn_row" "_law_drawn_row" (defArgs s__law_drawn_row) (defBody s__law_drawn_row) (defScope s__law_drawn_row) .none kV14 dc14 pm14 an14 cd14 ct14), sl14⟩)
    (c14 : PySem.W.codeIn K cd14 "_law_drawn_row" = true) (k14 : PySem.W.keepIn K (.ref f14) = true)
    (a15 : PySem.W.nsIn K mainGlobals "_law_gone" = some (some (.ref f15)))
    (l15 : K.lookup f15 = some ⟨oc15, od15, .func (PySem.W.fnOf "_law_gone" "_law_gone" (defArgs s__law_gone) (defBody s__law_gone) (defScope s__law_gone) .none kV15 dc15 pm15 an15 cd15 ct15), sl15⟩)
    (c15 : PySem.W.codeIn K cd15 "_law_gone" = true) (k15 : PySem.W.keepIn K (.ref f15) = true)
    (a16 : PySem.W.nsIn K mainGlobals "_law_refused" = some (some (.ref f16)))
    (l16 : K.lookup f16 = some ⟨oc16, od16, .func (PySem.W.fnOf "_law_refused" "_law_refused" (defArgs s__law_refused) (defBody s__law_refused) (defScope s__law_refused) .none kV16 dc16 pm16 an16 cd16 ct16), sl16⟩)
    (c16 : PySem.W.codeIn K cd16 "_law_refused" = true) (k16 : PySem.W.keepIn K (.ref f16) = true)
    (a17 : PySem.W.nsIn K mainGlobals "_law_near" = some (some (.ref f17)))
    (l17 : K.lookup f17 = some ⟨oc17, od17, .func (PySem.W.fnOf "_law_near" "_law_near" (defArgs s__law_near) (defBody s__law_near) (defScope s__law_near) .none kV17 dc17 pm17 an17 cd17 ct17), sl17⟩)
    (c17 : PySem.W.codeIn K cd17 "_law_near" = true) (k17 : PySem.W.keepIn K (.ref f17) = true)
    (a18 : PySem.W.nsIn K mainGlobals "law" = some (some (.ref f18)))
    (l18 : K.lookup f18 = some ⟨oc18, od18, .func (PySem.W.fnOf "law" "law" (defArgs s_law) (defBody s_law) (defScope s_law) .none kV18 dc18 pm18 an18 cd18 ct18), sl18⟩)
    (c18 : PySem.W.codeIn K cd18 "law" = true) (k18 : PySem.W.keepIn K (.ref f18) = true)
    {C_TakeError C_NoRow C_NoNumber C_NoTaker C_NoSeen C_NoCounts C_NoPlace C_Unlike C_Full C_TooMany : Addr}
    (aGg_TakeError : PySem.W.nsIn K mainGlobals "TakeError" = some (some (.ref C_TakeError)))
    (b_TakeError : PySem.W.subIn K (.ref C_TakeError) (.type "BaseException") = some true)
    (t_TakeError : PySem.W.typeIn K (.ref C_TakeError) = some (.type "type"))
    (d_TakeError : PySem.W.hasDictIn K C_TakeError = true)
    (r_TakeError : PySem.W.subIn K (.ref C_TakeError) (.ref C_TakeError) = some true)
    (aGg_NoRow : PySem.W.nsIn K mainGlobals "NoRow" = some (some (.ref C_NoRow)))
    (b_NoRow : PySem.W.subIn K (.ref C_NoRow) (.type "BaseException") = some true)
    (t_NoRow : PySem.W.typeIn K (.ref C_NoRow) = some (.type "type"))
    (d_NoRow : PySem.W.hasDictIn K C_NoRow = true)
    (r_NoRow : PySem.W.subIn K (.ref C_NoRow) (.ref C_NoRow) = some true)
    (aGg_NoNumber : PySem.W.nsIn K mainGlobals "NoNumber" = some (some (.ref C_NoNumber)))
    (b_NoNumber : PySem.W.subIn K (.ref C_NoNumber) (.type "BaseException") = some true)
    (t_NoNumber : PySem.W.typeIn K (.ref C_NoNumber) = some (.type "type"))
    (d_NoNumber : PySem.W.hasDictIn K C_NoNumber = true)
    (r_NoNumber : PySem.W.subIn K (.ref C_NoNumber) (.ref C_NoNumber) = some true)
    (aGg_NoTaker : PySem.W.nsIn K mainGlobals "NoTaker" = some (some (.ref C_NoTaker)))
    (b_NoTaker : PySem.W.subIn K (.ref C_NoTaker) (.type "BaseException") = some true)
    (t_NoTaker : PySem.W.typeIn K (.ref C_NoTaker) = some (.type "type"))
    (d_NoTaker : PySem.W.hasDictIn K C_NoTaker = true)
    (r_NoTaker : PySem.W.subIn K (.ref C_NoTaker) (.ref C_NoTaker) = some true)
    (aGg_NoSeen : PySem.W.nsIn K mainGlobals "NoSeen" = some (some (.ref C_NoSeen)))
    (b_NoSeen : PySem.W.subIn K (.ref C_NoSeen) (.type "BaseException") = some true)
    (t_NoSeen : PySem.W.typeIn K (.ref C_NoSeen) = some (.type "type"))
    (d_NoSeen : PySem.W.hasDictIn K C_NoSeen = true)
    (r_NoSeen : PySem.W.subIn K (.ref C_NoSeen) (.ref C_NoSeen) = some true)
    (aGg_NoCounts : PySem.W.nsIn K mainGlobals "NoCounts" = some (some (.ref C_NoCounts)))
    (b_NoCounts : PySem.W.subIn K (.ref C_NoCounts) (.type "BaseException") = some true)
    (t_NoCounts : PySem.W.typeIn K (.ref C_NoCounts) = some (.type "type"))
    (d_NoCounts : PySem.W.hasDictIn K C_NoCounts = true)
    (r_NoCounts : PySem.W.subIn K (.ref C_NoCounts) (.ref C_NoCounts) = some true)
    (aGg_NoPlace : PySem.W.nsIn K mainGlobals "NoPlace" = some (some (.ref C_NoPlace)))
    (b_NoPlace : PySem.W.subIn K (.ref C_NoPlace) (.type "BaseException") = some true)
    (t_NoPlace : PySem.W.typeIn K (.ref C_NoPlace) = some (.type "type"))
    (d_NoPlace : PySem.W.hasDictIn K C_NoPlace = true)
    (r_NoPlace : PySem.W.subIn K (.ref C_NoPlace) (.ref C_NoPlace) = some true)
    (aGg_Unlike : PySem.W.nsIn K mainGlobals "Unlike" = some (some (.ref C_Unlike)))
    (b_Unlike : PySem.W.subIn K (.ref C_Unlike) (.type "BaseException") = some true)
    (t_Unlike : PySem.W.typeIn K (.ref C_Unlike) = some (.type "type"))
    (d_Unlike : PySem.W.hasDictIn K C_Unlike = true)
    (r_Unlike : PySem.W.subIn K (.ref C_Unlike) (.ref C_Unlike) = some true)
    (aGg_Full : PySem.W.nsIn K mainGlobals "Full" = some (some (.ref C_Full)))
    (b_Full : PySem.W.subIn K (.ref C_Full) (.type "BaseException") = some true)
    (t_Full : PySem.W.typeIn K (.ref C_Full) = some (.type "type"))
    (d_Full : PySem.W.hasDictIn K C_Full = true)
    (r_Full : PySem.W.subIn K (.ref C_Full) (.ref C_Full) = some true)
    (aGg_TooMany : PySem.W.nsIn K mainGlobals "TooMany" = some (some (.ref C_TooMany)))
    (b_TooMany : PySem.W.subIn K (.ref C_TooMany) (.type "BaseException") = some true)
    (t_TooMany : PySem.W.typeIn K (.ref C_TooMany) = some (.type "type"))
    (d_TooMany : PySem.W.hasDictIn K C_TooMany = true)
    (r_TooMany : PySem.W.subIn K (.ref C_TooMany) (.ref C_TooMany) = some true)
    (q_n : PySem.W.specialIn K (.builtin "object.__class__") "__get__" = some (some (.builtin "getset_descriptor.__get__")))
    (q_t : PySem.W.takesIn K (.builtin "object.__class__") = some true)
    (x_Unlike : PySem.W.excIn K C_Unlike [.type "ValueError", .type "Exception", .type "BaseException", .type "object"] "ValueError.__new__" = true)
    (k_Unlike : PySem.W.keepIn K (.ref C_Unlike) = true)
    (y_Unlike : PySem.W.findIn K (.ref C_Unlike) "__getattribute__" = some (some (.builtin "BaseException.__getattribute__")))
    (w_Unlike : PySem.W.findIn K (.ref C_Unlike) "__getattr__" = some none)
    (u_Unlike : PySem.W.findIn K (.ref C_Unlike) "__class__" = some (some (.builtin "object.__class__")))
    (m_Unlike : PySem.W.mroIn K C_Unlike (.type "object") = some true)
    (v_Unlike : PySem.W.subIn K (.ref C_Unlike) (.type "ValueError") = some true)
    (s_Unlike_NoRow : PySem.W.subIn K (.ref C_Unlike) (.ref C_NoRow) = some false)
    (s_Unlike_NoNumber : PySem.W.subIn K (.ref C_Unlike) (.ref C_NoNumber) = some false)
    (s_Unlike_NoTaker : PySem.W.subIn K (.ref C_Unlike) (.ref C_NoTaker) = some false)
    (s_Unlike_NoSeen : PySem.W.subIn K (.ref C_Unlike) (.ref C_NoSeen) = some false)
    (s_Unlike_NoCounts : PySem.W.subIn K (.ref C_Unlike) (.ref C_NoCounts) = some false)
    (s_Unlike_NoPlace : PySem.W.subIn K (.ref C_Unlike) (.ref C_NoPlace) = some false)
    (s_Unlike_Full : PySem.W.subIn K (.ref C_Unlike) (.ref C_Full) = some false)
    (s_Unlike_TooMany : PySem.W.subIn K (.ref C_Unlike) (.ref C_TooMany) = some false)
    (s_Unlike_TakeError : PySem.W.subIn K (.ref C_Unlike) (.ref C_TakeError) = some true)
    {ts : List Addr} (tabs : ∀ P ∈ ts, h.get? P = some (PySem.W.tabObj #[])) (nt : PySem.W.noTabs K = true)
    {cc_law pt_law : Addr} {ec_law : Value} {dc_law : Option Addr} {vc_law : Array Value} {sl_law : Array (Option Value)} (hc_law : cd18 = .ref cc_law) (lc_law : K.lookup cc_law = some ⟨ec_law, dc_law, .fields vc_law, sl_law⟩) (tc_law : vc_law[11]? = some (.ref pt_law)) (ch_law : PySem.W.codeHdIn K cc_law pt_law = true) (mt_law : pt_law ∈ ts)
    {t0 : Tok} (v0 : PySem.W.nsIn K mainGlobals "MOST_TAKERS" = some (some (.int 8 t0)))
    {t1 : Tok} (v1 : PySem.W.nsIn K mainGlobals "LEAST_EVERY" = some (some (.int 2 t1)))
    {t2 : Tok} (v2 : PySem.W.nsIn K mainGlobals "MOST_EVERY" = some (some (.int 1000 t2)))
    (z0 : PySem.W.nsIn K mainGlobals "ValueError" = some none)
    (z1 : PySem.W.nsIn K mainGlobals "all" = some none)
    (z2 : PySem.W.nsIn K mainGlobals "bool" = some none)
    (z3 : PySem.W.nsIn K mainGlobals "enumerate" = some none)
    (z4 : PySem.W.nsIn K mainGlobals "int" = some none)
    (z5 : PySem.W.nsIn K mainGlobals "isinstance" = some none)
    (z6 : PySem.W.nsIn K mainGlobals "len" = some none)
    (z7 : PySem.W.nsIn K mainGlobals "max" = some none)
    (z8 : PySem.W.nsIn K mainGlobals "min" = some none)
    (z9 : PySem.W.nsIn K mainGlobals "range" = some none)
    (z10 : PySem.W.nsIn K mainGlobals "reversed" = some none)
    (z11 : PySem.W.nsIn K mainGlobals "tuple" = some none)
    : LamX.LawAtS l w K CX0 8 63 "script" mg fa h := by
  have e := hfa.symm.trans (PySem.W.mg_of X G a18)
  cases e
  let T : Top K mg := {
    a_is_whole := f1, fd_is_whole := _, F_is_whole := fun_mk (st := s_is_whole) l1 c1 k1,
    b_is_whole := (fun_mk (st := s_is_whole) l1 c1 k1).binds (ps := ["thing", "least", "most"]) fun _ _ _ _ _ _ us hl => match us, hl with | [_, _, _], _ => rfl,
    g_is_whole := PySem.W.mg_of X G a1,
    a_is_taker := f2, fd_is_taker := _, F_is_taker := fun_mk (st := s_is_taker) l2 c2 k2,
    b_is_taker := (fun_mk (st := s_is_taker) l2 c2 k2).binds (ps := ["thing"]) fun _ _ _ _ _ _ us hl => match us, hl with | [_], _ => rfl,
    g_is_taker := PySem.W.mg_of X G a2,
    a_is_row := f3, fd_is_row := _, F_is_row := fun_mk (st := s_is_row) l3 c3 k3,
    b_is_row := (fun_mk (st := s_is_row) l3 c3 k3).binds (ps := ["thing"]) fun _ _ _ _ _ _ us hl => match us, hl with | [_], _ => rfl,
    g_is_row := PySem.W.mg_of X G a3,
    a_check_row := f4, fd_check_row := _, F_check_row := fun_mk (st := s_check_row) l4 c4 k4,
    b_check_row := (fun_mk (st := s_check_row) l4 c4 k4).binds (ps := ["thing"]) fun _ _ _ _ _ _ us hl => match us, hl with | [_], _ => rfl,
    g_check_row := PySem.W.mg_of X G a4,
    a_piece_behind := f5, fd_piece_behind := _, F_piece_behind := fun_mk (st := s_piece_behind) l5 c5 k5,
    b_piece_behind := (fun_mk (st := s_piece_behind) l5 c5 k5).binds (ps := ["row", "number"]) fun _ _ _ _ _ _ us hl => match us, hl with | [_, _], _ => rfl,
    g_piece_behind := PySem.W.mg_of X G a5,
    a_parted := f6, fd_parted := _, F_parted := fun_mk (st := s_parted) l6 c6 k6,
    b_parted := (fun_mk (st := s_parted) l6 c6 k6).binds (ps := ["one", "other"]) fun _ _ _ _ _ _ us hl => match us, hl with | [_, _], _ => rfl,
    g_parted := PySem.W.mg_of X G a6,
    a_taken_unlike := f7, fd_taken_unlike := _, F_taken_unlike := fun_mk (st := s_taken_unlike) l7 c7 k7,
    b_taken_unlike := (fun_mk (st := s_taken_unlike) l7 c7 k7).binds (ps := ["one", "other"]) fun _ _ _ _ _ _ us hl => match us, hl with | [_, _], _ => rfl,
    g_taken_unlike := PySem.W.mg_of X G a7,
    a__law_cell_at := f8, fd__law_cell_at := _, F__law_cell_at := fun_mk (st := s__law_cell_at) l8 c8 k8,
    b__law_cell_at := (fun_mk (st := s__law_cell_at) l8 c8 k8).binds (ps := ["script", "k"]) fun _ _ _ _ _ _ us hl => match us, hl with | [_, _], _ => rfl,
    g__law_cell_at := PySem.W.mg_of X G a8,
    a__law_draws := f9, fd__law_draws := _, F__law_draws := fun_mk (st := s__law_draws) l9 c9 k9,
    b__law_draws := (fun_mk (st := s__law_draws) l9 c9 k9).binds (ps := ["cell", "many", "size"]) fun _ _ _ _ _ _ us hl => match us, hl with | [_, _, _], _ => rfl,
    g__law_draws := PySem.W.mg_of X G a9,
    a__law_bag := f10, fd__law_bag := _, F__law_bag := fun_mk (st := s__law_bag) l10 c10 k10,
    b__law_bag := (fun_mk (st := s__law_bag) l10 c10 k10).binds (ps := ["script", "k"]) fun _ _ _ _ _ _ us hl => match us, hl with | [_, _], _ => rfl,
    g__law_bag := PySem.W.mg_of X G a10,
    a__law_bags := f11, fd__law_bags := _, F__law_bags := fun_mk (st := s__law_bags) l11 c11 k11,
    b__law_bags := (fun_mk (st := s__law_bags) l11 c11 k11).binds (ps := ["script", "limit"]) fun _ _ _ _ _ _ us hl => match us, hl with | [_, _], _ => rfl,
    g__law_bags := PySem.W.mg_of X G a11,
    a__law_take := f12, fd__law_take := _, F__law_take := fun_mk (st := s__law_take) l12 c12 k12,
    b__law_take := (fun_mk (st := s__law_take) l12 c12 k12).binds (ps := ["bag", "many"]) fun _ _ _ _ _ _ us hl => match us, hl with | [_, _], _ => rfl,
    g__law_take := PySem.W.mg_of X G a12,
    a__law_taker := f13, fd__law_taker := _, F__law_taker := fun_mk (st := s__law_taker) l13 c13 k13,
    b__law_taker := (fun_mk (st := s__law_taker) l13 c13 k13).binds (ps := ["bag", "far"]) fun _ _ _ _ _ _ us hl => match us, hl with | [_, _], _ => rfl,
    g__law_taker := PySem.W.mg_of X G a13,
    a__law_drawn_row := f14, fd__law_drawn_row := _, F__law_drawn_row := fun_mk (st := s__law_drawn_row) l14 c14 k14,
    b__law_drawn_row := (fun_mk (st := s__law_drawn_row) l14 c14 k14).binds (ps := ["bag", "takers", "far"]) fun _ _ _ _ _ _ us hl => match us, hl with | [_, _, _], _ => rfl,
    g__law_drawn_row := PySem.W.mg_of X G a14,
    a__law_gone := f15, fd__law_gone := _, F__law_gone := fun_mk (st := s__law_gone) l15 c15 k15,
    b__law_gone := (fun_mk (st := s__law_gone) l15 c15 k15).binds (ps := ["house", "many"]) fun _ _ _ _ _ _ us hl => match us, hl with | [_, _], _ => rfl,
    g__law_gone := PySem.W.mg_of X G a15,
    a__law_refused := f16, fd__law_refused := _, F__law_refused := fun_mk (st := s__law_refused) l16 c16 k16,
    b__law_refused := (fun_mk (st := s__law_refused) l16 c16 k16).binds (ps := ["call", "one", "two", "three"]) fun _ _ _ _ _ _ us hl => match us, hl with | [_, _, _, _], _ => rfl,
    g__law_refused := PySem.W.mg_of X G a16,
    a__law_near := f17, fd__law_near := _, F__law_near := fun_mk (st := s__law_near) l17 c17 k17,
    b__law_near := (fun_mk (st := s__law_near) l17 c17 k17).binds (ps := ["bag", "house"]) fun _ _ _ _ _ _ us hl => match us, hl with | [_, _], _ => rfl,
    g__law_near := PySem.W.mg_of X G a17,
    a_law := fa, fd_law := _, F_law := fun_mk (st := s_law) l18 c18 k18,
    b_law := (fun_mk (st := s_law) l18 c18 k18).binds (ps := ["script"]) fun _ _ _ _ _ _ us hl => match us, hl with | [_], _ => rfl,
    g_law := PySem.W.mg_of X G a18,
    C_TakeError := C_TakeError,
    C_NoRow := C_NoRow,
    C_NoNumber := C_NoNumber,
    C_NoTaker := C_NoTaker,
    C_NoSeen := C_NoSeen,
    C_NoCounts := C_NoCounts,
    C_NoPlace := C_NoPlace,
    C_Unlike := C_Unlike,
    C_Full := C_Full,
    C_TooMany := C_TooMany,
    g_TakeError := PySem.W.mg_of X G aGg_TakeError,
    b_TakeError := b_TakeError,
    t_TakeError := t_TakeError,
    d_TakeError := d_TakeError,
    r_TakeError := r_TakeError,
    g_NoRow := PySem.W.mg_of X G aGg_NoRow,
    b_NoRow := b_NoRow,
    t_NoRow := t_NoRow,
    d_NoRow := d_NoRow,
    r_NoRow := r_NoRow,
    g_NoNumber := PySem.W.mg_of X G aGg_NoNumber,
    b_NoNumber := b_NoNumber,
    t_NoNumber := t_NoNumber,
    d_NoNumber := d_NoNumber,
    r_NoNumber := r_NoNumber,
    g_NoTaker := PySem.W.mg_of X G aGg_NoTaker,
    b_NoTaker := b_NoTaker,
    t_NoTaker := t_NoTaker,
    d_NoTaker := d_NoTaker,
    r_NoTaker := r_NoTaker,
    g_NoSeen := PySem.W.mg_of X G aGg_NoSeen,
    b_NoSeen := b_NoSeen,
    t_NoSeen := t_NoSeen,
    d_NoSeen := d_NoSeen,
    r_NoSeen := r_NoSeen,
    g_NoCounts := PySem.W.mg_of X G aGg_NoCounts,
    b_NoCounts := b_NoCounts,
    t_NoCounts := t_NoCounts,
    d_NoCounts := d_NoCounts,
    r_NoCounts := r_NoCounts,
    g_NoPlace := PySem.W.mg_of X G aGg_NoPlace,
    b_NoPlace := b_NoPlace,
    t_NoPlace := t_NoPlace,
    d_NoPlace := d_NoPlace,
    r_NoPlace := r_NoPlace,
    g_Unlike := PySem.W.mg_of X G aGg_Unlike,
    b_Unlike := b_Unlike,
    t_Unlike := t_Unlike,
    d_Unlike := d_Unlike,
    r_Unlike := r_Unlike,
    g_Full := PySem.W.mg_of X G aGg_Full,
    b_Full := b_Full,
    t_Full := t_Full,
    d_Full := d_Full,
    r_Full := r_Full,
    g_TooMany := PySem.W.mg_of X G aGg_TooMany,
    b_TooMany := b_TooMany,
    t_TooMany := t_TooMany,
    d_TooMany := d_TooMany,
    r_TooMany := r_TooMany,
    q_n := q_n,
    q_t := q_t,
    x_Unlike := x_Unlike,
    k_Unlike := k_Unlike,
    y_Unlike := y_Unlike,
    w_Unlike := w_Unlike,
    u_Unlike := u_Unlike,
    m_Unlike := m_Unlike,
    v_Unlike := v_Unlike,
    s_Unlike_NoRow := s_Unlike_NoRow,
    s_Unlike_NoNumber := s_Unlike_NoNumber,
    s_Unlike_NoTaker := s_Unlike_NoTaker,
    s_Unlike_NoSeen := s_Unlike_NoSeen,
    s_Unlike_NoCounts := s_Unlike_NoCounts,
    s_Unlike_NoPlace := s_Unlike_NoPlace,
    s_Unlike_Full := s_Unlike_Full,
    s_Unlike_TooMany := s_Unlike_TooMany,
    s_Unlike_TakeError := s_Unlike_TakeError,
    cc_law := cc_law, pt_law := pt_law, hc_law := hc_law,
    t_MOST_TAKERS := t0, g_MOST_TAKERS := PySem.W.mg_of X G v0,
    t_LEAST_EVERY := t1, g_LEAST_EVERY := PySem.W.mg_of X G v1,
    t_MOST_EVERY := t2, g_MOST_EVERY := PySem.W.mg_of X G v2,
    z_ValueError := PySem.W.mg_none_of X G z0,
    z_all := PySem.W.mg_none_of X G z1,
    z_bool := PySem.W.mg_none_of X G z2,
    z_enumerate := PySem.W.mg_none_of X G z3,
    z_int := PySem.W.mg_none_of X G z4,
    z_isinstance := PySem.W.mg_none_of X G z5,
    z_len := PySem.W.mg_none_of X G z6,
    z_max := PySem.W.mg_none_of X G z7,
    z_min := PySem.W.mg_none_of X G z8,
    z_range := PySem.W.mg_none_of X G z9,
    z_reversed := PySem.W.mg_none_of X G z10,
    z_tuple := PySem.W.mg_none_of X G z11 }
  have hp : ∀ p ∈ cs0 T, h.get? p.2 = some { cls := .none, data := .fields #[] } ∧ PySem.W.codeHdIn K p.1 p.2 = true := by
    intro p hp
    simp only [cs0, List.mem_cons, List.not_mem_nil, or_false] at hp
    rcases hp with rfl
    · exact ⟨tabs _ mt_law, ch_law⟩
  exact ⟨T.fd_law, cs0 T, spLawT K T, fun p h1 => (hp p h1).1, fun p h1 => no_tab X nt (hp p h1).1, fun p h1 => PySem.W.codeHd_of_K X (hp p h1).2, fun s v => .of_eq rfl,
    fun H a ns hl _ hH hS => ⟨a, ns, rfl, hS, hl, tabs0 T hH, fun _ => rfl⟩, fun base _ _ TB => ok_law T TB⟩
end Lk11
open PySem PySem.W PyProof.Rows
set_option maxHeartbeats 0 in
theorem PySem.Challenge.cw_takenth_k11_where_two_rows_part_holds : PySem.Challenge.rw_takenth_k11_where_two_rows_part.Holds := by
  w_on; o_law; k_head; (case hw => w_witness2)
  k_fill
  refine LamX.walk_ofTs (l := PySem.Challenge.rw_takenth_k11_where_two_rows_part) (n := 63) (k := 8) (x := "script") (CX := fun _ => L2.CX0) rfl (by decide) rfl ⟨rfl, by decide, by decide⟩ (fun w h Y => PySem.W.km_in_of Y) ?F (fun _ _ _ _ _ h => h)
  case F =>
    intro w mg fa h Y KX G hmg
    refine' Lk11.all_mk KX G hmg ?a1 ?l1 ?c1 ?k1 ?a2 ?l2 ?c2 ?k2 ?a3 ?l3 ?c3 ?k3 ?a4 ?l4 ?c4 ?k4 ?a5 ?l5 ?c5 ?k5 ?a6 ?l6 ?c6 ?k6 ?a7 ?l7 ?c7 ?k7 ?a8 ?l8 ?c8 ?k8 ?a9 ?l9 ?c9 ?k9 ?a10 ?l10 ?c10 ?k10 ?a11 ?l11 ?c11 ?k11 ?a12 ?l12 ?c12 ?k12 ?a13 ?l13 ?c13 ?k13 ?a14 ?l14 ?c14 ?k14 ?a15 ?l15 ?c15 ?k15 ?a16 ?l16 ?c16 ?k16 ?a17 ?l17 ?c17 ?k17 ?a18 ?l18 ?c18 ?k18 ?aGg_TakeError ?b_TakeError ?t_TakeError ?d_TakeError ?r_TakeError ?aGg_NoRow ?b_NoRow ?t_NoRow ?d_NoRow ?r_NoRow ?aGg_NoNumber ?b_NoNumber ?t_NoNumber ?d_NoNumber ?r_NoNumber ?aGg_NoTaker ?b_NoTaker ?t_NoTaker ?d_NoTaker ?r_NoTaker ?aGg_NoSeen ?b_NoSeen ?t_NoSeen ?d_NoSeen ?r_NoSeen ?aGg_NoCounts ?b_NoCounts ?t_NoCounts ?d_NoCounts ?r_NoCounts ?aGg_NoPlace ?b_NoPlace ?t_NoPlace ?d_NoPlace ?r_NoPlace ?aGg_Unlike ?b_Unlike ?t_Unlike ?d_Unlike ?r_Unlike ?aGg_Full ?b_Full ?t_Full ?d_Full ?r_Full ?aGg_TooMany ?b_TooMany ?t_TooMany ?d_TooMany ?r_TooMany ?q_n ?q_t ?x_Unlike ?k_Unlike ?y_Unlike ?w_Unlike ?u_Unlike ?m_Unlike ?v_Unlike ?s_Unlike_NoRow ?s_Unlike_NoNumber ?s_Unlike_NoTaker ?s_Unlike_NoSeen ?s_Unlike_NoCounts ?s_Unlike_NoPlace ?s_Unlike_Full ?s_Unlike_TooMany ?s_Unlike_TakeError (PySem.W.km_tabs_of Y) ?nt ?hc_law ?lc_law ?tc_law ?ch_law ?mt_law ?v0 ?v1 ?v2 ?z0 ?z1 ?z2 ?z3 ?z4 ?z5 ?z6 ?z7 ?z8 ?z9 ?z10 ?z11
    (case aGg_TakeError => k_is)
    (case aGg_NoRow => k_is)
    (case aGg_NoNumber => k_is)
    (case aGg_NoTaker => k_is)
    (case aGg_NoSeen => k_is)
    (case aGg_NoCounts => k_is)
    (case aGg_NoPlace => k_is)
    (case aGg_Unlike => k_is)
    (case aGg_Full => k_is)
    (case aGg_TooMany => k_is)
    (case a1 => k_is)
    (case l1 => k_is)
    (case c1 => k_is)
    (case k1 => k_is)
    (case a2 => k_is)
    (case l2 => k_is)
    (case c2 => k_is)
    (case k2 => k_is)
    (case a3 => k_is)
    (case l3 => k_is)
    (case c3 => k_is)
    (case k3 => k_is)
    (case a4 => k_is)
    (case l4 => k_is)
    (case c4 => k_is)
    (case k4 => k_is)
    (case a5 => k_is)
    (case l5 => k_is)
    (case c5 => k_is)
    (case k5 => k_is)
    (case a6 => k_is)
    (case l6 => k_is)
    (case c6 => k_is)
    (case k6 => k_is)
    (case a7 => k_is)
    (case l7 => k_is)
    (case c7 => k_is)
    (case k7 => k_is)
    (case a8 => k_is)
    (case l8 => k_is)
    (case c8 => k_is)
    (case k8 => k_is)
    (case a9 => k_is)
    (case l9 => k_is)
    (case c9 => k_is)
    (case k9 => k_is)
    (case a10 => k_is)
    (case l10 => k_is)
    (case c10 => k_is)
    (case k10 => k_is)
    (case a11 => k_is)
    (case l11 => k_is)
    (case c11 => k_is)
    (case k11 => k_is)
    (case a12 => k_is)
    (case l12 => k_is)
    (case c12 => k_is)
    (case k12 => k_is)
    (case a13 => k_is)
    (case l13 => k_is)
    (case c13 => k_is)
    (case k13 => k_is)
    (case a14 => k_is)
    (case l14 => k_is)
    (case c14 => k_is)
    (case k14 => k_is)
    (case a15 => k_is)
    (case l15 => k_is)
    (case c15 => k_is)
    (case k15 => k_is)
    (case a16 => k_is)
    (case l16 => k_is)
    (case c16 => k_is)
    (case k16 => k_is)
    (case a17 => k_is)
    (case l17 => k_is)
    (case c17 => k_is)
    (case k17 => k_is)
    (case a18 => k_is)
    (case l18 => k_is)
    (case c18 => k_is)
    (case k18 => k_is)
    (case b_TakeError => k_is)
    (case t_TakeError => k_is)
    (case d_TakeError => k_is)
    (case r_TakeError => k_is)
    (case b_NoRow => k_is)
    (case t_NoRow => k_is)
    (case d_NoRow => k_is)
    (case r_NoRow => k_is)
    (case b_NoNumber => k_is)
    (case t_NoNumber => k_is)
    (case d_NoNumber => k_is)
    (case r_NoNumber => k_is)
    (case b_NoTaker => k_is)
    (case t_NoTaker => k_is)
    (case d_NoTaker => k_is)
    (case r_NoTaker => k_is)
    (case b_NoSeen => k_is)
    (case t_NoSeen => k_is)
    (case d_NoSeen => k_is)
    (case r_NoSeen => k_is)
    (case b_NoCounts => k_is)
    (case t_NoCounts => k_is)
    (case d_NoCounts => k_is)
    (case r_NoCounts => k_is)
    (case b_NoPlace => k_is)
    (case t_NoPlace => k_is)
    (case d_NoPlace => k_is)
    (case r_NoPlace => k_is)
    (case b_Unlike => k_is)
    (case t_Unlike => k_is)
    (case d_Unlike => k_is)
    (case r_Unlike => k_is)
    (case b_Full => k_is)
    (case t_Full => k_is)
    (case d_Full => k_is)
    (case r_Full => k_is)
    (case b_TooMany => k_is)
    (case t_TooMany => k_is)
    (case d_TooMany => k_is)
    (case r_TooMany => k_is)
    (case q_n => k_is)
    (case q_t => k_is)
    (case x_Unlike => k_exc)
    (case k_Unlike => k_is)
    (case y_Unlike => k_is)
    (case w_Unlike => k_is)
    (case u_Unlike => k_is)
    (case m_Unlike => k_is)
    (case v_Unlike => k_is)
    (case s_Unlike_NoRow => k_is)
    (case s_Unlike_NoNumber => k_is)
    (case s_Unlike_NoTaker => k_is)
    (case s_Unlike_NoSeen => k_is)
    (case s_Unlike_NoCounts => k_is)
    (case s_Unlike_NoPlace => k_is)
    (case s_Unlike_Full => k_is)
    (case s_Unlike_TooMany => k_is)
    (case s_Unlike_TakeError => k_is)
    (case nt => rfl)
    (case hc_law => rfl)
    (case lc_law => k_is)
    (case tc_law => rfl)
    (case ch_law => rfl)
    (case mt_law => simp)
    (case v0 => k_is)
    (case v1 => k_is)
    (case v2 => k_is)
    (case z0 => k_is)
    (case z1 => k_is)
    (case z2 => k_is)
    (case z3 => k_is)
    (case z4 => k_is)
    (case z5 => k_is)
    (case z6 => k_is)
    (case z7 => k_is)
    (case z8 => k_is)
    (case z9 => k_is)
    (case z10 => k_is)
    (case z11 => k_is)
