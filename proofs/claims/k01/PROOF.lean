import PyProof.Rows.All
import Wide.All
import OpenK.AllK
import Wide.FinOn
import HandS.ForMost
import HandS.IsInst
import HandS.TupAny
import HandS.Walk
import HandS.Rev
import KE.GoesMore
import HandS.Conv
import HandS.Style
import HandS.Wide
import HandS.More
import HandS.TupMul
import HandS.TupLe
import PySem.Challenge.RW_takenth_k01_rows_known
set_option Elab.async false
set_option linter.all false
set_option maxRecDepth 100000
set_option maxHeartbeats 4000000
namespace TK
/-- who takes piece n (from 1 on) -/
def whoF : List (Int × Int) → Int → Option Nat
  | [], _ => none
  | (e, c) :: r, n => if (c + n) % e = 0 then some 0 else (whoF r (n - (c + n) / e)).map (· + 1)
/-- how many each one takes of n, the left over last -/
def takenF : List (Int × Int) → Int → List Int
  | [], n => [n]
  | (e, c) :: r, n => (c + n) / e :: takenF r (n - (c + n) / e)
/-- what each has counted behind n pieces -/
def cntF : List (Int × Int) → Int → List Int
  | [], _ => []
  | (e, c) :: r, n => (c + n) % e :: cntF r (n - (c + n) / e)
/-- how many of n pieces come to place i -/
def comeF : List (Int × Int) → Nat → Int → Int
  | _, 0, n => n
  | [], _ + 1, n => n
  | (e, c) :: r, i + 1, n => comeF r i (n - (c + n) / e)
theorem come_zero (r : List (Int × Int)) (n : Int) : comeF r 0 n = n := by cases r <;> rfl
def okT (ec : Int × Int) : Prop := 2 ≤ ec.1 ∧ ec.1 ≤ 1000 ∧ 0 ≤ ec.2 ∧ ec.2 ≤ ec.1 - 1

theorem div_step0 {a e : Int} (he : 0 < e) (h : (a + 1) % e = 0) : (a + 1) / e = a / e + 1 := by
  have h1 := Int.mul_ediv_add_emod (a + 1) e
  have h2 := Int.mul_ediv_add_emod a e
  have h3 := Int.emod_nonneg a (Int.ne_of_gt he)
  have h4 := Int.emod_lt_of_pos a he
  rw [h] at h1
  have h5 : e * ((a + 1) / e) = e * (a / e) + (a % e + 1) := by omega
  have h6 : e * ((a + 1) / e - a / e) = a % e + 1 := by rw [Int.mul_sub]; omega
  have h7 : (a + 1) / e - a / e = 1 := by
    have p : 0 < (a + 1) / e - a / e := by
      rcases Int.lt_or_le 0 ((a + 1) / e - a / e) with h | h
      · exact h
      · have := Int.mul_nonpos_of_nonneg_of_nonpos (Int.le_of_lt he) h
        omega
    rcases Int.lt_or_le 1 ((a + 1) / e - a / e) with h | h
    · have : e * 2 ≤ e * ((a + 1) / e - a / e) := Int.mul_le_mul_of_nonneg_left (by omega) (Int.le_of_lt he)
      omega
    · omega
  omega
theorem div_stepN {a e : Int} (he : 0 < e) (h : (a + 1) % e ≠ 0) : (a + 1) / e = a / e := by
  have h1 := Int.mul_ediv_add_emod (a + 1) e
  have h2 := Int.mul_ediv_add_emod a e
  have h3 := Int.emod_nonneg a (Int.ne_of_gt he)
  have h4 := Int.emod_lt_of_pos a he
  have h3' := Int.emod_nonneg (a + 1) (Int.ne_of_gt he)
  have h4' := Int.emod_lt_of_pos (a + 1) he
  have h6 : e * ((a + 1) / e - a / e) = a % e + 1 - (a + 1) % e := by rw [Int.mul_sub]; omega
  have h7 : (a + 1) / e - a / e = 0 := by
    rcases Int.lt_or_le 0 ((a + 1) / e - a / e) with h | h
    · have : e * 1 ≤ e * ((a + 1) / e - a / e) := Int.mul_le_mul_of_nonneg_left (by omega) (Int.le_of_lt he)
      omega
    · rcases Int.lt_or_le ((a + 1) / e - a / e) 0 with h | h
      · have : e * ((a + 1) / e - a / e) ≤ e * (-1) := Int.mul_le_mul_of_nonneg_left (by omega) (Int.le_of_lt he)
        omega
      · omega
  omega
theorem mod_step (a e : Int) : (a % e + 1) % e = (a + 1) % e := by
  rw [Int.add_emod, Int.emod_emod_of_dvd _ (Int.dvd_refl e), ← Int.add_emod]

theorem len_takenF : ∀ (r : List (Int × Int)) (n : Int), (takenF r n).length = r.length + 1
  | [], _ => rfl
  | (e, c) :: r, n => by simp [takenF, len_takenF r]
theorem len_cntF : ∀ (r : List (Int × Int)) (n : Int), (cntF r n).length = r.length
  | [], _ => rfl
  | (e, c) :: r, n => by simp [cntF, len_cntF r]
theorem whoF_lt : ∀ (r : List (Int × Int)) (n : Int) (j : Nat), whoF r n = some j → j < r.length
  | [], _, _, h => by simp [whoF] at h
  | (e, c) :: r, n, j, h => by
    unfold whoF at h
    split at h
    · have := Option.some.inj h
      simp; omega
    · cases q : whoF r (n - (c + n) / e) with
      | none => rw [q] at h; simp at h
      | some k =>
        rw [q] at h
        have := whoF_lt r _ k q
        simp at h
        simp; omega
theorem come_succ : ∀ (r : List (Int × Int)) (n : Int) (i : Nat) (e c : Int), r[i]? = some (e, c) → comeF r (i + 1) n = comeF r i n - (c + comeF r i n) / e
  | [], _, _, _, _, h => by simp at h
  | (e, c) :: r, n, 0, e', c', h => by
    simp at h
    obtain ⟨rfl, rfl⟩ := h
    simp [comeF]
  | (e, c) :: r, n, i + 1, e', c', h => by
    have := come_succ r (n - (c + n) / e) i e' c' (by simpa using h)
    simpa [comeF] using this
theorem taken_get : ∀ (r : List (Int × Int)) (n : Int) (i : Nat) (e c : Int), r[i]? = some (e, c) → (takenF r n)[i]? = some ((c + comeF r i n) / e)
  | [], _, _, _, _, h => by simp at h
  | (e, c) :: r, n, 0, e', c', h => by
    simp at h
    obtain ⟨rfl, rfl⟩ := h
    simp [takenF, comeF]
  | (e, c) :: r, n, i + 1, e', c', h => by
    have := taken_get r (n - (c + n) / e) i e' c' (by simpa using h)
    simpa [takenF, comeF] using this
theorem taken_last : ∀ (r : List (Int × Int)) (n : Int), (takenF r n)[r.length]? = some (comeF r r.length n)
  | [], _ => by simp [takenF, comeF]
  | (e, c) :: r, n => by
    have := taken_last r (n - (c + n) / e)
    simpa [takenF, comeF] using this
/-- the place i is reached by piece n + 1 -/
def reach (r : List (Int × Int)) (n : Int) (i : Nat) : Prop := ∀ j, whoF r n = some j → i ≤ j
theorem come_step : ∀ (r : List (Int × Int)) (n : Int) (i : Nat), (∀ ec ∈ r, okT ec) → i ≤ r.length → reach r (n + 1) i → comeF r i (n + 1) = comeF r i n + 1
  | _, _, 0, _, _, _ => by simp [comeF]
  | [], _, i + 1, _, hi, _ => by simp at hi
  | (e, c) :: r, n, i + 1, ok, hi, h => by
    have he : (0 : Int) < e := by have := ok (e, c) (by simp); unfold okT at this; simp at this; omega
    have ea : c + (n + 1) = c + n + 1 := by omega
    by_cases q : (c + (n + 1)) % e = 0
    · have : i + 1 ≤ 0 := h 0 (by simp [whoF, q])
      omega
    · have e1 : (c + (n + 1)) / e = (c + n) / e := by rw [ea] at q ⊢; exact div_stepN he q
      unfold comeF
      rw [e1]
      have := come_step r (n - (c + n) / e) i (fun x hx => ok x (by simp [hx])) (by simp at hi; omega) (fun j hj => by
        have := h (j + 1) (by
          unfold whoF
          rw [if_neg q, e1, show n + 1 - (c + n) / e = n - (c + n) / e + 1 by omega, hj]
          rfl)
        omega)
      rw [← this]
      congr 1
      omega
theorem cnt_get : ∀ (r : List (Int × Int)) (n : Int) (i : Nat) (e c : Int), r[i]? = some (e, c) → (cntF r n)[i]? = some ((c + comeF r i n) % e)
  | [], _, _, _, _, h => by simp at h
  | (e, c) :: r, n, 0, e', c', h => by
    simp at h
    obtain ⟨rfl, rfl⟩ := h
    simp [cntF, comeF]
  | (e, c) :: r, n, i + 1, e', c', h => by
    have := cnt_get r (n - (c + n) / e) i e' c' (by simpa using h)
    simpa [cntF, comeF] using this
theorem who_at : ∀ (r : List (Int × Int)) (n : Int) (i : Nat) (e c : Int), r[i]? = some (e, c) → reach r n i → (whoF r n = some i ↔ (c + comeF r i n) % e = 0)
  | [], _, _, _, _, h, _ => by simp at h
  | (e, c) :: r, n, 0, e', c', h, hr => by
    simp at h
    obtain ⟨rfl, rfl⟩ := h
    simp [whoF, comeF]
  | (e, c) :: r, n, i + 1, e', c', h, hr => by
    have q : (c + n) % e ≠ 0 := fun q => by
      have := hr 0 (by simp [whoF, q])
      omega
    have := who_at r (n - (c + n) / e) i e' c' (by simpa using h) (fun j hj => by
      have := hr (j + 1) (by unfold whoF; rw [if_neg q, hj]; rfl)
      omega)
    unfold whoF comeF
    rw [if_neg q, ← this]
    cases whoF r (n - (c + n) / e) with
    | none => simp
    | some k => simp
theorem reach_succ {r : List (Int × Int)} {n : Int} {i : Nat} (h : reach r n i) (h2 : whoF r n ≠ some i) : reach r n (i + 1) := fun j hj => by
  have := h j hj
  rcases Nat.lt_or_ge i j with q | q
  · omega
  · have e : j = i := by omega
    subst e
    exact absurd hj h2
/-- behind the taker of piece n + 1 nothing is counted -/
theorem cnt_same : ∀ (r : List (Int × Int)) (n : Int) (i j : Nat), (∀ ec ∈ r, okT ec) → whoF r (n + 1) = some j → j < i → (cntF r (n + 1))[i]? = (cntF r n)[i]?
  | [], _, _, _, _, h, _ => by simp [whoF] at h
  | (e, c) :: r, n, 0, j, _, _, h => by omega
  | (e, c) :: r, n, i + 1, j, ok, h, hj => by
    have he : (0 : Int) < e := by have := ok (e, c) (by simp); unfold okT at this; simp at this; omega
    have ea : c + (n + 1) = c + n + 1 := by omega
    unfold whoF at h
    by_cases q : (c + (n + 1)) % e = 0
    · have e1 : (c + (n + 1)) / e = (c + n) / e + 1 := by rw [ea] at q ⊢; exact div_step0 he q
      unfold cntF
      rw [e1, show n + 1 - ((c + n) / e + 1) = n - (c + n) / e by omega]
      simp
    · have e1 : (c + (n + 1)) / e = (c + n) / e := by rw [ea] at q ⊢; exact div_stepN he q
      rw [if_neg q, e1, show n + 1 - (c + n) / e = n - (c + n) / e + 1 by omega] at h
      cases k : whoF r (n - (c + n) / e + 1) with
      | none => rw [k] at h; simp at h
      | some j' =>
        rw [k] at h
        simp at h
        have := cnt_same r (n - (c + n) / e) i j' (fun x hx => ok x (by simp [hx])) k (by omega)
        unfold cntF
        rw [e1, show n + 1 - (c + n) / e = n - (c + n) / e + 1 by omega]
        simpa using this
/-- the index that is counted up by who takes piece n: the last one where it is left over -/
def slot (r : List (Int × Int)) : Option Nat → Nat
  | none => r.length
  | some j => j
theorem taken_step : ∀ (r : List (Int × Int)) (n : Int) (i : Nat) (v : Int), (∀ ec ∈ r, okT ec) → (takenF r n)[i]? = some v →
    (takenF r (n + 1))[i]? = some (v + if i = slot r (whoF r (n + 1)) then 1 else 0)
  | [], n, i, v, _, h => by
    cases i with
    | zero => simp [takenF, whoF, slot] at h ⊢; omega
    | succ i => simp [takenF] at h
  | (e, c) :: r, n, i, v, ok, h => by
    have he : (0 : Int) < e := by have := ok (e, c) (by simp); unfold okT at this; simp at this; omega
    have ea : c + (n + 1) = c + n + 1 := by omega
    by_cases q : (c + (n + 1)) % e = 0
    · have e1 : (c + (n + 1)) / e = (c + n) / e + 1 := by rw [ea] at q ⊢; exact div_step0 he q
      unfold takenF at h ⊢
      rw [e1, show n + 1 - ((c + n) / e + 1) = n - (c + n) / e by omega]
      have hw : whoF ((e, c) :: r) (n + 1) = some 0 := by simp [whoF, q]
      rw [hw]
      cases i with
      | zero => simp [slot] at h ⊢; omega
      | succ i => simp [slot] at h ⊢; exact h
    · have e1 : (c + (n + 1)) / e = (c + n) / e := by rw [ea] at q ⊢; exact div_stepN he q
      have hw : whoF ((e, c) :: r) (n + 1) = (whoF r (n - (c + n) / e + 1)).map (· + 1) := by
        conv => lhs; unfold whoF
        rw [if_neg q, e1, show n + 1 - (c + n) / e = n - (c + n) / e + 1 by omega]
      have hs : slot ((e, c) :: r) (whoF ((e, c) :: r) (n + 1)) = slot r (whoF r (n - (c + n) / e + 1)) + 1 := by
        rw [hw]
        cases whoF r (n - (c + n) / e + 1) <;> simp [slot]
      rw [hs]
      unfold takenF at h ⊢
      rw [e1, show n + 1 - (c + n) / e = n - (c + n) / e + 1 by omega]
      cases i with
      | zero => simp at h ⊢; omega
      | succ i =>
        have := taken_step r (n - (c + n) / e) i v (fun x hx => ok x (by simp [hx])) (by simpa using h)
        simpa using this
theorem taken_zero : ∀ (r : List (Int × Int)), (∀ ec ∈ r, okT ec) → takenF r 0 = List.replicate (r.length + 1) 0
  | [], _ => rfl
  | (e, c) :: r, ok => by
    have h := ok (e, c) (by simp)
    unfold okT at h
    simp at h
    have e0 : (c + 0) / e = 0 := by rw [Int.add_zero]; exact Int.ediv_eq_zero_of_lt h.2.2.1 (by omega)
    unfold takenF
    rw [e0, show (0 : Int) - 0 = 0 by omega, taken_zero r fun x hx => ok x (by simp [hx])]
    rfl
theorem cnt_zero : ∀ (r : List (Int × Int)), (∀ ec ∈ r, okT ec) → cntF r 0 = r.map (·.2)
  | [], _ => rfl
  | (e, c) :: r, ok => by
    have h := ok (e, c) (by simp)
    unfold okT at h
    simp at h
    have e0 : (c + 0) / e = 0 := by rw [Int.add_zero]; exact Int.ediv_eq_zero_of_lt h.2.2.1 (by omega)
    unfold cntF
    rw [e0, show (0 : Int) - 0 = 0 by omega, cnt_zero r fun x hx => ok x (by simp [hx])]
    simp
    exact Int.emod_eq_of_lt h.2.2.1 (by omega)
/-- who takes the first m pieces -/
def seenF (r : List (Int × Int)) (m : Nat) : List (Option Nat) := (List.range m).map fun (k : Nat) => whoF r ((k : Int) + 1)
theorem seen_succ (r : List (Int × Int)) (m : Nat) : seenF r (m + 1) = seenF r m ++ [whoF r ((m : Int) + 1)] := by
  unfold seenF
  rw [List.range_succ, List.map_append]
  rfl
theorem len_seenF (r : List (Int × Int)) (m : Nat) : (seenF r m).length = m := by simp [seenF]
theorem slot_inj {r : List (Int × Int)} {n : Int} {i : Nat} {o : Option Nat} (ho : ∀ j, o = some j → j < r.length) : i = slot r (whoF r n) ∧ i = slot r o → whoF r n = o := by
  intro ⟨h1, h2⟩
  cases q : whoF r n with
  | none =>
    rw [q] at h1
    cases o with
    | none => rfl
    | some j =>
      have := ho j rfl
      simp [slot] at h1 h2
      omega
  | some k =>
    have := whoF_lt r n k q
    rw [q] at h1
    cases o with
    | none => simp [slot] at h1 h2; omega
    | some j => simp [slot] at h1 h2; congr 1; omega
/-- counted among the pieces seen: what takenF tells -/
theorem taken_count (r : List (Int × Int)) (ok : ∀ ec ∈ r, okT ec) (o : Option Nat) (ho : ∀ j, o = some j → j < r.length) :
    ∀ m : Nat, (takenF r (m : Int))[slot r o]? = some (((seenF r m).countP fun x => decide (x = o) : Nat) : Int)
  | 0 => by
    rw [show ((0 : Nat) : Int) = 0 from rfl, taken_zero r ok, List.getElem?_replicate]
    rw [if_pos]
    · simp [seenF]
    · cases o with
      | none => simp [slot]
      | some j => have := ho j rfl; simp [slot]; omega
  | m + 1 => by
    have ih := taken_count r ok o ho m
    have := taken_step r (m : Int) (slot r o) _ ok ih
    rw [show ((m + 1 : Nat) : Int) = (m : Int) + 1 by omega, this, seen_succ, List.countP_append]
    by_cases q : whoF r ((m : Int) + 1) = o
    · rw [if_pos (by rw [q])]
      simp [q]
    · rw [if_neg (fun z => q (slot_inj ho ⟨z, rfl⟩))]
      simp [q]
end TK

namespace TK
/-- which piece is the m-th that passes all of the row -/
def passF : List (Int × Int) → Int → Int
  | [], m => m
  | (e, c) :: r, m => passF r m + (c + passF r m - 1) / (e - 1)
theorem pass_one {e c m : Int} (he : 2 ≤ e) (p : Int) (hp : p = m + (c + m - 1) / (e - 1)) : (c + p) / e = p - m ∧ (c + p) % e ≠ 0 := by
  have d1 := Int.mul_ediv_add_emod (c + m - 1) (e - 1)
  have d2 := Int.emod_nonneg (c + m - 1) (show e - 1 ≠ 0 by omega)
  have d3 := Int.emod_lt_of_pos (c + m - 1) (show 0 < e - 1 by omega)
  have hq : (c + m - 1) / (e - 1) = p - m := by omega
  rw [hq] at d1
  have key : c + p = e * (p - m) + ((c + m - 1) % (e - 1) + 1) := by
    rw [Int.sub_mul, Int.one_mul] at d1
    omega
  have q1 : (c + p) / e = p - m := by
    rw [key, Int.add_comm, Int.add_mul_ediv_left _ _ (by omega), Int.ediv_eq_zero_of_lt (by omega) (by omega), Int.zero_add]
  refine ⟨q1, ?_⟩
  rw [key, Int.add_comm, Int.add_mul_emod_self_left, Int.emod_eq_of_lt (by omega) (by omega)]
  omega
theorem pass_back {e c n : Int} (he : 2 ≤ e) (h : (c + n) % e ≠ 0) : n - (c + n) / e + (c + (n - (c + n) / e) - 1) / (e - 1) = n := by
  have d1 := Int.mul_ediv_add_emod (c + n) e
  have d2 := Int.emod_nonneg (c + n) (show e ≠ 0 by omega)
  have d3 := Int.emod_lt_of_pos (c + n) (show 0 < e by omega)
  obtain ⟨q, hq⟩ : ∃ q, q = (c + n) / e := ⟨_, rfl⟩
  rw [← hq] at d1 ⊢
  have key : c + (n - q) - 1 = ((c + n) % e - 1) + (e - 1) * q := by
    rw [Int.sub_mul, Int.one_mul]
    omega
  rw [key, Int.add_mul_ediv_left _ _ (by omega), Int.ediv_eq_zero_of_lt (by omega) (by omega)]
  omega
theorem pass_ge : ∀ (r : List (Int × Int)) (m : Int), (∀ ec ∈ r, okT ec) → 1 ≤ m → m ≤ passF r m
  | [], m, _, _ => Int.le_refl m
  | (e, c) :: r, m, ok, hm => by
    have h := ok (e, c) (by simp)
    unfold okT at h
    simp at h
    have ih := pass_ge r m (fun x hx => ok x (by simp [hx])) hm
    have : 0 ≤ (c + passF r m - 1) / (e - 1) := Int.ediv_nonneg (by omega) (by omega)
    unfold passF
    omega
theorem pass_lt : ∀ (r : List (Int × Int)) (m n : Int), (∀ ec ∈ r, okT ec) → m < n → passF r m < passF r n
  | [], m, n, _, h => h
  | (e, c) :: r, m, n, ok, hm => by
    have h := ok (e, c) (by simp)
    unfold okT at h
    simp at h
    have ih := pass_lt r m n (fun x hx => ok x (by simp [hx])) hm
    have : (c + passF r m - 1) / (e - 1) ≤ (c + passF r n - 1) / (e - 1) := Int.ediv_le_ediv (by omega) (by omega)
    unfold passF
    omega
/-- the piece that comes to what stands behind pre as the x-th -/
theorem who_pass : ∀ (pre rest : List (Int × Int)) (x : Int), (∀ ec ∈ pre, okT ec) →
    whoF (pre ++ rest) (passF pre x) = (whoF rest x).map (· + pre.length) ∧ comeF (pre ++ rest) pre.length (passF pre x) = x
  | [], rest, x, _ => by
    constructor
    · cases h : whoF rest x <;> simp [passF, h]
    · simp [passF, come_zero]
  | (e, c) :: pre, rest, x, ok => by
    have h := ok (e, c) (by simp)
    unfold okT at h
    simp at h
    obtain ⟨ih1, ih2⟩ := who_pass pre rest x (fun y hy => ok y (by simp [hy]))
    obtain ⟨p1, p2⟩ := pass_one (c := c) (m := passF pre x) h.1 _ rfl
    have e1 : passF pre x + (c + passF pre x - 1) / (e - 1) - (c + (passF pre x + (c + passF pre x - 1) / (e - 1))) / e = passF pre x := by
      rw [p1]
      omega
    constructor
    · rw [List.cons_append]
      conv => lhs; unfold passF whoF
      rw [if_neg p2, e1, ih1]
      cases whoF rest x with
      | none => rfl
      | some j =>
        show some (j + pre.length + 1) = some (j + (pre.length + 1))
        rfl
    · rw [List.cons_append]
      unfold passF
      simp only [List.length_cons, comeF]
      rw [e1]
      exact ih2
theorem pass_come : ∀ (r : List (Int × Int)) (k : Nat) (n : Int), (∀ ec ∈ r, okT ec) → k ≤ r.length → reach r n k → passF (r.take k) (comeF r k n) = n
  | r, 0, n, _, _, _ => by simp [passF, come_zero]
  | [], k + 1, n, _, h, _ => by simp at h
  | (e, c) :: r, k + 1, n, ok, hk, hr => by
    have h := ok (e, c) (by simp)
    unfold okT at h
    simp at h
    have q : (c + n) % e ≠ 0 := fun q => by
      have := hr 0 (by simp [whoF, q])
      omega
    have ih := pass_come r k (n - (c + n) / e) (fun x hx => ok x (by simp [hx])) (by simp at hk; omega) (fun j hj => by
      have := hr (j + 1) (by unfold whoF; rw [if_neg q, hj]; rfl)
      omega)
    simp only [List.take_succ_cons, passF, comeF]
    rw [ih]
    exact pass_back h.1 q
/-- which piece is told -/
def pieceF (r : List (Int × Int)) (o : Option Nat) (n : Int) : Int := match o with
  | none => passF r n
  | some k => match r[k]? with
    | some (e, c) => passF (r.take k) (n * e - c)
    | none => 0
theorem split_at {r : List (Int × Int)} {k : Nat} {e c : Int} (h : r[k]? = some (e, c)) : r = r.take k ++ (e, c) :: r.drop (k + 1) := by
  obtain ⟨hk, he⟩ := List.getElem?_eq_some_iff.mp h
  rw [← he, ← List.drop_eq_getElem_cons hk, List.take_append_drop]
theorem take_ok {r : List (Int × Int)} (ok : ∀ ec ∈ r, okT ec) (k : Nat) : ∀ ec ∈ r.take k, okT ec := fun ec h => ok ec (List.mem_of_mem_take h)
/-- all that is asked of a told piece -/
theorem piece_facts (r : List (Int × Int)) (ok : ∀ ec ∈ r, okT ec) (o : Option Nat) (ho : ∀ j, o = some j → j < r.length) (n : Int) (hn : 1 ≤ n) :
    whoF r (pieceF r o n) = o ∧ (takenF r (pieceF r o n))[slot r o]? = some n ∧ 1 ≤ pieceF r o n := by
  cases o with
  | none =>
    obtain ⟨h1, h2⟩ := who_pass r [] n ok
    rw [List.append_nil] at h1 h2
    refine ⟨by simpa [pieceF, whoF] using h1, ?_, ?_⟩
    · show (takenF r (passF r n))[r.length]? = some n
      rw [taken_last, h2]
    · have := pass_ge r n ok hn
      show 1 ≤ passF r n
      omega
  | some k =>
    have hk := ho k rfl
    obtain ⟨⟨e, c⟩, hec⟩ : ∃ ec, r[k]? = some ec := ⟨_, List.getElem?_eq_getElem hk⟩
    have hok : okT (e, c) := ok _ (List.mem_of_getElem? hec)
    unfold okT at hok
    simp at hok
    have sp := split_at hec
    have lt : (r.take k).length = k := by rw [List.length_take]; omega
    have pe : pieceF r (some k) n = passF (r.take k) (n * e - c) := by
      unfold pieceF
      simp only [hec]
    obtain ⟨h1, h2⟩ := who_pass (r.take k) ((e, c) :: r.drop (k + 1)) (n * e - c) (take_ok ok k)
    rw [← sp, lt] at h1 h2
    have hx : c + (n * e - c) = n * e := by omega
    have m0 : (c + (n * e - c)) % e = 0 := by rw [hx]; exact Int.mul_emod_left n e
    have w1 : whoF ((e, c) :: r.drop (k + 1)) (n * e - c) = some 0 := by
      unfold whoF
      rw [if_pos m0]
    rw [w1] at h1
    refine ⟨?_, ?_, ?_⟩
    · rw [pe, h1]
      simp
    · rw [pe]
      show (takenF r _)[k]? = some n
      rw [taken_get r _ k e c hec, h2, hx, Int.mul_ediv_cancel _ (by omega)]
    · rw [pe]
      have : 1 * e ≤ n * e := Int.mul_le_mul_of_nonneg_right hn (by omega)
      have := pass_ge (r.take k) (n * e - c) (take_ok ok k) (by omega)
      omega
theorem piece_lt (r : List (Int × Int)) (ok : ∀ ec ∈ r, okT ec) (o : Option Nat) (ho : ∀ j, o = some j → j < r.length) (n : Int) : pieceF r o n < pieceF r o (n + 1) := by
  cases o with
  | none => exact pass_lt r _ _ ok (by omega)
  | some k =>
    have hk := ho k rfl
    obtain ⟨⟨e, c⟩, hec⟩ : ∃ ec, r[k]? = some ec := ⟨_, List.getElem?_eq_getElem hk⟩
    have hok : okT (e, c) := ok _ (List.mem_of_getElem? hec)
    unfold okT at hok
    simp at hok
    unfold pieceF
    simp only [hec]
    apply pass_lt _ _ _ (take_ok ok k)
    rw [Int.add_mul]
    omega
theorem slot_lt {r : List (Int × Int)} {o : Option Nat} (ho : ∀ j, o = some j → j < r.length) : slot r o < r.length + 1 := by
  cases o with
  | none => simp [slot]
  | some j => have := ho j rfl; simp [slot]; omega
/-- just ahead of a piece that o takes one fewer -/
theorem taken_ahead (r : List (Int × Int)) (ok : ∀ ec ∈ r, okT ec) (o : Option Nat) (ho : ∀ j, o = some j → j < r.length) (p n : Int) (hw : whoF r p = o) (ht : (takenF r p)[slot r o]? = some n) : (takenF r (p - 1))[slot r o]? = some (n - 1) := by
  have hl : slot r o < (takenF r (p - 1)).length := by rw [len_takenF]; exact slot_lt ho
  have h := taken_step r (p - 1) (slot r o) _ ok (List.getElem?_eq_getElem hl)
  rw [show p - 1 + 1 = p by omega, hw, if_pos rfl, ht] at h
  rw [List.getElem?_eq_getElem hl]
  have := Option.some.inj h
  congr 1
  omega
theorem sum_taken : ∀ (r : List (Int × Int)) (n : Int), (takenF r n).sum = n
  | [], n => by simp [takenF]
  | (e, c) :: r, n => by
    unfold takenF
    rw [List.sum_cons, sum_taken r]
    omega
theorem taken_nonneg : ∀ (r : List (Int × Int)) (n : Int), (∀ ec ∈ r, okT ec) → 0 ≤ n → ∀ x ∈ takenF r n, 0 ≤ x
  | [], n, _, hn => by simp [takenF]; exact hn
  | (e, c) :: r, n, ok, hn => by
    have h := ok (e, c) (by simp)
    unfold okT at h
    simp at h
    have d0 : 0 ≤ (c + n) / e := Int.ediv_nonneg (by omega) (by omega)
    have d1 : (c + n) / e ≤ n := by
      have : (c + n) / e < n + 1 := by
        apply Int.ediv_lt_of_lt_mul (by omega)
        have : n * 2 ≤ n * e := Int.mul_le_mul_of_nonneg_left (by omega) hn
        rw [Int.add_mul]
        omega
      omega
    intro x hx
    unfold takenF at hx
    rcases List.mem_cons.mp hx with e | hx
    · rw [e]; exact d0
    · exact taken_nonneg r _ (fun y hy => ok y (by simp [hy])) (by omega) x hx
theorem who_ok (r : List (Int × Int)) (n : Int) : ∀ j, whoF r n = some j → j < r.length := fun j h => whoF_lt r n j h
/-- the told piece of whom takes it is that piece -/
theorem piece_back (r : List (Int × Int)) (ok : ∀ ec ∈ r, okT ec) (n v : Int) (hv : (takenF r n)[slot r (whoF r n)]? = some v) : pieceF r (whoF r n) v = n := by
  cases hw : whoF r n with
  | none =>
    rw [hw] at hv
    have hv : (takenF r n)[r.length]? = some v := hv
    rw [taken_last] at hv
    have := Option.some.inj hv
    subst this
    have := pass_come r r.length n ok (Nat.le_refl _) (fun j hj => by rw [hw] at hj; cases hj)
    rw [List.take_length] at this
    exact this
  | some k =>
    have hk := whoF_lt r n k hw
    obtain ⟨⟨e, c⟩, hec⟩ : ∃ ec, r[k]? = some ec := ⟨_, List.getElem?_eq_getElem hk⟩
    have hok : okT (e, c) := ok _ (List.mem_of_getElem? hec)
    unfold okT at hok
    simp at hok
    have hre : reach r n k := fun j hj => by rw [hw] at hj; have := Option.some.inj hj; omega
    have wa := (who_at r n k e c hec hre).mp hw
    rw [hw] at hv
    have hv : (takenF r n)[k]? = some v := hv
    rw [taken_get r n k e c hec] at hv
    have := Option.some.inj hv
    subst this
    unfold pieceF
    simp only [hec]
    have d1 := Int.mul_ediv_add_emod (c + comeF r k n) e
    rw [wa] at d1
    rw [show (c + comeF r k n) / e * e - c = comeF r k n by rw [Int.mul_comm]; omega]
    exact pass_come r k n ok (by omega) hre
end TK

set_option maxRecDepth 100000
/-! enumerate over a tuple, as a rule of the layer -/
namespace TK
open PySem PySem.Spec PyProof.Rows L2

/-- the iterator that a tuple gives -/
def tupIt (t : Addr) : Obj := { cls := .type "tuple_iterator", data := .fields #[.ref t, .int 0 0] }
/-- a new enumerate over the iterator at a -/
def enumOf (a : Addr) : Obj := { cls := .type "enumerate", data := .fields #[.none, .bool false, .ref a, rawInt 0, .none, .none] }

set_option maxHeartbeats 2000000 in
theorem newEnumT (t : Addr) (vs : Array Value) (m : Nat) (dd : Option Addr) (ss : Array (Option Value)) :
    Meets (Builtin.«enumerate.__new__» ⟨[.type "enumerate", .ref t], []⟩) (fun _ R s =>
      s.heap.get? t = some { cls := .type "tuple", dict := dd, data := .seq vs m, slots := ss } ∧
      R (.ok (.ret (.ref (s.heap.push (tupIt t)).objs.size))) { s with heap := (s.heap.push (tupIt t)).push (enumOf s.heap.objs.size) }) :=
  .of_wp fun prog w A R s hyp => by
    obtain ⟨hp, g, d, tk, os⟩ := s
    obtain ⟨ht, hR⟩ := hyp
    have isSub := sub_enumerate
    have isT : Heap.IsTuple (Shared.heap ⟨hp, g, d, tk, os⟩) t vs := ⟨_, ht, rfl, m, rfl⟩
    wp_walk using AutoSeq1.wpAny_loadPart' ht
    refine wpAny_stack_any fun st => wpAny_pure ?_
    split
    · rename_i c _ _ _ _ _
      cases (c == Value.type "enumerate") <;> (wp_walk using AutoSeq1.wpAny_loadPart' ht, wpAny_pyIter_tuple isT; exact ⟨_, rfl, hR⟩)
    · wp_walk using AutoSeq1.wpAny_loadPart' ht, wpAny_pyIter_tuple isT
      exact ⟨_, rfl, hR⟩

section
variable {prog : Program} {w : World} {A : Around} {E : Value → Shared → Prop} {s : Shared}
theorem callEnumT {t : Addr} {vs : Array Value} {Q : Value → Shared → Prop} (ht : s.heap.IsTuple t vs)
    (k : ∀ h', IsEnum h' (s.heap.objs.size + 1) s.heap.objs.size 0 .none → h'.IsTupleIter s.heap.objs.size t 0 →
      (∀ b o, s.heap.get? b = some o → h'.get? b = some o) → Q (.ref (s.heap.objs.size + 1)) { s with heap := h' }) :
    wpAny (model prog w) A (call (.type "enumerate") [.ref t]) Q E s := by
  obtain ⟨⟨cl, dd, dt, ss⟩, e0, e1, m, e2⟩ := ht
  replace e1 : cl = .type "tuple" := e1
  replace e2 : dt = .seq vs m := e2
  subst e1 e2
  refine callType_new F.called_enumerate (by decide) (F.typeCall_enumerate_1 _) (F.newCall_enumerate_1 _)
    (fun obj => F.args_object_init_2 obj _) F.entry_enumerate_new (newEnumT t vs m dd ss) ⟨e0, ?_⟩
  have sz : (s.heap.push (tupIt t)).objs.size = s.heap.objs.size + 1 := Heap.size_push ..
  show _ ∧ _
  rw [sz]
  have he : IsEnum ((s.heap.push (tupIt t)).push (enumOf s.heap.objs.size)) (s.heap.objs.size + 1) s.heap.objs.size 0 .none := by
    have q := Heap.get?_push_size (s.heap.push (tupIt t)) (o := enumOf s.heap.objs.size) rfl
    rw [sz] at q
    exact q
  exact ⟨⟨_, he, rfl⟩, k _ he ⟨_, Heap.get?_push_of_some _ (Heap.get?_push_size _ rfl), rfl, rfl⟩ fun b o x => Heap.get?_push_of_some _ (Heap.get?_push_of_some _ x)⟩

theorem nextEnumT_end {e it t : Addr} {i : Nat} {vs : Array Value} {old : Value} {Q : Option Value → Shared → Prop} (hh : A.handled = none)
    (he : IsEnum s.heap e it i old) (hi : s.heap.IsTupleIter it t i) (ht : s.heap.IsTuple t vs) (hx : vs[i]? = none)
    (k : ∀ h', Heap.ExtBut it s.heap h' → Q none { s with heap := h' }) : wpAny (model prog w) A (pyNext (.ref e)) Q E s := by
  have ty : s.TypeIs (.ref e) "enumerate" := ⟨_, he, rfl⟩
  unfold pyNext
  refine wpAny_bind (wpAny_attempt (wpAny_callSpecial?_slot (name := Str.ofString "__next__") ty F.slot_enumerate_next
    (wpAny_call_entry F.slot_enumerate_next ty F.entry_enumerate_next ?_ (F.args_enumerate_next_1 _))))
  show wpAny _ _ (field (.ref e) 2 >>= _) _ _ s
  refine wpAny_bind (wpAny_field he rfl (x := .ref it) rfl ?_)
  refine wpAny_bind (wpAny_nextOf_tuple_end hh hi ht hx fun h1 x eb xo => ?_)
  obtain ⟨o, ho, hc⟩ := xo
  exact wpAny_bind (wpAny_isInstance (T := "StopIteration") (b := true) ⟨o, ho, hc⟩ isSubtype_stop (wpAny_pure (k _ eb)))
end

/-- the tuple at a, each item in a new pair -/
def ItEt (K : PySem.W.Frag) (a : Addr) : It where
  go := fun i H => ∃ (xs : List V) (x : V), SqT K H a xs ∧ xs[i]? = some x
  yld := fun i H v H' => ∃ T x, v = .ref T ∧ H T = none ∧ H' = upd H T (.tup [.int (i : Nat), x]) ∧ ∀ xs, SqT K H a xs → xs[i]? = some x
  stop := fun i H => ∃ xs : List V, SqT K H a xs ∧ xs.length ≤ i

theorem turn_enumT {P : Program} {w : World} {K : PySem.W.Frag} {elts : List Expr} {kk : Nat} {tpos : Pos} (a e it : Addr) :
    Turn P w K (.Tuple elts kk tpos) (ItEt K a) [e, it] e (fun i h => (∃ old, IsEnum h e it ((i : Nat) : Int) old) ∧ h.IsTupleIter it a i ∧ e ≠ it ∧ a ≠ it ∧ a ≠ e) where
  mem := by simp
  obj := fun i h st b hb => by
    obtain ⟨⟨old, he⟩, ⟨o, ho, hc, hd⟩, _⟩ := st
    rcases (show b = e ∨ b = it by simpa using hb) with z | z
    · subst z
      exact ⟨_, he, fun v q => nomatch q⟩
    · subst z
      exact ⟨o, ho, fun v q => by rw [hd] at q; cases q⟩
  keep := fun i h h' st k => by
    obtain ⟨⟨old, he⟩, ⟨o, ho, r⟩, hne⟩ := st
    exact ⟨⟨old, k e (by simp) _ he⟩, ⟨o, k it (by simp) o ho, r⟩, hne⟩
  item := by
    intro X hP hw hK hc i pins s σ H E I hf st hg
    subst hP hw hK
    obtain ⟨⟨old, he⟩, hit, n1, n2, n3⟩ := st
    obtain ⟨xs, x, hq, hx⟩ := hg
    obtain ⟨its, rv, p, hz⟩ := I.tuple hq
    obtain ⟨u, hu, ru⟩ := rv.get hx
    have le : e < s.heap.objs.size := Heap.lt_size he
    have li : it < s.heap.objs.size := by
      obtain ⟨_, q, _⟩ := hit
      exact Heap.lt_size q
    have hil : i < its.toArray.size := by
      rw [List.size_toArray]
      exact (List.getElem?_eq_some_iff.mp hu).1
    refine wpAny_pyNext_enum_itemD (Draws.tuple (A := X.A.in1) (show X.A.in1.handled = none from I.ok.hd hc) it a n2 its.toArray) he ⟨hit, p⟩ hil n1 (fun z => ?_) fun y h' tk hy ho hs' hT hsz hk => ?_
    · rcases (show e = it ∨ e = a by simpa using z) with z | z
      · exact n1 z
      · exact n3 z.symm
    have ey : y = u := by
      have q1 : its[i]? = some y := by simpa using hy
      exact Option.some.inj (q1.symm.trans hu)
    subst ey
    refine ⟨_, rfl, wpAny_letOwnedTupleGo_enum (s := { s with heap := h', toks := tk + 1 }) ho fun h2 he' sb => ?_⟩
    have hT2 : h2.get? s.heap.objs.size = some { cls := .type "tuple", data := .seq #[.int i tk, y] } := (sb.2 _ (Nat.ne_of_gt le)).trans hT
    have new : ObjOk X.prog X.w (upd H s.heap.objs.size (.tup [.int (i : Nat), x])) h2 s.heap.objs.size (.tup [.int (i : Nat), x]) :=
      ⟨by show 2 ≤ sizeLine; decide, [.int i tk, y], .cons ⟨_, rfl⟩ (.cons ru .nil), ⟨_, hT2, rfl, _, rfl⟩⟩
    have I1 : Inv X pins σ (upd H s.heap.objs.size (.tup [.int (i : Nat), x])) { s with heap := h2, toks := tk + 1 } :=
      I.turnedNew (ch := [e, it]) (fun b ob hb q => (sb.2 b fun z => hb (by simp [z])).trans (hk b ob (fun z => hb (by simp [z])) (fun z => hb (by simp [z])) q)) hf (Nat.le_refl _) new
    refine ⟨.ref s.heap.objs.size, _, I1, rfl, ⟨_, x, rfl, I.hok.fresh (Nat.le_refl _), rfl, fun ys hy => by rw [I.tuple_inj hy hq]; exact hx⟩, ⟨⟨y, ?_⟩, ?_, n1, n2, n3⟩, fun b hb => ?_⟩
    · rw [show ((i + 1 : Nat) : Int) = (i : Int) + 1 by omega]
      exact he'
    · obtain ⟨o, ho, r⟩ := hs'.1
      exact ⟨o, (sb.2 it (Ne.symm n1)).trans ho, r⟩
    · have lb : b < s.heap.objs.size := by
        rcases (show b = e ∨ b = it by simpa using hb) with z | z
        · rw [z]; exact le
        · rw [z]; exact li
      rw [upd_ne (Nat.ne_of_lt lb)]
      exact (hf b hb).1
  done := by
    intro X hP hw hK hc i pins s σ H E I hf st hg
    subst hP hw hK
    obtain ⟨⟨old, he⟩, hit, n1, n2, n3⟩ := st
    obtain ⟨xs, hq, hx⟩ := hg
    obtain ⟨its, rv, p, hz⟩ := I.tuple hq
    obtain ⟨f0, f1, f2, f3, f4, f5⟩ := hf it (by simp)
    have hl := rv.length
    exact nextEnumT_end (I.ok.hd hc) he hit p (by simp; omega) fun h' eb => ⟨rfl, I.turned (t' := s.toks) (fun b o hb q => eb b o hb q) f0 f1 f3 f4 f5⟩
  self := fun A i s Q E st h => by
    obtain ⟨⟨_, he⟩, _⟩ := st
    exact wpAny_pyIter_enum he h

def iEnumT (K : PySem.W.Frag) (ta : TA) : TI := fun σ H R => ta σ H fun vs H1 => ∃ a xs, vs = [.ref a] ∧ SqT K H1 a xs ∧ R (ItEt K a) H1
theorem pi_enumT {X : Cx} {e : Expr} {ta : TA} {p pos tpos : Pos} {elts : List Expr} {kk : Nat} (hg : Gl X "enumerate") (hm : X.mg "enumerate" = none) (ha : PA X [e] ta)
    (hs : starEach [e] X.env = [(false, eval e X.env)] := by rfl) : PI X (.Tuple elts kk tpos) (.Call (.Name "enumerate" p) [e] [] pos) (iEnumT X.K ta) := by
  refine ⟨fun pins s σ H R I h => ?_⟩
  refine Call_ (ld_blt I hg hm boot_enumerate (PyProof.Rows.callWith_type1 (thn (ha.run pos pins s σ H _ I h) fun us s1 ⟨vs, H1, I1, r1, q1⟩ => ?_) hs rfl))
  obtain ⟨a, xs, ex, hq, q⟩ := q1
  subst ex
  cases r1 with
  | cons r rr =>
    cases rr
    cases r
    obtain ⟨its, rv, pt, hz⟩ := I1.tuple hq
    have la : a < s1.heap.objs.size := pt.lt
    refine callEnumT pt fun h' he hit hk => wpAny_pyIter_enum he ?_
    have I2 : Inv X pins σ H1 { s1 with heap := h' } := I1.kept (t' := s1.toks) hk
    refine ⟨s1.heap.objs.size + 1, [s1.heap.objs.size + 1, s1.heap.objs.size], _, _, H1, rfl, I2, turn_enumT a (s1.heap.objs.size + 1) s1.heap.objs.size,
      ⟨⟨.none, he⟩, hit, Nat.succ_ne_self _, Nat.ne_of_lt la, Nat.ne_of_lt (Nat.lt_succ_of_lt la)⟩, fun b hb => ?_, q⟩
    have hle : s1.heap.objs.size ≤ b := by
      rcases (show b = s1.heap.objs.size + 1 ∨ b = s1.heap.objs.size by simpa using hb) with z | z
      · rw [z]; exact Nat.le_add_right _ _
      · rw [z]; exact Nat.le_refl _
    exact I1.fpOk hle (I1.hok.fresh hle)
end TK

set_option maxRecDepth 100000
/-! xs.count(y), flat things -/
namespace TK
open PySem PySem.Spec PyProof.Rows L2
theorem count_eqU {x : V} : ∀ {xs : List V} {us : List Value}, Vals xs us → xs.all flatV = true → us.countP (eqU x) = xs.countP fun y => eqV y x
  | _, _, .nil, _ => rfl
  | y :: xs, u :: us, .cons r t, f => by
    rw [List.all_cons, Bool.and_eq_true] at f
    rw [List.countP_cons, List.countP_cons, count_eqU t f.2, eqU_of r f.1]
section
variable {X : Cx}
def rCntF (K : PySem.W.Frag) : V → List V → Hp → VK → Prop := fun x xs H Q => ∃ (p : Addr) (ys : List V) (y : V), x = .ref p ∧ xs = [y] ∧ SqL K H p ys ∧ flatV y = true ∧ ys.all flatV = true ∧ Q (.int ((ys.countP fun z => eqV z y : Nat) : Int)) H
theorem mt_countF : MtR X "list.count" (rCntF X.K) := by
  intro pins s σ H x xs v us Q I rx rxs h
  obtain ⟨p, ys, y, rfl, rfl, hs, fy, fs, q⟩ := h
  cases rx
  obtain ⟨u, rfl, ru⟩ := rxs.one
  obtain ⟨its, rv, ⟨⟨cls, dd, data, sl⟩, n, ho, hc, hdn, hd⟩, hlen⟩ := I.list hs
  simp only at hc hd
  subst hc hd
  refine call_meets PySem.F.slot_list_count ⟨_, ho, rfl⟩ PySem.F.entry_list_count (PySem.F.args_list_count_2 _ _)
    (SeqAt.list_countAt p its.toArray n dd sl u (eqU y)) ⟨ho, fun z hz => mem_eqAt ru fy rv fs z (by simpa using hz), ?_⟩
  refine ⟨.int ((ys.countP fun z => eqV z y : Nat) : Int), H, I.tok _, ⟨s.toks, ?_⟩, q⟩
  have e : its.toArray.toList.countP (eqU y) = ys.countP fun z => eqV z y := count_eqU rv fs
  rw [← e]
end
end TK

set_option maxRecDepth 100000
/-! heaps: rows, bags -/
namespace TK
open PySem PySem.Spec PyProof.Rows L2

theorem same_new {H : Hp} {p : Addr} {o : HO} (h : H p = none) : Same H (upd H p o) := fun b x e => by
  rw [upd_ne (ne_of_none e h)]
  exact e
/-- a new object's own changes leave what stood -/
theorem same_upd_new {H H' : Hp} {p : Addr} {o : HO} (h : H p = none) (s : Same H H') : Same H (upd H' p o) := fun b x e => by
  rw [upd_ne (ne_of_none e h)]
  exact s b x e
def ofO : Option Nat → V
  | none => .non
  | some k => .int (k : Nat)
theorem ofO_inj : ∀ {a b : Option Nat}, ofO a = ofO b → a = b
  | none, none, _ => rfl
  | none, some _, h => nomatch h
  | some _, none, h => nomatch h
  | some a, some b, h => by
    have := V.int.inj h
    congr 1
    omega
theorem scal_ofO : ∀ (a b : Option Nat), scal (ofO a) (ofO b) = true
  | none, none => rfl
  | none, some _ => rfl
  | some _, none => rfl
  | some _, some _ => rfl
theorem flat_ofO : ∀ (a : Option Nat), flatV (ofO a) = true
  | none => rfl
  | some _ => rfl
theorem eqV_ofO (a b : Option Nat) : eqV (ofO a) (ofO b) = decide (a = b) := by
  cases a with
  | none => cases b <;> rfl
  | some x =>
    cases b with
    | none => rfl
    | some y =>
      show ((x : Int) == (y : Int)) = decide (some x = some y)
      rw [Bool.eq_iff_iff, beq_iff_eq, decide_eq_true_iff]
      constructor
      · intro h; congr 1; omega
      · intro h; have := Option.some.inj h; omega

/-- a row: a tuple of pairs -/
def RowAt (H : Hp) (p : Addr) (r : List (Int × Int)) : Prop :=
  ∃ ts : List Addr, H p = some (.tup (ts.map V.ref)) ∧ ts.length = r.length ∧ ∀ (i : Nat) (t : Addr) (ec : Int × Int), ts[i]? = some t → r[i]? = some ec → H t = some (.tup [.int ec.1, .int ec.2])
/-- every tuple stands as it stood -/
def TupS (H H' : Hp) : Prop := ∀ a xs, H a = some (.tup xs) → H' a = some (.tup xs)
theorem tupS_of {H H' : Hp} (s : Same H H') : TupS H H' := fun a xs h => s a _ h
theorem TupS.trans {H H1 H2 : Hp} (a : TupS H H1) (b : TupS H1 H2) : TupS H H2 := fun c o h => b c o (a c o h)
theorem RowAt.keep {H H' : Hp} {p : Addr} {r : List (Int × Int)} (h : RowAt H p r) (k : TupS H H') : RowAt H' p r := by
  obtain ⟨ts, h1, h2, h3⟩ := h
  exact ⟨ts, k _ _ h1, h2, fun i t ec a b => k _ _ (h3 i t ec a b)⟩

/-- a bag of draws -/
def Bag (H : Hp) (b : Addr) : Prop :=
  ∃ (d : Addr) (ds : List Int) (c : Int), H b = some (.lst [.ref d, .int c]) ∧ H d = some (.lst (ds.map V.int)) ∧ ds.length = 400 ∧ (∀ x ∈ ds, 0 ≤ x ∧ x < 1000) ∧ 0 ≤ c
/-- all but the object at b stands as it stood -/
def Kb (b : Addr) (H H' : Hp) : Prop := ∀ a o, a ≠ b → H a = some o → H' a = some o
theorem Kb.refl (b : Addr) (H : Hp) : Kb b H H := fun _ _ _ h => h
theorem Kb.trans {b : Addr} {H H1 H2 : Hp} (x : Kb b H H1) (y : Kb b H1 H2) : Kb b H H2 := fun a o n h => y a o n (x a o n h)
theorem Kb.of {b : Addr} {H H' : Hp} (s : Same H H') : Kb b H H' := fun a o _ h => s a o h
theorem Kb.tup {b : Addr} {H H' : Hp} (k : Kb b H H') (hb : Bag H b) : TupS H H' := fun a xs h => by
  obtain ⟨d, ds, c, h1, _⟩ := hb
  exact k a _ (ne_of h h1 (by intro z; cases z)) h
theorem Bag.same {b : Addr} {H H' : Hp} (hb : Bag H b) (s : Same H H') : Bag H' b := by
  obtain ⟨d, ds, c, h1, h2, h3⟩ := hb
  exact ⟨d, ds, c, s _ _ h1, s _ _ h2, h3⟩
theorem Bag.keep {b b' : Addr} {H H' : Hp} (hb : Bag H b) (k : Kb b H H') (hn : Bag H' b) (hb' : Bag H b') : Bag H' b' := by
  by_cases e : b' = b
  · rw [e]; exact hn
  · obtain ⟨d, ds, c, h1, h2, h3, h4, h5⟩ := hb'
    obtain ⟨d0, ds0, c0, g1, _⟩ := hb
    have nd : d ≠ b := ne_of h2 g1 (by
      intro z
      have z1 : ds.map V.int = [.ref d0, .int c0] := HO.lst.inj z
      have z2 := congrArg List.length z1
      rw [List.length_map, h3] at z2
      simp at z2)
    exact ⟨d, ds, c, k _ _ e h1, k _ _ nd h2, h3, h4, h5⟩
theorem Kb.free {b l : Addr} {H H' : Hp} (k : Kb b H H') (hn : Bag H' b) (h : H' l = none) : H l = none := by
  cases q : H l with
  | none => rfl
  | some o =>
    by_cases e : l = b
    · obtain ⟨d, ds, c, h1, _⟩ := hn
      rw [e, h1] at h
      cases h
    · rw [k l o e q] at h
      cases h
/-- a list whose first is no reference is no bag -/
theorem ne_bag {H : Hp} {a b : Addr} {xs : List V} (h : H a = some (.lst xs)) (hb : Bag H b) (hx : ∀ d, xs[0]? ≠ some (.ref d)) : a ≠ b := by
  obtain ⟨d, ds, c, h1, _⟩ := hb
  refine ne_of h h1 fun z => ?_
  have z1 : xs = [.ref d, .int c] := HO.lst.inj z
  exact hx d (by rw [z1]; rfl)
theorem ne_bag2 {H : Hp} {a b : Addr} {xs : List V} (h : H a = some (.lst xs)) (hb : Bag H b) (hx : ∀ d, xs[1]? ≠ some (.int d)) : a ≠ b := by
  obtain ⟨d, ds, c, h1, _⟩ := hb
  refine ne_of h h1 fun z => ?_
  have z1 : xs = [.ref d, .int c] := HO.lst.inj z
  exact hx c (by rw [z1]; rfl)
theorem sq_of {K : PySem.W.Frag} {H : Hp} {a : Addr} {xs : List V} (h : H a = some (.lst xs)) : SqL K H a xs := .inl (.inl h)
theorem st_of {K : PySem.W.Frag} {H : Hp} {a : Addr} {xs : List V} (h : H a = some (.tup xs)) : SqT K H a xs := .inl (.inl h)
/-- the script stands, whatever a bag does -/
theorem Kb.seq {K : PySem.W.Frag} {b a : Addr} {H H' : Hp} {ns : List Int} (k : Kb b H H') (hb : Bag H b) (h : SqL K H a (ns.map V.int)) : SqL K H' a (ns.map V.int) := by
  rcases h with (h | ⟨o, h⟩) | h
  · exact .inl (.inl (k _ _ (ne_bag h hb (by intro d; rw [List.getElem?_map]; cases ns[0]? <;> simp)) h))
  · obtain ⟨d, ds, c, h1, _⟩ := hb
    exact .inl (.inr ⟨o, k _ _ (ne_of h h1 (by intro z; cases z)) h⟩)
  · exact .inr h
theorem Bag.upd_refs {b D : Addr} {H : Hp} {bs : List Addr} {o : HO} (hb : Bag H b) (h : H D = some (.lst (bs.map V.ref))) : Bag (upd H D o) b := by
  obtain ⟨d, ds, c, h1, h2, h3, h4⟩ := hb
  have n1 : b ≠ D := ne_of h1 h (by
    intro z
    have z1 : [V.ref d, V.int c] = bs.map V.ref := HO.lst.inj z
    have z2 : (bs.map V.ref)[1]? = some (.int c) := by rw [← z1]; rfl
    rw [List.getElem?_map] at z2
    cases q : bs[1]? <;> rw [q] at z2 <;> cases z2)
  have n2 : d ≠ D := ne_of h2 h (by
    intro z
    have z1 : ds.map V.int = bs.map V.ref := HO.lst.inj z
    have z2 : (ds.map V.int)[0]? = (bs.map V.ref)[0]? := by rw [z1]
    rw [List.getElem?_map, List.getElem?_map, List.getElem?_eq_getElem (by omega)] at z2
    cases q : bs[0]? <;> rw [q] at z2 <;> cases z2)
  exact ⟨d, ds, c, by rw [upd_ne n1]; exact h1, by rw [upd_ne n2]; exact h2, h3, h4⟩
theorem yesT {σ : L2.St} {H : Hp} {A B : Hp → Prop} (h : A H) : tYes σ H (fun b H3 => if b = true then A H3 else B H3) := by
  show if true = true then A H else B H
  rw [if_pos rfl]
  exact h
/-- the walk of enumerate over a tuple -/
theorem walk_enumT {K : PySem.W.Frag} {a : Addr} {xs : List V} : Walk (ItEt K a) xs.length (fun H => SqT K H a xs) (YPair (fun i => some (.int (i : Nat))) (fun i => xs[i]?)) := by
  refine ⟨fun i H hi h => ⟨xs, xs[i], h, List.getElem?_eq_getElem hi⟩, fun H h => ⟨xs, h, Nat.le_refl _⟩, fun i H v H' hi h y => ?_⟩
  obtain ⟨T, x, e1, e2, e3, e4⟩ := y
  exact ⟨T, _, x, e1, e2, e3, rfl, e4 xs h⟩
end TK

set_option maxRecDepth 100000
/-! lists compared, cut, set -/
namespace TK
open PySem PySem.Spec PyProof.Rows L2
theorem lay_ints : ∀ ns : List Int, PyData.canLayAll0 (ns.map PyData.int) = true
  | [] => rfl
  | n :: r => by
    show (PyData.canLay0 (.int n) && PyData.canLayAll0 (r.map PyData.int)) = true
    rw [lay_ints r]
    rfl
theorem deep_ints : ∀ ns : List Int, PyData.depthAll (ns.map PyData.int) = 0
  | [] => rfl
  | n :: r => by
    show max (PyData.depth (.int n)) (PyData.depthAll (r.map PyData.int)) = 0
    rw [deep_ints r]
    rfl
theorem shp_ints (ns : List Int) : SeqAt.shaped (.list (ns.map PyData.int)) = true := by
  unfold SeqAt.shaped
  rw [show PyData.canLay0 (.list (ns.map PyData.int)) = PyData.canLayAll0 (ns.map PyData.int) from rfl, lay_ints,
    show PyData.depth (.list (ns.map PyData.int)) = PyData.depthAll (ns.map PyData.int) + 1 from rfl, deep_ints]
  decide
theorem all_ints {K : PySem.W.Frag} {H : Hp} : ∀ ns : List Int, DpAll K H (ns.map V.int) (ns.map PyData.int)
  | [] => .nil
  | n :: r => .cons (.int n) (all_ints r)
theorem dp_ints {K : PySem.W.Frag} {H : Hp} {a : Addr} {ns : List Int} (h : SqL K H a (ns.map V.int)) : Dp K H (.ref a) (.list (ns.map PyData.int)) := .lst h (all_ints ns)
theorem eqv_ints : ∀ (ns ms : List Int), PyData.eqvAll (ns.map PyData.int) (ms.map PyData.int) = decide (ns = ms)
  | [], [] => rfl
  | [], _ :: _ => rfl
  | _ :: _, [] => rfl
  | n :: r, m :: q => by
    show ((n == m) && PyData.eqvAll (r.map PyData.int) (q.map PyData.int)) = _
    rw [eqv_ints r q, Bool.eq_iff_iff]
    simp
theorem eqv_list (ns ms : List Int) : PyData.eqv (.list (ns.map PyData.int)) (.list (ms.map PyData.int)) = decide (ns = ms) := by
  rw [PyData.eqv]
  exact eqv_ints ns ms
/-- two equal lists of ints, != -/
theorem ne_ints {K : PySem.W.Frag} {H : Hp} {a b : Addr} {ns : List Int} {Q : VK} (ha : SqL K H a (ns.map V.int)) (hb : SqL K H b (ns.map V.int)) (q : Q (.bl false) H) : rNeD K (.ref a) (.ref b) H Q := by
  refine ⟨_, _, dp_ints ha, dp_ints hb, shp_ints ns, shp_ints ns, ?_⟩
  rw [eqv_list, decide_eq_true rfl]
  exact q
theorem eq_ints {K : PySem.W.Frag} {H : Hp} {a b : Addr} {ns : List Int} {Q : VK} (ha : SqL K H a (ns.map V.int)) (hb : SqL K H b (ns.map V.int)) (q : Q (.bl true) H) : rEqD K (.ref a) (.ref b) H Q := by
  refine ⟨_, _, dp_ints ha, dp_ints hb, shp_ints ns, shp_ints ns, ?_⟩
  rw [eqv_list, decide_eq_true rfl]
  exact q
theorem cut_to {xs : List V} {m : Int} {k : Nat} (h : m = (k : Int)) (hk : k ≤ xs.length) : cutV xs none (some m) = xs.take k := by
  subst h
  unfold cutV
  rw [HT.sIx_none, HT.sIx_nat, List.drop_zero, Nat.sub_zero, Nat.min_eq_left hk]
theorem cut_init (xs : List V) : cutV xs none (some (-1)) = xs.dropLast := by
  unfold cutV
  rw [HT.sIx_none, List.drop_zero, Nat.sub_zero, List.dropLast_eq_take]
  congr 1
  show (if (-1 : Int) < 0 then ((-1 : Int) + (xs.length : Int)).toNat else min (-1 : Int).toNat xs.length) = xs.length - 1
  rw [if_pos (by decide)]
  omega
theorem mix_get {α : Type} {A B : List α} {i : Nat} (hA : i ≤ A.length) : (A.take i ++ B.drop i)[i]? = B[i]? := by
  have h : (A.take i).length = i := by rw [List.length_take]; omega
  rw [List.getElem?_append_right (by omega), h, Nat.sub_self, List.getElem?_drop, Nat.add_zero]
theorem mix_set {α : Type} {A B : List α} {i : Nat} {x : α} (hx : A[i]? = some x) (hl : A.length = B.length) : (A.take i ++ B.drop i).set i x = A.take (i + 1) ++ B.drop (i + 1) := by
  have hi : i < A.length := (List.getElem?_eq_some_iff.mp hx).1
  have h : (A.take i).length = i := by rw [List.length_take]; omega
  rw [List.set_append_right i x (by omega), h, Nat.sub_self, List.take_add_one, hx, List.append_assoc]
  congr 1
  rw [List.drop_eq_getElem_cons (show i < B.length by omega)]
  rfl
theorem mix_same {α : Type} {A B : List α} {i : Nat} (hx : A[i]? = B[i]?) (hi : i < A.length) (hl : A.length = B.length) : A.take i ++ B.drop i = A.take (i + 1) ++ B.drop (i + 1) := by
  rw [List.take_add_one, List.append_assoc, hx, List.getElem?_eq_getElem (show i < B.length by omega), List.drop_eq_getElem_cons (show i < B.length by omega)]
  rfl
theorem map_set (L : List Int) (i : Nat) (x : Int) : (L.map V.int).set i (.int x) = (L.set i x).map V.int := by
  rw [List.map_set]
theorem ixN_nat {n i : Nat} {z : Int} (h : z = (i : Int)) (hi : i < n) : ixN n z = some i := by
  subst h
  unfold ixN
  rw [if_pos (by omega), if_pos (by omega), Int.toNat_natCast]
theorem Bag.upd_ints {b D : Addr} {H : Hp} {ms : List Int} {o : HO} (hb : Bag H b) (h : H D = some (.lst (ms.map V.int))) (hl : ms.length < 400) : Bag (upd H D o) b := by
  obtain ⟨d, ds, c, h1, h2, h3, h4⟩ := hb
  have n1 : b ≠ D := ne_of h1 h (by
    intro z
    have z1 : [V.ref d, V.int c] = ms.map V.int := HO.lst.inj z
    have z2 : (ms.map V.int)[0]? = some (.ref d) := by rw [← z1]; rfl
    rw [List.getElem?_map] at z2
    cases q : ms[0]? <;> rw [q] at z2 <;> cases z2)
  have n2 : d ≠ D := ne_of h2 h (by
    intro z
    have z1 : ds.map V.int = ms.map V.int := HO.lst.inj z
    have z2 := congrArg List.length z1
    rw [List.length_map, List.length_map] at z2
    omega)
  exact ⟨d, ds, c, by rw [upd_ne n1]; exact h1, by rw [upd_ne n2]; exact h2, h3, h4⟩
theorem tIf_at {σ : L2.St} {H : Hp} {Q : VK} {tc : TT} {ta tb : TE} {v : V} (h : Q v H)
    (hc : ∃ b : Bool, (∀ R : Bool → Hp → Prop, R b H → tc σ H R) ∧ (b = true → ∀ R : VK, R v H → ta σ H R) ∧ (b = false → ∀ R : VK, R v H → tb σ H R)) : tIf tc ta tb σ H Q := by
  obtain ⟨b, h1, h2, h3⟩ := hc
  refine h1 _ ?_
  cases b with
  | true =>
    show if true = true then ta σ H Q else tb σ H Q
    rw [if_pos rfl]
    exact h2 rfl Q h
  | false =>
    show if false = true then ta σ H Q else tb σ H Q
    rw [if_neg Bool.false_ne_true]
    exact h3 rfl Q h
theorem lst_get {ns : List Int} {i : Nat} {v : Int} (h : ns[i]? = some v) : atI (ns.map V.int) (i : Int) = some (.int v) := at_of rfl (by rw [List.getElem?_map, h]; rfl)
theorem row0 {H : Hp} {t : Addr} (h : H t = some (.tup [])) : RowAt H t [] := ⟨[], h, rfl, fun i t ec h => nomatch h⟩
theorem row1 {H : Hp} {t t1 : Addr} {e c : Int} (h : H t = some (.tup [.ref t1])) (h1 : H t1 = some (.tup [.int e, .int c])) : RowAt H t [(e, c)] :=
  ⟨[t1], h, rfl, fun i t ec a b => by
    cases i with
    | zero => cases a; cases b; exact h1
    | succ i => simp at a⟩
theorem row2 {H : Hp} {t t1 t2 : Addr} {e c e' c' : Int} (h : H t = some (.tup [.ref t1, .ref t2])) (h1 : H t1 = some (.tup [.int e, .int c])) (h2 : H t2 = some (.tup [.int e', .int c'])) : RowAt H t [(e, c), (e', c')] :=
  ⟨[t1, t2], h, rfl, fun i t ec a b => by
    cases i with
    | zero => cases a; cases b; exact h1
    | succ i =>
      cases i with
      | zero => cases a; cases b; exact h2
      | succ i => simp at a⟩
/-- how far a piece has come -/
def TkSt (r : List (Int × Int)) (n : Int) (i : Nat) (o : Option Nat) : Prop := (o = none ∧ reach r n i) ∨ ∃ j, o = some j ∧ j < i ∧ whoF r n = some j
theorem TkSt.done {r : List (Int × Int)} {n : Int} {o : Option Nat} (h : TkSt r n r.length o) : o = whoF r n := by
  rcases h with ⟨rfl, h⟩ | ⟨j, rfl, _, h⟩
  · cases k : whoF r n with
    | none => rfl
    | some j =>
      have := whoF_lt r n j k
      have := h j k
      omega
  · exact h.symm
/-- the row's numbers, counted among what is seen -/
def numF (r : List (Int × Int)) (os : List (Option Nat)) : List Int :=
  (List.range r.length).map (fun (j : Nat) => ((os.countP fun x => decide (x = some j) : Nat) : Int)) ++ [((os.countP fun x => decide (x = none) : Nat) : Int)]
theorem num_taken (r : List (Int × Int)) (ok : ∀ ec ∈ r, okT ec) (m : Nat) : numF r (seenF r m) = takenF r (m : Int) := by
  apply List.ext_getElem?
  intro i
  unfold numF
  rcases Nat.lt_trichotomy i r.length with h | h | h
  · rw [List.getElem?_append_left (by simpa using h), List.getElem?_map, List.getElem?_range h]
    have := taken_count r ok (some i) (fun j hj => by cases hj; exact h) m
    exact this.symm
  · rw [List.getElem?_append_right (by simp; omega)]
    have := taken_count r ok none (fun j hj => nomatch hj) m
    simp only [List.length_map, List.length_range, h, Nat.sub_self, List.getElem?_cons_zero]
    exact this.symm
  · rw [List.getElem?_eq_none (by simp; omega), List.getElem?_eq_none (by rw [len_takenF]; omega)]
end TK

namespace TK
/-- lowest terms -/
def low (t b : Nat) : Nat × Nat := (t / Nat.gcd t b, b / Nat.gcd t b)
def partsN : List Nat → Nat → Nat → List (Nat × Nat)
  | [], t, b => [low t b]
  | e :: r, t, b => low t (b * e) :: partsN r (t * (e - 1)) (b * e)
def evs (r : List (Int × Int)) : List Nat := r.map fun ec => ec.1.toNat
def goodN : List Nat → Nat → Nat → Nat → Prop
  | [], _, _, _ => True
  | e :: es, t, b, n => (low t (b * e)).2 ∣ n ∧ goodN es (t * (e - 1)) (b * e) n
def lcmF (l q : Nat) : Nat := l / Nat.gcd l q * q
def roundN (ps : List (Nat × Nat)) (l : Nat) : Nat := ps.foldl (fun l q => lcmF l q.2) l

theorem low_mul (t b : Nat) : (low t b).1 * Nat.gcd t b = t ∧ (low t b).2 * Nat.gcd t b = b :=
  ⟨Nat.div_mul_cancel (Nat.gcd_dvd_left t b), Nat.div_mul_cancel (Nat.gcd_dvd_right t b)⟩
theorem low_pos {t b : Nat} (hb : 0 < b) : 0 < (low t b).2 := by
  have h := (low_mul t b).2
  rcases Nat.eq_zero_or_pos (low t b).2 with z | z
  · rw [z, Nat.zero_mul] at h
    omega
  · exact z
theorem low_cop {t b : Nat} (hb : 0 < b) : Nat.Coprime (low t b).1 (low t b).2 := Nat.coprime_div_gcd_div_gcd (Nat.gcd_pos_of_pos_right t hb)
/-- b divides n * t just where the bottom divides n -/
theorem low_dvd {t b n : Nat} (hb : 0 < b) : b ∣ n * t ↔ (low t b).2 ∣ n := by
  have hg : 0 < Nat.gcd t b := Nat.gcd_pos_of_pos_right t hb
  obtain ⟨h1, h2⟩ := low_mul t b
  constructor
  · intro h
    have h3 : (low t b).2 * Nat.gcd t b ∣ n * (low t b).1 * Nat.gcd t b := by
      rw [h2, Nat.mul_assoc, h1]
      exact h
    have h4 := Nat.dvd_of_mul_dvd_mul_right hg h3
    exact (low_cop hb).symm.dvd_of_dvd_mul_right h4
  · rintro ⟨k, rfl⟩
    refine ⟨k * (low t b).1, ?_⟩
    calc (low t b).2 * k * t = (low t b).2 * k * ((low t b).1 * Nat.gcd t b) := by rw [h1]
      _ = (low t b).2 * Nat.gcd t b * (k * (low t b).1) := by
        rw [Nat.mul_assoc, Nat.mul_assoc, ← Nat.mul_assoc k, Nat.mul_comm (k * (low t b).1)]
      _ = b * (k * (low t b).1) := by rw [h2]
theorem low_share {t b n y : Nat} (hb : 0 < b) (h : y * b = n * t) : y = n / (low t b).2 * (low t b).1 := by
  have hd : (low t b).2 ∣ n := (low_dvd hb).mp ⟨y, by rw [← h, Nat.mul_comm]⟩
  have hp := low_pos (t := t) hb
  have hg : 0 < Nat.gcd t b := Nat.gcd_pos_of_pos_right t hb
  obtain ⟨h1, h2⟩ := low_mul t b
  obtain ⟨k, rfl⟩ := hd
  rw [Nat.mul_div_cancel_left _ hp]
  have h3 : y * ((low t b).2 * Nat.gcd t b) = (low t b).2 * k * ((low t b).1 * Nat.gcd t b) := by rw [h1, h2]; exact h
  have h4 : (low t b).2 * Nat.gcd t b * y = (low t b).2 * Nat.gcd t b * (k * (low t b).1) := by
    rw [Nat.mul_comm _ y, h3, Nat.mul_assoc, Nat.mul_assoc, ← Nat.mul_assoc k, Nat.mul_comm (k * (low t b).1)]
  exact Nat.eq_of_mul_eq_mul_left (Nat.mul_pos hp hg) h4
/-- two fractions in lowest terms are one where they are worth the same -/
theorem low_eq {t b t' b' : Nat} (hb : 0 < b) (hb' : 0 < b') (h : t * b' = t' * b) : low t b = low t' b' := by
  have hg : 0 < Nat.gcd t b := Nat.gcd_pos_of_pos_right t hb
  have hg' : 0 < Nat.gcd t' b' := Nat.gcd_pos_of_pos_right t' hb'
  obtain ⟨h1, h2⟩ := low_mul t b
  obtain ⟨h3, h4⟩ := low_mul t' b'
  have c1 := low_cop (t := t) hb
  have c2 := low_cop (t := t') hb'
  have key : (low t b).1 * (low t' b').2 = (low t' b').1 * (low t b).2 := by
    have e : Nat.gcd t b * Nat.gcd t' b' * ((low t b).1 * (low t' b').2) = Nat.gcd t b * Nat.gcd t' b' * ((low t' b').1 * (low t b).2) := by
      calc Nat.gcd t b * Nat.gcd t' b' * ((low t b).1 * (low t' b').2) = ((low t b).1 * Nat.gcd t b) * ((low t' b').2 * Nat.gcd t' b') := by ac_rfl
        _ = t * b' := by rw [h1, h4]
        _ = t' * b := h
        _ = ((low t' b').1 * Nat.gcd t' b') * ((low t b).2 * Nat.gcd t b) := by rw [h2, h3]
        _ = _ := by ac_rfl
    exact Nat.eq_of_mul_eq_mul_left (Nat.mul_pos hg hg') e
  have d1 : (low t b).2 ∣ (low t' b').2 := c1.symm.dvd_of_dvd_mul_left ⟨(low t' b').1, by rw [key, Nat.mul_comm]⟩
  have d2 : (low t' b').2 ∣ (low t b).2 := c2.symm.dvd_of_dvd_mul_left ⟨(low t b).1, by rw [← key, Nat.mul_comm]⟩
  have e2 := Nat.dvd_antisymm d1 d2
  have e1 : (low t b).1 = (low t' b').1 := by
    rw [e2] at key
    exact Nat.eq_of_mul_eq_mul_right (low_pos hb') key
  exact Prod.ext e1 e2
theorem low_val {t b : Nat} (hb : 0 < b) : (low t b).1 * b = t * (low t b).2 := by
  obtain ⟨h1, h2⟩ := low_mul t b
  calc (low t b).1 * b = (low t b).1 * ((low t b).2 * Nat.gcd t b) := by rw [h2]
    _ = ((low t b).1 * Nat.gcd t b) * (low t b).2 := by ac_rfl
    _ = t * (low t b).2 := by rw [h1]

theorem lcmF_eq (l q : Nat) : lcmF l q = Nat.lcm l q := by
  unfold lcmF Nat.lcm
  exact Nat.div_mul_right_comm (Nat.gcd_dvd_left l q) q
theorem round_dvd : ∀ (ps : List (Nat × Nat)) (l n : Nat), roundN ps l ∣ n ↔ l ∣ n ∧ ∀ q ∈ ps, q.2 ∣ n
  | [], l, n => by simp [roundN]
  | q :: ps, l, n => by
    have ih := round_dvd ps (lcmF l q.2) n
    show roundN ps (lcmF l q.2) ∣ n ↔ _
    rw [ih, lcmF_eq]
    constructor
    · rintro ⟨h1, h2⟩
      refine ⟨Nat.dvd_trans (Nat.dvd_lcm_left _ _) h1, fun x hx => ?_⟩
      rcases List.mem_cons.mp hx with z | z
      · rw [z]; exact Nat.dvd_trans (Nat.dvd_lcm_right _ _) h1
      · exact h2 x z
    · rintro ⟨h1, h2⟩
      exact ⟨Nat.lcm_dvd h1 (h2 q (by simp)), fun x hx => h2 x (by simp [hx])⟩
theorem partsN_pos : ∀ (es : List Nat) (t b : Nat), (∀ e ∈ es, 2 ≤ e) → 0 < b → ∀ q ∈ partsN es t b, 0 < q.2
  | [], t, b, _, hb => by simp [partsN]; exact low_pos hb
  | e :: es, t, b, he, hb => by
    intro q hq
    have h2 := he e (by simp)
    have hbe : 0 < b * e := Nat.mul_pos hb (by omega)
    unfold partsN at hq
    rcases List.mem_cons.mp hq with z | z
    · rw [z]; exact low_pos hbe
    · exact partsN_pos es _ _ (fun x hx => he x (by simp [hx])) hbe q z
theorem partsN_len : ∀ (es : List Nat) (t b : Nat), (partsN es t b).length = es.length + 1
  | [], _, _ => rfl
  | e :: es, t, b => by simp [partsN, partsN_len es]

theorem head_same {c x e : Nat} (hc : c < e) : (c + x) % e = c ↔ e ∣ x := by
  constructor
  · intro h
    have h1 := Nat.div_add_mod (c + x) e
    rw [h] at h1
    exact ⟨(c + x) / e, by omega⟩
  · rintro ⟨k, rfl⟩
    rw [Nat.add_mul_mod_self_left, Nat.mod_eq_of_lt hc]
theorem head_div {c y e : Nat} (hc : c < e) : (c + e * y) / e = y := by
  rw [Nat.add_mul_div_left _ _ (by omega), Nat.div_eq_of_lt hc, Nat.zero_add]
theorem scale {x b n t e y : Nat} (he : 1 ≤ e) (h : x * b = n * t) (hx : x = e * y) : (x - y) * (b * e) = n * (t * (e - 1)) := by
  have e1 : x - y = (e - 1) * y := by
    rw [hx, Nat.sub_mul, Nat.one_mul]
  rw [e1]
  calc (e - 1) * y * (b * e) = (e * y) * b * (e - 1) := by ac_rfl
    _ = x * b * (e - 1) := by rw [hx]
    _ = n * t * (e - 1) := by rw [h]
    _ = n * (t * (e - 1)) := by rw [Nat.mul_assoc]
/-- the state comes round just where all bottoms divide -/
theorem state_iff : ∀ (r : List (Int × Int)) (t b n x : Nat), (∀ ec ∈ r, okT ec) → 0 < b → x * b = n * t → (cntF r (x : Int) = r.map (·.2) ↔ goodN (evs r) t b n)
  | [], _, _, _, _, _, _, _ => by simp [cntF, evs, goodN]
  | (e, c) :: r, t, b, n, x, ok, hb, h => by
    have h0 := ok (e, c) (by simp)
    unfold okT at h0
    simp at h0
    obtain ⟨e', rfl⟩ := Int.eq_ofNat_of_zero_le (show 0 ≤ e by omega)
    obtain ⟨c', rfl⟩ := Int.eq_ofNat_of_zero_le h0.2.2.1
    have hc : c' < e' := by omega
    have hbe : 0 < b * e' := Nat.mul_pos hb (by omega)
    have ev : evs (((e' : Int), (c' : Int)) :: r) = e' :: evs r := by simp [evs]
    have hd : e' ∣ x ↔ (low t (b * e')).2 ∣ n := by
      rw [← low_dvd hbe]
      constructor
      · rintro ⟨y, rfl⟩
        exact ⟨y, by rw [← h]; ac_rfl⟩
      · rintro ⟨y, hy⟩
        refine ⟨y, Nat.eq_of_mul_eq_mul_right hb ?_⟩
        rw [h, hy]
        ac_rfl
    rw [ev]
    simp only [cntF, List.map_cons, goodN]
    have hm : ((c' : Int) + (x : Int)) % (e' : Int) = (((c' + x) % e' : Nat) : Int) := rfl
    have hq : ((c' : Int) + (x : Int)) / (e' : Int) = (((c' + x) / e' : Nat) : Int) := rfl
    rw [hm, hq, List.cons.injEq]
    by_cases hx : e' ∣ x
    · obtain ⟨y, hy⟩ := hx
      have hy2 : (c' + x) / e' = y := by rw [hy]; exact head_div hc
      have ylt : y ≤ x := by rw [hy]; exact Nat.le_mul_of_pos_left y (by omega)
      have ih := state_iff r (t * (e' - 1)) (b * e') n (x - y) (fun z hz => ok z (by simp [hz])) hbe (scale (by omega) h hy)
      rw [hy2, show (x : Int) - (y : Int) = ((x - y : Nat) : Int) by omega, ih]
      have a1 : (((c' + x) % e' : Nat) : Int) = (c' : Int) := by
        rw [(head_same hc).mpr ⟨y, hy⟩]
      constructor
      · rintro ⟨_, h2⟩
        exact ⟨hd.mp ⟨y, hy⟩, h2⟩
      · rintro ⟨_, h2⟩
        exact ⟨a1, h2⟩
    · constructor
      · rintro ⟨h1, _⟩
        exact absurd ((head_same hc).mp (by omega)) hx
      · rintro ⟨h1, _⟩
        exact absurd (hd.mpr h1) hx
/-- what is taken of a round, or of some of them -/
theorem taken_round : ∀ (r : List (Int × Int)) (t b n x : Nat), (∀ ec ∈ r, okT ec) → 0 < b → x * b = n * t → goodN (evs r) t b n →
    takenF r (x : Int) = (partsN (evs r) t b).map (fun q => ((n / q.2 * q.1 : Nat) : Int)) ∧ ∀ q ∈ partsN (evs r) t b, q.2 ∣ n
  | [], t, b, n, x, _, hb, h, _ => by
    constructor
    · simp only [takenF, evs, List.map_nil, partsN, List.map_cons]
      congr 2
      exact low_share hb h
    · intro q hq
      simp only [evs, List.map_nil, partsN, List.mem_singleton] at hq
      rw [hq]
      exact (low_dvd hb).mp ⟨x, by rw [← h, Nat.mul_comm]⟩
  | (e, c) :: r, t, b, n, x, ok, hb, h, hg => by
    have h0 := ok (e, c) (by simp)
    unfold okT at h0
    simp at h0
    obtain ⟨e', rfl⟩ := Int.eq_ofNat_of_zero_le (show 0 ≤ e by omega)
    obtain ⟨c', rfl⟩ := Int.eq_ofNat_of_zero_le h0.2.2.1
    have hc : c' < e' := by omega
    have hbe : 0 < b * e' := Nat.mul_pos hb (by omega)
    have ev : evs (((e' : Int), (c' : Int)) :: r) = e' :: evs r := by simp [evs]
    rw [ev] at hg ⊢
    obtain ⟨hg1, hg2⟩ := hg
    have hx : e' ∣ x := by
      obtain ⟨y, hy⟩ := (low_dvd (t := t) hbe).mpr hg1
      refine ⟨y, Nat.eq_of_mul_eq_mul_right hb ?_⟩
      rw [h, hy]
      ac_rfl
    obtain ⟨y, hy⟩ := hx
    have hy2 : (c' + x) / e' = y := by rw [hy]; exact head_div hc
    have ylt : y ≤ x := by rw [hy]; exact Nat.le_mul_of_pos_left y (by omega)
    obtain ⟨ih1, ih2⟩ := taken_round r (t * (e' - 1)) (b * e') n (x - y) (fun z hz => ok z (by simp [hz])) hbe (scale (by omega) h hy) hg2
    have hq : ((c' : Int) + (x : Int)) / (e' : Int) = (y : Int) := by
      rw [← hy2]
      rfl
    constructor
    · simp only [takenF, partsN, List.map_cons]
      rw [hq, show (x : Int) - (y : Int) = ((x - y : Nat) : Int) by omega, ih1]
      congr 2
      exact low_share hbe (by rw [← h, hy]; ac_rfl)
    · intro q hm
      unfold partsN at hm
      rcases List.mem_cons.mp hm with z | z
      · rw [z]; exact hg1
      · exact ih2 q z
theorem good_of : ∀ (es : List Nat) (t b n : Nat), (∀ q ∈ partsN es t b, q.2 ∣ n) → goodN es t b n
  | [], _, _, _, _ => trivial
  | e :: es, t, b, n, h => ⟨h _ (by simp [partsN]), good_of es _ _ n fun q hq => h q (by simp [partsN, hq])⟩
/-- the round of a row -/
def rnd (r : List (Int × Int)) : Nat := roundN (partsN (evs r) 1 1) 1
theorem rnd_iff (r : List (Int × Int)) (ok : ∀ ec ∈ r, okT ec) (n : Nat) : cntF r (n : Int) = r.map (·.2) ↔ rnd r ∣ n := by
  rw [state_iff r 1 1 n n ok (by omega) rfl]
  unfold rnd
  rw [round_dvd]
  constructor
  · intro h
    exact ⟨Nat.one_dvd n, (taken_round r 1 1 n n ok (by omega) rfl h).2⟩
  · rintro ⟨_, h⟩
    exact good_of _ _ _ _ h
theorem rnd_taken (r : List (Int × Int)) (ok : ∀ ec ∈ r, okT ec) (n : Nat) (h : rnd r ∣ n) : takenF r (n : Int) = (partsN (evs r) 1 1).map (fun q => ((n / q.2 * q.1 : Nat) : Int)) ∧ ∀ q ∈ partsN (evs r) 1 1, q.2 ∣ n :=
  taken_round r 1 1 n n ok (by omega) rfl ((state_iff r 1 1 n n ok (by omega) rfl).mp ((rnd_iff r ok n).mpr h))
/-- bottoms divide the product of all -/
def prodN : List Nat → Nat
  | [] => 1
  | e :: es => e * prodN es
theorem low_bot (t b : Nat) : (low t b).2 ∣ b := ⟨Nat.gcd t b, (low_mul t b).2.symm⟩
theorem parts_prod : ∀ (es : List Nat) (t b : Nat), ∀ q ∈ partsN es t b, q.2 ∣ b * prodN es
  | [], t, b => by
    intro q hq
    simp only [partsN, List.mem_singleton] at hq
    rw [hq]
    simp only [prodN, Nat.mul_one]
    exact low_bot t b
  | e :: es, t, b => by
    intro q hq
    unfold partsN at hq
    have e1 : b * prodN (e :: es) = b * e * prodN es := by simp only [prodN]; ac_rfl
    rw [e1]
    rcases List.mem_cons.mp hq with z | z
    · rw [z]; exact Nat.dvd_trans (low_bot t (b * e)) (Nat.dvd_mul_right _ _)
    · exact parts_prod es _ _ q z
theorem prod_le : ∀ (es : List Nat) (m k : Nat), (∀ e ∈ es, e ≤ m) → 1 ≤ m → es.length ≤ k → prodN es ≤ m ^ k
  | [], m, k, _, hm, _ => Nat.one_le_pow _ _ hm
  | e :: es, m, 0, _, _, h => by simp at h
  | e :: es, m, k + 1, he, hm, h => by
    have ih := prod_le es m k (fun x hx => he x (by simp [hx])) hm (by simp at h; omega)
    have := he e (by simp)
    simp only [prodN]
    rw [Nat.pow_succ, Nat.mul_comm]
    exact Nat.mul_le_mul ih this
theorem prod_pos : ∀ (es : List Nat), (∀ e ∈ es, 2 ≤ e) → 0 < prodN es
  | [], _ => by simp [prodN]
  | e :: es, h => Nat.mul_pos (by have := h e (by simp); omega) (prod_pos es fun x hx => h x (by simp [hx]))
theorem evs_ge {r : List (Int × Int)} (ok : ∀ ec ∈ r, okT ec) : ∀ e ∈ evs r, 2 ≤ e := fun e he => by
  obtain ⟨ec, h1, rfl⟩ := List.mem_map.mp he
  have := (ok ec h1).1
  omega
theorem evs_le {r : List (Int × Int)} {m : Nat} (h : ∀ ec ∈ r, ec.1 ≤ (m : Int)) : ∀ e ∈ evs r, e ≤ m := fun e he => by
  obtain ⟨ec, h1, rfl⟩ := List.mem_map.mp he
  have := h ec h1
  omega
theorem rnd_le (r : List (Int × Int)) (ok : ∀ ec ∈ r, okT ec) (m k : Nat) (hm : ∀ ec ∈ r, ec.1 ≤ (m : Int)) (h1 : 1 ≤ m) (hk : r.length ≤ k) : rnd r ≤ m ^ k ∧ 0 < rnd r := by
  have hp := prod_pos (evs r) (evs_ge ok)
  have hd : rnd r ∣ prodN (evs r) := by
    unfold rnd
    rw [round_dvd]
    refine ⟨Nat.one_dvd _, fun q hq => ?_⟩
    have := parts_prod (evs r) 1 1 q hq
    rwa [Nat.one_mul] at this
  have h2 := Nat.le_of_dvd hp hd
  have h3 := prod_le (evs r) m k (evs_le hm) h1 (by simp [evs]; exact hk)
  exact ⟨by omega, Nat.pos_of_dvd_of_pos hd hp⟩
/-- a share of a round, told in lowest terms -/
theorem share_low {n : Nat} {q : Nat × Nat} (hn : 0 < n) (hq : q.2 ∣ n) (h2 : 0 < q.2) (hc : Nat.Coprime q.1 q.2) : low (n / q.2 * q.1) n = q := by
  have e1 : low q.1 q.2 = q := by
    unfold low
    rw [show Nat.gcd q.1 q.2 = 1 from hc, Nat.div_one, Nat.div_one]
  rw [← e1]
  have e2 : low (n / (low q.1 q.2).2 * (low q.1 q.2).1) n = low q.1 q.2 := by
    rw [e1]
    refine (low_eq hn h2 ?_).trans e1
    obtain ⟨k, rfl⟩ := hq
    rw [Nat.mul_div_cancel_left _ h2]
    ac_rfl
  exact e2
theorem parts_cop : ∀ (es : List Nat) (t b : Nat), (∀ e ∈ es, 2 ≤ e) → 0 < b → ∀ q ∈ partsN es t b, Nat.Coprime q.1 q.2
  | [], t, b, _, hb => by simp [partsN]; exact low_cop hb
  | e :: es, t, b, he, hb => by
    intro q hq
    have h2 := he e (by simp)
    have hbe : 0 < b * e := Nat.mul_pos hb (by omega)
    unfold partsN at hq
    rcases List.mem_cons.mp hq with z | z
    · rw [z]; exact low_cop hbe
    · exact parts_cop es _ _ (fun x hx => he x (by simp [hx])) hbe q z
end TK

set_option maxRecDepth 100000
/-! lists of pairs of whole numbers -/
namespace TK
open PySem PySem.Spec PyProof.Rows L2
abbrev prV (f : Nat × Nat) : HO := .tup [.int (f.1 : Nat), .int (f.2 : Nat)]
def PrsL (H : Hp) (q : Addr) (ps : List (Nat × Nat)) : Prop :=
  ∃ ts : List Addr, H q = some (.lst (ts.map V.ref)) ∧ ts.length = ps.length ∧ ∀ (i : Nat) (t : Addr) (f : Nat × Nat), ts[i]? = some t → ps[i]? = some f → H t = some (prV f)
theorem PrsL.same {H H' : Hp} {q : Addr} {ps : List (Nat × Nat)} (h : PrsL H q ps) (s : Same H H') : PrsL H' q ps := by
  obtain ⟨ts, h1, h2, h3⟩ := h
  exact ⟨ts, s _ _ h1, h2, fun i t f a b => s _ _ (h3 i t f a b)⟩
theorem PrsL.nil {H : Hp} {q : Addr} (h : H q = some (.lst [])) : PrsL H q [] := ⟨[], h, rfl, fun i t f h => nomatch h⟩
/-- one more pair -/
theorem PrsL.push {H : Hp} {q t : Addr} {ps : List (Nat × Nat)} {f : Nat × Nat} {ts : List Addr} (h1 : H q = some (.lst (ts.map V.ref))) (h2 : ts.length = ps.length)
    (h3 : ∀ (i : Nat) (t : Addr) (f : Nat × Nat), ts[i]? = some t → ps[i]? = some f → H t = some (prV f)) (ht : H t = some (prV f)) : PrsL (upd H q (.lst (ts.map V.ref ++ [.ref t]))) q (ps ++ [f]) := by
  refine ⟨ts ++ [t], by rw [upd_same, List.map_append]; rfl, by rw [List.length_append, List.length_append, h2]; rfl, fun i u g a b => ?_⟩
  have hu : H u = some (prV g) := by
    by_cases hi : i < ts.length
    · rw [List.getElem?_append_left hi] at a
      rw [List.getElem?_append_left (by omega)] at b
      exact h3 i u g a b
    · have hi2 : i = ts.length := by
        have := (List.getElem?_eq_some_iff.mp a).1
        rw [List.length_append] at this
        simp at this
        omega
      subst hi2
      rw [List.getElem?_append_right (Nat.le_refl _), Nat.sub_self] at a
      rw [List.getElem?_append_right (by omega), h2, Nat.sub_self] at b
      cases a
      cases b
      exact ht
  rw [upd_ne (ne_of hu h1 (by intro z; cases z))]
  exact hu
def prD (f : Nat × Nat) : PyData := .tuple [.int (f.1 : Nat), .int (f.2 : Nat)]
theorem dp_pr {K : PySem.W.Frag} {H : Hp} {t : Addr} {f : Nat × Nat} (h : H t = some (prV f)) : Dp K H (.ref t) (prD f) := .tup (st_of h) (.cons (.int _) (.cons (.int _) .nil))
theorem all_prs {K : PySem.W.Frag} {H : Hp} : ∀ (ts : List Addr) (ps : List (Nat × Nat)), ts.length = ps.length → (∀ (i : Nat) (t : Addr) (f : Nat × Nat), ts[i]? = some t → ps[i]? = some f → H t = some (prV f)) → DpAll K H (ts.map V.ref) (ps.map prD)
  | [], [], _, _ => .nil
  | [], _ :: _, h, _ => by cases h
  | _ :: _, [], h, _ => by cases h
  | t :: ts, f :: ps, h, h3 => .cons (dp_pr (h3 0 t f rfl rfl)) (all_prs ts ps (Nat.succ.inj h) fun i u g a b => h3 (i + 1) u g (by simpa using a) (by simpa using b))
theorem dp_prs {K : PySem.W.Frag} {H : Hp} {q : Addr} {ps : List (Nat × Nat)} (h : PrsL H q ps) : Dp K H (.ref q) (.list (ps.map prD)) := by
  obtain ⟨ts, h1, h2, h3⟩ := h
  exact .lst (sq_of h1) (all_prs ts ps h2 h3)
theorem lay_prs : ∀ ps : List (Nat × Nat), PyData.canLayAll0 (ps.map prD) = true
  | [] => rfl
  | f :: r => by
    show (PyData.canLay0 (prD f) && PyData.canLayAll0 (r.map prD)) = true
    rw [lay_prs r]
    rfl
theorem deep_prs : ∀ ps : List (Nat × Nat), PyData.depthAll (ps.map prD) ≤ 1
  | [] => by show 0 ≤ 1; omega
  | f :: r => by
    have ih := deep_prs r
    show max (PyData.depth (prD f)) (PyData.depthAll (r.map prD)) ≤ 1
    have : PyData.depth (prD f) = 1 := rfl
    omega
theorem shp_prs (ps : List (Nat × Nat)) : SeqAt.shaped (.list (ps.map prD)) = true := by
  unfold SeqAt.shaped
  have h1 : PyData.canLay0 (.list (ps.map prD)) = true := lay_prs ps
  have h2 : PyData.depth (.list (ps.map prD)) ≤ 64 := by
    show PyData.depthAll (ps.map prD) + 1 ≤ 64
    have := deep_prs ps
    omega
  rw [h1, decide_eq_true h2]
  rfl
theorem eqv_pr (f g : Nat × Nat) : PyData.eqv (prD f) (prD g) = decide (f = g) := by
  unfold prD
  rw [PyData.eqv, Bool.eq_iff_iff]
  simp [PyData.eqvAll, PyData.eqv, Prod.ext_iff]
  omega
theorem eqv_prs : ∀ (ps qs : List (Nat × Nat)), PyData.eqvAll (ps.map prD) (qs.map prD) = decide (ps = qs)
  | [], [] => rfl
  | [], _ :: _ => rfl
  | _ :: _, [] => rfl
  | f :: r, g :: q => by
    show (PyData.eqv (prD f) (prD g) && PyData.eqvAll (r.map prD) (q.map prD)) = _
    rw [eqv_prs r q, eqv_pr, Bool.eq_iff_iff]
    simp
theorem ne_prs {K : PySem.W.Frag} {H : Hp} {a b : Addr} {ps : List (Nat × Nat)} {Q : VK} (ha : PrsL H a ps) (hb : PrsL H b ps) (q : Q (.bl false) H) : rNeD K (.ref a) (.ref b) H Q := by
  refine ⟨_, _, dp_prs ha, dp_prs hb, shp_prs ps, shp_prs ps, ?_⟩
  rw [PyData.eqv, eqv_prs, decide_eq_true rfl]
  exact q
theorem eq_prs {K : PySem.W.Frag} {H : Hp} {a b : Addr} {ps : List (Nat × Nat)} {Q : VK} (ha : PrsL H a ps) (hb : PrsL H b ps) (q : Q (.bl true) H) : rEqD K (.ref a) (.ref b) H Q := by
  refine ⟨_, _, dp_prs ha, dp_prs hb, shp_prs ps, shp_prs ps, ?_⟩
  rw [PyData.eqv, eqv_prs, decide_eq_true rfl]
  exact q
theorem shp_pr (f : Nat × Nat) : SeqAt.shaped (prD f) = true := rfl
theorem ne_pr {K : PySem.W.Frag} {H : Hp} {a b : Addr} {f : Nat × Nat} {Q : VK} (ha : H a = some (prV f)) (hb : H b = some (prV f)) (q : Q (.bl false) H) : rNeD K (.ref a) (.ref b) H Q := by
  refine ⟨_, _, dp_pr ha, dp_pr hb, shp_pr f, shp_pr f, ?_⟩
  rw [eqv_pr, decide_eq_true rfl]
  exact q
theorem evs_get {r : List (Int × Int)} {i : Nat} {e c : Int} (h : r[i]? = some (e, c)) : (evs r)[i]? = some e.toNat := by
  unfold evs
  rw [List.getElem?_map, h]
  rfl
theorem pw {i : Nat} (h : i ≤ 8) : 1000 ^ i ≤ 1000000000000000000000000 := Nat.le_trans (Nat.pow_le_pow_right (by decide) h) (by decide)
theorem wlt {n : Nat} (h : n ≤ 1000000000000000000000000) : ((n : Nat) : Int).natAbs < 2 ^ 100 := by
  rw [Int.natAbs_natCast]
  exact Nat.lt_of_le_of_lt h (by decide)
theorem gcd_step (x y : Nat) : Nat.gcd y (x % y) = Nat.gcd x y := by
  rw [Nat.gcd_comm y, ← Nat.gcd_rec, Nat.gcd_comm]
end TK

namespace TK
def prodM : List Nat → Nat
  | [] => 1
  | e :: es => (e - 1) * prodM es
theorem parts_app : ∀ (a c : List Nat) (t b : Nat), partsN (a ++ c) t b = (partsN a t b).dropLast ++ partsN c (t * prodM a) (b * prodN a)
  | [], c, t, b => by simp [partsN, prodM, prodN]
  | e :: a, c, t, b => by
    have ih := parts_app a c (t * (e - 1)) (b * e)
    have hne : partsN a (t * (e - 1)) (b * e) ≠ [] := by
      intro z
      have := congrArg List.length z
      rw [partsN_len] at this
      simp at this
    show low t (b * e) :: partsN (a ++ c) (t * (e - 1)) (b * e) = (low t (b * e) :: partsN a (t * (e - 1)) (b * e)).dropLast ++ _
    rw [ih, List.dropLast_cons_of_ne_nil hne, List.cons_append]
    congr 3
    · simp only [prodM]; ac_rfl
    · simp only [prodN]; ac_rfl
theorem len_init (a : List Nat) (t b : Nat) : (partsN a t b).dropLast.length = a.length := by
  rw [List.length_dropLast, partsN_len]
  rfl
theorem parts_last : ∀ (a : List Nat) (t b : Nat), partsN a t b = (partsN a t b).dropLast ++ [low (t * prodM a) (b * prodN a)] := fun a t b => by
  have := parts_app a [] t b
  rw [List.append_nil] at this
  exact this
theorem prodM_le : ∀ (es : List Nat), prodM es ≤ prodN es
  | [] => Nat.le_refl _
  | e :: es => Nat.mul_le_mul (Nat.sub_le _ _) (prodM_le es)
theorem prodN_perm {a b : List Nat} (h : a.Perm b) : prodN a = prodN b := by
  induction h with
  | nil => rfl
  | cons x _ ih => simp only [prodN]; rw [ih]
  | swap x y l => simp only [prodN]; ac_rfl
  | trans _ _ h1 h2 => exact h1.trans h2
theorem prodM_perm {a b : List Nat} (h : a.Perm b) : prodM a = prodM b := by
  induction h with
  | nil => rfl
  | cons x _ ih => simp only [prodM]; rw [ih]
  | swap x y l => simp only [prodM]; ac_rfl
  | trans _ _ h1 h2 => exact h1.trans h2
def plusN (f g : Nat × Nat) : Nat × Nat := low (f.1 * g.2 + g.1 * f.2) (f.2 * g.2)
theorem plus_eq {t b t' b' t2 b2 : Nat} (hb : 0 < b) (hb' : 0 < b') (hb2 : 0 < b2) (h : (t * b' + t' * b) * b2 = t2 * (b * b')) : plusN (low t b) (low t' b') = low t2 b2 := by
  have p1 := low_pos (t := t) hb
  have p2 := low_pos (t := t') hb'
  have v1 := low_val (t := t) hb
  have v2 := low_val (t := t') hb'
  obtain ⟨x, hx⟩ : ∃ x, low t b = x := ⟨_, rfl⟩
  obtain ⟨y, hy⟩ : ∃ y, low t' b' = y := ⟨_, rfl⟩
  rw [hx] at p1 v1 ⊢
  rw [hy] at p2 v2 ⊢
  unfold plusN
  refine low_eq (Nat.mul_pos p1 p2) hb2 ?_
  have hbb : 0 < b * b' := Nat.mul_pos hb hb'
  apply Nat.eq_of_mul_eq_mul_left hbb
  have e1 : b * b' * (x.1 * y.2 + y.1 * x.2) = (x.1 * b) * (b' * y.2) + (y.1 * b') * (b * x.2) := by
    rw [Nat.mul_add]
    congr 1 <;> ac_rfl
  calc b * b' * ((x.1 * y.2 + y.1 * x.2) * b2) = b * b' * (x.1 * y.2 + y.1 * x.2) * b2 := by ac_rfl
    _ = ((x.1 * b) * (b' * y.2) + (y.1 * b') * (b * x.2)) * b2 := by rw [e1]
    _ = ((t * x.2) * (b' * y.2) + (t' * y.2) * (b * x.2)) * b2 := by rw [v1, v2]
    _ = (x.2 * y.2) * ((t * b' + t' * b) * b2) := by
      rw [Nat.add_mul, Nat.add_mul, Nat.mul_add]
      congr 1 <;> ac_rfl
    _ = (x.2 * y.2) * (t2 * (b * b')) := by rw [h]
    _ = b * b' * (t2 * (x.2 * y.2)) := by ac_rfl
/-- the sum so far, and one more -/
theorem plus_more {t b e : Nat} (hb : 0 < b) (he : 2 ≤ e) (ht : t ≤ b) : plusN (low (b - t) b) (low t (b * e)) = low (b * e - t * (e - 1)) (b * e) := by
  have hbe : 0 < b * e := Nat.mul_pos hb (by omega)
  refine plus_eq hb hbe hbe ?_
  have e0 : t * (e - 1) ≤ b * e := Nat.mul_le_mul ht (Nat.sub_le _ _)
  have e1 : (b - t) * e + t = b * e - t * (e - 1) := by
    have k1 : t * (e - 1) + t = t * e := by
      rw [← Nat.mul_succ]
      congr 1
      omega
    have k2 : t * e ≤ b * e := Nat.mul_le_mul_right e ht
    rw [Nat.sub_mul]
    omega
  calc ((b - t) * (b * e) + t * b) * (b * e) = ((b - t) * e + t) * b * (b * e) := by
        rw [Nat.add_mul ((b - t) * e) t b]
        congr 2
        ac_rfl
    _ = (b * e - t * (e - 1)) * b * (b * e) := by rw [e1]
    _ = (b * e - t * (e - 1)) * (b * (b * e)) := by rw [Nat.mul_assoc]
theorem plus_end {t b : Nat} (hb : 0 < b) (ht : t ≤ b) : plusN (low (b - t) b) (low t b) = (1, 1) := by
  have : plusN (low (b - t) b) (low t b) = low 1 1 := by
    refine plus_eq hb hb (by decide) ?_
    rw [Nat.mul_one, Nat.one_mul, ← Nat.add_mul, Nat.sub_add_cancel ht]
  rw [this]
  decide +kernel
/-- neighbours who change places -/
theorem swap_sum {t b x y : Nat} (hb : 0 < b) (hx : 2 ≤ x) (hy : 2 ≤ y) : plusN (low t (b * y)) (low (t * (y - 1)) (b * y * x)) = plusN (low t (b * x)) (low (t * (x - 1)) (b * x * y)) := by
  have key : ∀ x y : Nat, 2 ≤ x → 2 ≤ y → plusN (low t (b * x)) (low (t * (x - 1)) (b * x * y)) = low (t * (x + y - 1)) (b * x * y) := fun x y hx hy => by
    have hbx : 0 < b * x := Nat.mul_pos hb (by omega)
    have hbxy : 0 < b * x * y := Nat.mul_pos hbx (by omega)
    refine plus_eq hbx hbxy hbxy ?_
    have e1 : t * y + t * (x - 1) = t * (x + y - 1) := by
      rw [← Nat.mul_add]
      congr 1
      omega
    calc (t * (b * x * y) + t * (x - 1) * (b * x)) * (b * x * y) = (t * y + t * (x - 1)) * (b * x) * (b * x * y) := by
          rw [Nat.add_mul (t * y)]
          congr 2
          ac_rfl
      _ = t * (x + y - 1) * (b * x) * (b * x * y) := by rw [e1]
      _ = t * (x + y - 1) * (b * x * (b * x * y)) := by rw [Nat.mul_assoc]
  rw [key x y hx hy, key y x hy hx]
  congr 1
  · congr 1
    omega
  · ac_rfl
theorem swap_less {t b x y : Nat} (hb : 0 < b) (hx : 2 ≤ x) (hy : 2 ≤ y) :
    (low (t * (x - 1)) (b * x * y)).1 * (low t (b * y)).2 ≤ (low t (b * y)).1 * (low (t * (x - 1)) (b * x * y)).2 := by
  have hby : 0 < b * y := Nat.mul_pos hb (by omega)
  have hbxy : 0 < b * x * y := Nat.mul_pos (Nat.mul_pos hb (by omega)) (by omega)
  have v1 := low_val (t := t) hby
  have v2 := low_val (t := t * (x - 1)) hbxy
  generalize low t (b * y) = f at v1 ⊢
  generalize low (t * (x - 1)) (b * x * y) = g at v2 ⊢
  have hp : 0 < (b * y) * (b * x * y) := Nat.mul_pos hby hbxy
  refine Nat.le_of_mul_le_mul_left ?_ hp
  calc (b * y) * (b * x * y) * (g.1 * f.2) = (g.1 * (b * x * y)) * (f.2 * (b * y)) := by ac_rfl
    _ = t * (x - 1) * g.2 * (f.2 * (b * y)) := by rw [v2]
    _ = (t * g.2 * f.2 * b * y) * (x - 1) := by ac_rfl
    _ ≤ (t * g.2 * f.2 * b * y) * x := Nat.mul_le_mul_left _ (Nat.sub_le _ _)
    _ = (t * f.2) * (g.2 * (b * x * y)) := by ac_rfl
    _ = (f.1 * (b * y)) * (g.2 * (b * x * y)) := by rw [v1]
    _ = (b * y) * (b * x * y) * (f.1 * g.2) := by ac_rfl
/-- every fraction is small -/
theorem parts_small : ∀ (es : List Nat) (t b M : Nat), (∀ e ∈ es, 2 ≤ e) → 0 < b → t ≤ b → b * prodN es ≤ M → ∀ q ∈ partsN es t b, q.1 ≤ M ∧ q.2 ≤ M
  | [], t, b, M, _, hb, ht, hM => by
    intro q hq
    simp only [partsN, List.mem_singleton] at hq
    subst hq
    simp only [prodN, Nat.mul_one] at hM
    have h1 : (low t b).1 ≤ t := Nat.div_le_self _ _
    have h2 : (low t b).2 ≤ b := Nat.div_le_self _ _
    omega
  | e :: es, t, b, M, he, hb, ht, hM => by
    intro q hq
    have h2 := he e (by simp)
    have hbe : 0 < b * e := Nat.mul_pos hb (by omega)
    have hM' : b * e * prodN es ≤ M := by rw [Nat.mul_assoc]; exact hM
    have hp : 0 < prodN es := prod_pos es fun x hx => he x (by simp [hx])
    have hle : b * e ≤ M := Nat.le_trans (Nat.le_mul_of_pos_right _ hp) hM'
    have hb2 : b ≤ b * e := Nat.le_mul_of_pos_right b (by omega)
    unfold partsN at hq
    rcases List.mem_cons.mp hq with z | z
    · subst z
      have k1 : (low t (b * e)).1 ≤ t := Nat.div_le_self _ _
      have k2 : (low t (b * e)).2 ≤ b * e := Nat.div_le_self _ _
      omega
    · exact parts_small es _ _ M (fun x hx => he x (by simp [hx])) hbe (Nat.mul_le_mul ht (Nat.sub_le _ _)) hM' q z
end TK

set_option maxRecDepth 100000
/-! tuples joined and cut; rows and lists of pairs cut -/
namespace TK
open PySem PySem.Spec PyProof.Rows L2
theorem cat_use {K : PySem.W.Frag} {H : Hp} {a b : Addr} {xs ys : List V} {Q : VK} (ha : H a = some (.tup xs)) (hb : H b = some (.tup ys)) (hl : xs.length + ys.length ≤ sizeLine)
    (q : ∀ p H', Same H H' → H' p = some (.tup (xs ++ ys)) → Q (.ref p) H') : rCatA K (.ref a) (.ref b) H Q := by
  refine ⟨a, b, xs, ys, rfl, rfl, st_of ha, st_of hb, hl, fun e => ?_, fun _ e => ?_, fun _ _ p hp => ?_⟩
  · subst e
    exact q b H (Same.refl _) hb
  · subst e
    exact q a H (Same.refl _) (by rw [List.append_nil]; exact ha)
  · exact q p _ (same_new hp) upd_same
theorem slice_use {K : PySem.W.Frag} {H : Hp} {a : Addr} {xs : List V} {lo hi : Option Int} {Q : VK} (ha : H a = some (.tup xs))
    (q : ∀ p H', Same H H' → H' p = some (.tup (cutV xs lo hi)) → Q (.ref p) H') : rSlA K (.ref a) lo hi H Q := by
  refine ⟨a, xs, rfl, st_of ha, fun e => ?_, fun _ p hp => ?_⟩
  · refine q a H (Same.refl _) ?_
    unfold cutV
    rw [e.1, e.2, List.drop_zero, Nat.sub_zero, List.take_length]
    exact ha
  · exact q p _ (same_new hp) upd_same
theorem cut_from {xs : List V} {m : Int} {k : Nat} (h : m = (k : Int)) (hk : k ≤ xs.length) : cutV xs (some m) none = xs.drop k := by
  subst h
  unfold cutV
  rw [HT.sIx_none, HT.sIx_nat, Nat.min_eq_left hk]
  exact List.take_of_length_le (by rw [List.length_drop]; exact Nat.le_refl _)
/-- each address holds its taker -/
def PairsAt (H : Hp) (ts : List Addr) (r : List (Int × Int)) : Prop := ts.length = r.length ∧ ∀ (i : Nat) (t : Addr) (ec : Int × Int), ts[i]? = some t → r[i]? = some ec → H t = some (.tup [.int ec.1, .int ec.2])
theorem RowAt.pairs {H : Hp} {p : Addr} {r : List (Int × Int)} (h : RowAt H p r) : ∃ ts, H p = some (.tup (ts.map V.ref)) ∧ PairsAt H ts r := by
  obtain ⟨ts, h1, h2, h3⟩ := h
  exact ⟨ts, h1, h2, h3⟩
theorem PairsAt.row {H : Hp} {p : Addr} {ts : List Addr} {r : List (Int × Int)} (h : PairsAt H ts r) (hp : H p = some (.tup (ts.map V.ref))) : RowAt H p r := ⟨ts, hp, h.1, h.2⟩
theorem PairsAt.keep {H H' : Hp} {ts : List Addr} {r : List (Int × Int)} (h : PairsAt H ts r) (k : TupS H H') : PairsAt H' ts r := ⟨h.1, fun i t ec a b => k _ _ (h.2 i t ec a b)⟩
theorem PairsAt.take {H : Hp} {ts : List Addr} {r : List (Int × Int)} (h : PairsAt H ts r) (k : Nat) : PairsAt H (ts.take k) (r.take k) := by
  refine ⟨by rw [List.length_take, List.length_take, h.1], fun i t ec a b => ?_⟩
  rw [List.getElem?_take] at a b
  split at a
  · rename_i hi
    rw [if_pos hi] at b
    exact h.2 i t ec a b
  · cases a
theorem PairsAt.drop {H : Hp} {ts : List Addr} {r : List (Int × Int)} (h : PairsAt H ts r) (k : Nat) : PairsAt H (ts.drop k) (r.drop k) := by
  refine ⟨by rw [List.length_drop, List.length_drop, h.1], fun i t ec a b => ?_⟩
  rw [List.getElem?_drop] at a b
  exact h.2 _ t ec a b
theorem PairsAt.app {H : Hp} {ts us : List Addr} {r q : List (Int × Int)} (h : PairsAt H ts r) (h' : PairsAt H us q) : PairsAt H (ts ++ us) (r ++ q) := by
  refine ⟨by rw [List.length_append, List.length_append, h.1, h'.1], fun i t ec a b => ?_⟩
  by_cases hi : i < ts.length
  · rw [List.getElem?_append_left hi] at a
    rw [List.getElem?_append_left (by rw [← h.1]; exact hi)] at b
    exact h.2 i t ec a b
  · rw [List.getElem?_append_right (by omega)] at a
    rw [List.getElem?_append_right (by rw [← h.1]; omega), ← h.1] at b
    exact h'.2 _ t ec a b
theorem PairsAt.two {H : Hp} {t u : Addr} {f g : Int × Int} (h1 : H t = some (.tup [.int f.1, .int f.2])) (h2 : H u = some (.tup [.int g.1, .int g.2])) : PairsAt H [t, u] [f, g] :=
  ⟨rfl, fun i x ec a b => by
    cases i with
    | zero => cases a; cases b; exact h1
    | succ i =>
      cases i with
      | zero => cases a; cases b; exact h2
      | succ i => simp at a⟩
theorem PrsL.cutTo {H H' : Hp} {q p : Addr} {ps : List (Nat × Nat)} {ts : List Addr} (h2 : ts.length = ps.length) (h3 : ∀ (i : Nat) (t : Addr) (f : Nat × Nat), ts[i]? = some t → ps[i]? = some f → H t = some (prV f))
    (s : Same H H') (k : Nat) (hp : H' p = some (.lst ((ts.map V.ref).take k))) : PrsL H' p (ps.take k) := by
  refine ⟨ts.take k, by rw [hp, List.map_take], by rw [List.length_take, List.length_take, h2], fun i t f a b => ?_⟩
  rw [List.getElem?_take] at a b
  split at a
  · rename_i hi
    rw [if_pos hi] at b
    exact s _ _ (h3 i t f a b)
  · cases a
theorem PrsL.cutFrom {H H' : Hp} {q p : Addr} {ps : List (Nat × Nat)} {ts : List Addr} (h2 : ts.length = ps.length) (h3 : ∀ (i : Nat) (t : Addr) (f : Nat × Nat), ts[i]? = some t → ps[i]? = some f → H t = some (prV f))
    (s : Same H H') (k : Nat) (hp : H' p = some (.lst ((ts.map V.ref).drop k))) : PrsL H' p (ps.drop k) := by
  refine ⟨ts.drop k, by rw [hp, List.map_drop], by rw [List.length_drop, List.length_drop, h2], fun i t f a b => ?_⟩
  rw [List.getElem?_drop] at a b
  exact s _ _ (h3 _ t f a b)
/-- told[:k], as a reading -/
theorem sl_to {K : PySem.W.Frag} {H : Hp} {q : Addr} {ps : List (Nat × Nat)} {m : Int} {k : Nat} {Q : VK} (h : PrsL H q ps) (hm : m = (k : Int)) (hk : k ≤ ps.length) (hQ : ∀ p H', Same H H' → PrsL H' p (ps.take k) → Q (.ref p) H') : rSlL K (.ref q) none (some m) H Q := by
  obtain ⟨ts, h1, h2, h3⟩ := h
  refine ⟨q, _, rfl, sq_of h1, fun p np => ?_⟩
  rw [cut_to hm (by rw [List.length_map, h2]; exact hk)]
  exact hQ p _ (same_new np) (PrsL.cutTo (q := q) h2 h3 (same_new np) k upd_same)
theorem sl_from {K : PySem.W.Frag} {H : Hp} {q : Addr} {ps : List (Nat × Nat)} {m : Int} {k : Nat} {Q : VK} (h : PrsL H q ps) (hm : m = (k : Int)) (hk : k ≤ ps.length) (hQ : ∀ p H', Same H H' → PrsL H' p (ps.drop k) → Q (.ref p) H') : rSlL K (.ref q) (some m) none H Q := by
  obtain ⟨ts, h1, h2, h3⟩ := h
  refine ⟨q, _, rfl, sq_of h1, fun p np => ?_⟩
  rw [cut_from hm (by rw [List.length_map, h2]; exact hk)]
  exact hQ p _ (same_new np) (PrsL.cutFrom (q := q) h2 h3 (same_new np) k upd_same)
theorem sl_init {K : PySem.W.Frag} {H : Hp} {q : Addr} {ps : List (Nat × Nat)} {Q : VK} (h : PrsL H q ps) (hQ : ∀ p H', Same H H' → PrsL H' p ps.dropLast → Q (.ref p) H') : rSlL K (.ref q) none (some (-1)) H Q := by
  obtain ⟨ts, h1, h2, h3⟩ := h
  refine ⟨q, _, rfl, sq_of h1, fun p np => ?_⟩
  rw [cut_init, List.dropLast_eq_take]
  refine hQ p _ (same_new np) ?_
  rw [List.dropLast_eq_take, ← h2]
  have := PrsL.cutTo (q := q) h2 h3 (same_new (o := .lst ((ts.map V.ref).take ((ts.map V.ref).length - 1))) np) (ts.length - 1) (by rw [upd_same, List.length_map])
  exact this
theorem PrsL.at {K : PySem.W.Frag} {H : Hp} {q : Addr} {ps : List (Nat × Nat)} {i : Nat} {f : Nat × Nat} {m : Int} {Q : VK} (h : PrsL H q ps) (hm : m = (i : Int)) (hf : ps[i]? = some f) (hQ : ∀ t, H t = some (prV f) → Q (.ref t) H) : rIxL K (.ref q) (.int m) H Q := by
  obtain ⟨ts, h1, h2, h3⟩ := h
  have hi : i < ts.length := h2 ▸ (List.getElem?_eq_some_iff.mp hf).1
  have ht := List.getElem?_eq_getElem hi
  exact ⟨q, _, m, .ref ts[i], rfl, rfl, sq_of h1, at_of hm (by rw [List.getElem?_map, ht]; rfl), hQ _ (h3 i _ f ht hf)⟩
theorem PrsL.last {K : PySem.W.Frag} {H : Hp} {q : Addr} {ps : List (Nat × Nat)} {f : Nat × Nat} {Q : VK} (h : PrsL H q (ps ++ [f])) (hQ : ∀ t, H t = some (prV f) → Q (.ref t) H) : rIxL K (.ref q) (.int (-1)) H Q := by
  obtain ⟨ts, h1, h2, h3⟩ := h
  rw [List.length_append] at h2
  have h2' : ts.length = ps.length + 1 := h2
  obtain ⟨us, u, e⟩ : ∃ us u, ts = us ++ [u] := ⟨ts.dropLast, ts.getLast (by intro z; rw [z] at h2'; cases h2'), (List.dropLast_concat_getLast _).symm⟩
  subst e
  have hl : us.length = ps.length := by rw [List.length_append] at h2'; exact Nat.succ.inj h2'
  have hu := h3 ps.length u f (by rw [List.getElem?_append_right (by omega), hl, Nat.sub_self]; rfl) (by rw [List.getElem?_append_right (Nat.le_refl _), Nat.sub_self]; rfl)
  refine ⟨q, _, -1, .ref u, rfl, rfl, sq_of h1, ?_, hQ u hu⟩
  rw [List.map_append]
  exact atI_last _ _
end TK

set_option maxRecDepth 100000
/-! t[::-1] of a tuple; repr of a truth -/
namespace TK
open PySem PySem.Spec PyProof.Rows L2
section
variable {prog : Program} {w : World} {A : Around} {E : Value → Shared → Prop} {s : Shared}
theorem applied_back {sl : Addr} {vl vu vk : Value} {n : Nat} {Q : Int × Int × Nat → Shared → Prop} (hs : s.heap.IsSliceOf sl vl vu vk) (pl : IsPart vl none) (pu : IsPart vu none) (pk : IsPart vk (some (-1)))
    (h : Q ((n : Int) - 1, -1, n) s) : wpAny (model prog w) A (Builtin.Slice.sliceApplied (.ref sl) (pure (n : Int))) Q E s := by
  obtain ⟨os, hos, hcs, hds⟩ := id hs
  unfold Builtin.Slice.sliceApplied Builtin.Slice.sliceFields
  refine wpAny_bind (wpAny_bind (wpAny_field hos hds (x := vl) rfl (wpAny_bind (wpAny_field hos hds (x := vu) rfl (wpAny_bind (wpAny_field hos hds (x := vk) rfl (wpAny_pure ?_)))))))
  refine wpAny_bind (HT.slicePart_ pk ?_)
  show wpAny _ _ (if ((-1 : Int) == 0) = true then _ else _) _ _ s
  rw [if_neg (by decide)]
  refine wpAny_bind (HT.slicePart_ pl (wpAny_bind (HT.slicePart_ pu (wpAny_bind (wpAny_pure ?_)))))
  have e1 : Builtin.Slice.sliceAdjust none none (-1) (n : Int) = ((n : Int) - 1, -1) := by
    unfold Builtin.Slice.sliceAdjust
    simp
  have e2 : Builtin.Slice.slicePlaces ((n : Int) - 1) (-1) (-1) = n := by
    unfold Builtin.Slice.slicePlaces
    simp
    omega
  show wpAny _ _ (match Builtin.Slice.sliceAdjust none none (-1) (n : Int) with | (lo, hi) => pure (lo, (-1 : Int), Builtin.Slice.slicePlaces lo hi (-1))) _ _ s
  rw [e1]
  show wpAny _ _ (pure ((n : Int) - 1, (-1 : Int), Builtin.Slice.slicePlaces ((n : Int) - 1) (-1) (-1))) _ _ s
  rw [e2]
  exact wpAny_pure h
theorem pick_back (xs : Array Value) : ((List.range xs.size).filterMap fun (m : Nat) => xs[((xs.size : Int) - 1 + (m : Int) * (-1)).toNat]?).toArray = xs.toList.reverse.toArray := by
  congr 1
  have e : ∀ k : Nat, k ≤ xs.size → ((List.range k).filterMap fun (m : Nat) => xs[((xs.size : Int) - 1 + (m : Int) * (-1)).toNat]?) = (xs.toList.drop (xs.size - k)).reverse := by
    intro k
    induction k with
    | zero => intro _; simp
    | succ k ih =>
      intro hk
      have hlt : xs.size - 1 - k < xs.toList.length := by rw [Array.length_toList]; omega
      rw [List.range_succ, List.filterMap_append, ih (by omega), show xs.size - (k + 1) = xs.size - 1 - k by omega, List.drop_eq_getElem_cons hlt, List.reverse_cons, show xs.size - 1 - k + 1 = xs.size - k by omega]
      congr 1
      have e2 : ((xs.size : Int) - 1 + (k : Int) * (-1)).toNat = xs.size - 1 - k := by omega
      simp only [List.filterMap_cons, List.filterMap_nil, e2]
      have hlt2 : xs.size - 1 - k < xs.size := by omega
      rw [Array.getElem?_eq_getElem hlt2]
      simp
  have := e xs.size (Nat.le_refl _)
  rw [Nat.sub_self, List.drop_zero] at this
  exact this
theorem item_back {t sl : Addr} {items : Array Value} {vl vu vk : Value} {Q : Value → Shared → Prop} (ht : IsTup s.heap t items) (hs : s.heap.IsSliceOf sl vl vu vk) (pl : IsPart vl none) (pu : IsPart vu none) (pk : IsPart vk (some (-1)))
    (h : Q (.ref s.heap.objs.size) { s with heap := s.heap.push { cls := .type "tuple", data := .seq items.toList.reverse.toArray } }) (hsz : items.size ≤ sizeLine) : wpAny (model prog w) A (getItem (.ref t) (.ref sl)) Q E s := by
  have hfit : sizeOk (.seq items.toList.reverse.toArray) := by
    show items.toList.reverse.toArray.size ≤ sizeLine
    rw [List.size_toArray, List.length_reverse, Array.length_toList]
    exact hsz
  obtain ⟨os, hos, hcs, hds⟩ := id hs
  have tySl : s.TypeIs (.ref sl) "slice" := ⟨os, hos, hcs⟩
  unfold getItem
  try with_reducible refine wpAny_holding ?_
  first | refine wpAny_bind (wpAny_pure ?_) | skip
  refine wpAny_bind (wpAny_sequenceKey ht.typeIs (by decide) ?_)
  refine wpAny_bind (wpAny_callSpecial?_slot (name := Str.ofString "__getitem__") ht.typeIs PyProof.Rows.slot_tuple_getitem
    (wpAny_call_entry PyProof.Rows.slot_tuple_getitem ht.typeIs entry_tuple_getitem ?_ (args_tuple_getitem _ _)))
  show wpAny _ _ (Builtin.Tuple.tupleItemsOf (.ref t) >>= _) _ _ s
  refine wpAny_bind (tupleItemsOf_ ht (wpAny_bind (wpAny_typeOf tySl ?_)))
  rw [if_pos (by decide)]
  refine wpAny_bind (applied_back hs pl pu pk ?_)
  show wpAny _ _ (if ((((items.size : Int) - 1) == 0 && (-1 : Int) == 1 && items.size == items.size)) = true then _ else _) _ _ s
  rw [if_neg (by simp), pick_back]
  first
    | exact wpAny_bind (m := Builtin.Tuple.tupleExact _) (wpAny_newObj_type (wpAny_pure ⟨_, rfl, wpAny_pure h⟩) hfit)
    | exact wpAny_bind (m := Builtin.Tuple.tupleExact _) (wpAny_newObj_type (wpAny_bind (wpAny_pure (wpAny_pure ⟨_, rfl, wpAny_pure h⟩))) hfit)
    | exact wpAny_bind (wpAny_bind (m := Builtin.Tuple.tupleExact _) (wpAny_newObj_type (wpAny_pure (wpAny_pure ⟨_, rfl, wpAny_pure h⟩)) hfit))
    | exact wpAny_bind (wpAny_bind (m := Builtin.Tuple.tupleExact _) (wpAny_newObj_type (wpAny_pure ⟨_, rfl, wpAny_pure h⟩) hfit))
end
section
variable {X : Cx}
def tRevT (K : PySem.W.Frag) (te : TE) : TE := fun σ H Q => te σ H fun x H1 => ∃ a xs, x = .ref a ∧ SqT K H1 a xs ∧ ∀ p, H1 p = none → Q (.ref p) (upd H1 p (.tup xs.reverse))
theorem pe_revT {e : Expr} {te : TE} {k : Nat} {p1 p2 p3 pos : Pos} (he : PE X e te) : PE X (.Subscript e (.Slice none none (some (.UnaryOp .USub (.Constant (.int 1) k p1) p2)) p3) pos) (tRevT X.K te) := by
  refine ⟨fun pins s σ H Q I h => ?_⟩
  refine Subscript_ (thn (he.run pins s σ H _ I h) fun v s1 ⟨x, H1, I1, r1, q1⟩ => ?_)
  obtain ⟨a, xs, ex, hx, q⟩ := q1
  subst ex
  cases r1
  have byOne : PO X (some (.UnaryOp .USub (.Constant (.int 1) k p1) p2)) (tPart (tUn (rU fun i => .int (-i)) (tC (.int 1)))) := po_some (pe_un un_neg pe_int)
  refine wpAny_Slice (thn (po_none.run pins s1 σ H1 (fun o H2 => o = none ∧ H2 = H1) I1 ⟨rfl, rfl⟩) fun vl s2 ⟨l, H2, I2, pl, el, e2⟩ => ?_)
  subst el e2
  refine thn (po_none.run pins s2 σ H2 (fun o H3 => o = none ∧ H3 = H2) I2 ⟨rfl, rfl⟩) fun vu s3 ⟨u, H3, I3, pu, eu, e3⟩ => ?_
  subst eu e3
  refine thn (byOne.run pins s3 σ H3 (fun o H4 => o = some (-1) ∧ H4 = H3) I3 ⟨1, rfl, -1, rfl, rfl, rfl⟩) fun vs s4 ⟨o, H4, I4, ps, eo, e4⟩ => ?_
  subst eo e4
  have I5 : Inv X pins σ H4 { s4 with heap := s4.heap.push { cls := .type "slice", data := .fields #[vl, vu, vs] } } := I4.kept (t' := s4.toks) fun b ob q => Heap.get?_push_of_some _ q
  obtain ⟨its, r, ht, hz⟩ := I5.tuple hx
  have hlen := r.length
  show wpAny (model X.prog X.w) X.A (subscriptTail e (.Slice none none (some (.UnaryOp .USub (.Constant (.int 1) k p1) p2)) p3) (.ref a) (.ref s4.heap.objs.size)) (EP X pins σ Q) X.xe { s4 with heap := s4.heap.push { cls := .type "slice", data := .fields #[vl, vu, vs] } }
  refine tail_any (ops := [.ref a, .ref s4.heap.objs.size]) ht.typeIs (PyProof.Rows.slot_tuple_getitem.lookup) ?_ (by with_unfolding_all rfl)
  refine item_back ht (Heap.IsSliceOf.new _ vl vu vs) pl pu ps ?_ (by rw [List.size_toArray]; omega)
  refine ⟨.ref _, _, I5.laid (t' := s4.toks) (o := .tup xs.reverse) (fun b ob q => Heap.get?_push_of_some _ q) (Nat.le_refl _) ?_, rfl, q _ (I5.hok.fresh (Nat.le_refl _))⟩
  exact ⟨by rw [List.length_reverse]; exact hz, _, r.reverse, IsTup.new _ _⟩
def txt (b : Bool) : Str := if b then "True" else "False"
theorem call_repr_bl : CallR X (.builtin "repr") (fun xs H Q => ∃ b, xs = [.bl b] ∧ Q (.str (txt b)) H) := by
  intro pins s σ H xs us Q I r h
  obtain ⟨b, rfl, q⟩ := h
  obtain ⟨u, rfl, e⟩ := vals1 r
  cases e
  exact PySem.P.repr_of_bool ⟨.str (txt b), H, I.tok _, ⟨_, rfl⟩, q⟩
end
end TK

set_option maxRecDepth 100000
/-! anything: data at any depth -/
namespace TK
open PySem PySem.Spec PyProof.Rows L2
theorem sqT_same {K : PySem.W.Frag} {H H' : Hp} {a : Addr} {xs : List V} (e : Same H H') (h : SqT K H a xs) : SqT K H' a xs := by
  rcases h with (h | ⟨o, h⟩) | h
  · exact .inl (.inl (e _ _ h))
  · exact .inl (.inr ⟨o, e _ _ h⟩)
  · exact .inr h
end TK
namespace L2
open PySem PySem.Spec PyProof.Rows TK
mutual
theorem Dp.same {K : PySem.W.Frag} {H H' : Hp} (e : Same H H') : ∀ {v : V} {d : PyData}, Dp K H v d → Dp K H' v d
  | _, _, .non => .non
  | _, _, .bl b => .bl b
  | _, _, .int i => .int i
  | _, _, .str x => .str x
  | _, _, .lst h a => .lst (e.seq h) (DpAll.same e a)
  | _, _, .tup h a => .tup (sqT_same e h) (DpAll.same e a)
theorem DpAll.same {K : PySem.W.Frag} {H H' : Hp} (e : Same H H') : ∀ {vs : List V} {ds : List PyData}, DpAll K H vs ds → DpAll K H' vs ds
  | _, _, .nil => .nil
  | _, _, .cons a b => .cons (Dp.same e a) (DpAll.same e b)
end
section
variable {K : PySem.W.Frag} {H : Hp}
theorem DpAll.len : ∀ {vs : List V} {ds : List PyData}, DpAll K H vs ds → vs.length = ds.length
  | _, _, .nil => rfl
  | _, _, .cons _ b => by simp [DpAll.len b]
theorem DpAll.get : ∀ {vs : List V} {ds : List PyData}, DpAll K H vs ds → ∀ {i : Nat} {v : V}, vs[i]? = some v → ∃ d, ds[i]? = some d ∧ Dp K H v d
  | _, _, .nil, _, _, h => by cases h
  | _, _, .cons a b, 0, v, h => by cases h; exact ⟨_, rfl, a⟩
  | _, _, .cons a b, i + 1, v, h => by
    obtain ⟨d, h1, h2⟩ := DpAll.get b (i := i) (v := v) (by simpa using h)
    exact ⟨d, by simpa using h1, h2⟩
theorem DpAll.app : ∀ {vs ws : List V} {ds es : List PyData}, DpAll K H vs ds → DpAll K H ws es → DpAll K H (vs ++ ws) (ds ++ es)
  | _, _, _, _, .nil, h => h
  | _, _, _, _, .cons a b, h => .cons a (DpAll.app b h)
theorem DpAll.take : ∀ {vs : List V} {ds : List PyData} (n : Nat), DpAll K H vs ds → DpAll K H (vs.take n) (ds.take n)
  | _, _, 0, _ => by rw [List.take_zero, List.take_zero]; exact .nil
  | _, _, _ + 1, .nil => .nil
  | _, _, n + 1, .cons a b => .cons a (DpAll.take n b)
theorem DpAll.drop : ∀ {vs : List V} {ds : List PyData} (n : Nat), DpAll K H vs ds → DpAll K H (vs.drop n) (ds.drop n)
  | _, _, 0, h => h
  | _, _, _ + 1, .nil => .nil
  | _, _, n + 1, .cons _ b => DpAll.drop n b
theorem DpAll.set : ∀ {vs : List V} {ds : List PyData} {v : V} {d : PyData} (n : Nat), DpAll K H vs ds → Dp K H v d → DpAll K H (vs.set n v) (ds.set n d)
  | _, _, _, _, _, .nil, _ => .nil
  | _, _, _, _, 0, .cons _ b, h => .cons h b
  | _, _, _, _, n + 1, .cons a b, h => .cons a (DpAll.set n b h)
theorem DpAll.rev : ∀ {vs : List V} {ds : List PyData}, DpAll K H vs ds → DpAll K H vs.reverse ds.reverse
  | _, _, .nil => .nil
  | _, _, .cons a b => by
    rw [List.reverse_cons, List.reverse_cons]
    exact (DpAll.rev b).app (.cons a .nil)
end
end L2
namespace TK
open PySem PySem.Spec PyProof.Rows L2
section
variable {K : PySem.W.Frag} {H : Hp}
/-- its type -/
def tyN : PyData → String
  | .none => "NoneType" | .bool _ => "bool" | .int _ => "int" | .str _ => "str" | .list _ => "list" | .tuple _ => "tuple" | .dict _ => "dict"
theorem tyD : ∀ {v : V} {d : PyData}, Dp K H v d → TyX K H v (.type (tyN d))
  | _, _, .non => .base .non
  | _, _, .bl b => .base (.bl b)
  | _, _, .int i => .base (.int i)
  | _, _, .str x => .base (.str x)
  | _, _, .lst h _ => by
    rcases h with (h | ⟨o, h⟩) | ⟨o, its, n, h1, h2, _⟩
    · exact .base (.lst h)
    · exact .base (.frz h)
    · exact .kList h1 h2
  | _, _, .tup h _ => by
    rcases h with (h | ⟨o, h⟩) | ⟨o, its, n, h1, h2, _⟩
    · exact .base (.tup h)
    · exact .fTuple h
    · exact .kTuple h1 h2
/-- isinstance(x, T), told by kinds -/
theorem isi_D {v : V} {d : PyData} {T : String} {b : Bool} {Q : VK} (h : Dp K H v d) (hk : ∀ K : PySem.W.Frag, PySem.W.kitOne K (.type (tyN d)) (.type T) = some b) (q : Q (.bl b) H) : rIsi K [v, .ty T] H Q :=
  ⟨v, .ty T, _, _, b, rfl, .ty T, tyD h, hk K, q⟩
def isT : PyData → Bool
  | .tuple _ => true
  | _ => false
def isS : PyData → Bool
  | .tuple _ => true
  | .list _ => true
  | _ => false
theorem kit_tup (d : PyData) (hd : ∀ kvs, d ≠ .dict kvs) (K : PySem.W.Frag) : PySem.W.kitOne K (.type (tyN d)) (.type "tuple") = some (isT d) := by
  cases d with
  | none => exact kit_ty (a := "NoneType") (b := "tuple") (r := false) (by decide +kernel)
  | bool b => exact kit_ty (a := "bool") (b := "tuple") (r := false) (by decide +kernel)
  | int i => exact kit_ty (a := "int") (b := "tuple") (r := false) (by decide +kernel)
  | str x => exact kit_ty (a := "str") (b := "tuple") (r := false) (by decide +kernel)
  | list xs => exact kit_ty (a := "list") (b := "tuple") (r := false) (by decide +kernel)
  | tuple xs => exact kit_ty (a := "tuple") (b := "tuple") (r := true) (by decide +kernel)
  | dict kvs => exact absurd rfl (hd kvs)
theorem nodict {v : V} {d : PyData} (h : Dp K H v d) : ∀ kvs, d ≠ .dict kvs := fun kvs e => by
  subst e
  cases h
def wholeD (d : PyData) (lo hi : Int) : Bool := match d with
  | .int n => decide (lo ≤ n) && decide (n ≤ hi)
  | _ => false
def takerD : PyData → Bool
  | .tuple [a, b] => wholeD a 2 1000 && (match a with | .int e => wholeD b 0 (e - 1) | _ => false)
  | _ => false
def rowD : PyData → Bool
  | .tuple ds => decide (ds.length ≤ 8) && ds.all takerD
  | _ => false
end
/-! what a display gives -/
section
variable {K : PySem.W.Frag} {σ : L2.St} {H0 : Hp}
/-- from the heap H0 on (or one that keeps it) the expression gives the data d -/
def Ev (K : PySem.W.Frag) (σ : L2.St) (H0 : Hp) (t : TE) (d : PyData) : Prop := ∀ (H : Hp) (Q : VK), Same H0 H → (∀ v H', Same H H' → Dp K H' v d → Q v H') → t σ H Q
def Evs (K : PySem.W.Frag) (σ : L2.St) (H0 : Hp) (t : TA) (ds : List PyData) : Prop := ∀ (H : Hp) (Q : List V → Hp → Prop), Same H0 H → (∀ vs H', Same H H' → DpAll K H' vs ds → Q vs H') → t σ H Q
theorem evC {v : V} {d : PyData} (h : ∀ H, Dp K H v d) : Ev K σ H0 (tC v) d := fun H Q _ q => q v H (Same.refl _) (h H)
theorem evNon : Ev K σ H0 (tC .non) .none := evC fun _ => .non
theorem evBl {b : Bool} : Ev K σ H0 (tC (.bl b)) (.bool b) := evC fun _ => .bl b
theorem evInt {i : Int} : Ev K σ H0 (tC (.int i)) (.int i) := evC fun _ => .int i
theorem evStr {x : Str} : Ev K σ H0 (tC (.str x)) (.str x) := evC fun _ => .str x
theorem evVar {i : Nat} {v : V} {d : PyData} (hs : σ[i]? = some (some v)) (h : Dp K H0 v d) : Ev K σ H0 (tVar i) d := fun H Q s q => ⟨v, hs, q v H (Same.refl _) (h.same s)⟩
theorem evNeg {i : Int} : Ev K σ H0 (tUn (rU fun i => .int (-i)) (tC (.int i))) (.int (-i)) := fun H Q _ q => ⟨i, rfl, q _ H (Same.refl _) (.int _)⟩
theorem evPow {i j : Int} (h : CPow i j) : Ev K σ H0 (tOp (rI CPow fun i j => .int (i ^ j.toNat)) (tC (.int i)) (tC (.int j))) (.int (i ^ j.toNat)) := fun H Q _ q => ⟨i, j, rfl, rfl, h, q _ H (Same.refl _) (.int _)⟩
theorem evPow1 {i j k : Int} (h : CPow i j) : Ev K σ H0 (tOp (rI0 fun i j => .int (i + j)) (tOp (rI CPow fun i j => .int (i ^ j.toNat)) (tC (.int i)) (tC (.int j))) (tC (.int k))) (.int (i ^ j.toNat + k)) := fun H Q _ q => ⟨i, j, rfl, rfl, h, _, k, rfl, rfl, q _ H (Same.refl _) (.int _)⟩
theorem evNil : Evs K σ H0 tNil [] := fun H Q _ q => q [] H (Same.refl _) .nil
theorem evCons {t : TE} {ts : TA} {d : PyData} {ds : List PyData} (h : Ev K σ H0 t d) (hs : Evs K σ H0 ts ds) : Evs K σ H0 (tCons t ts) (d :: ds) := fun H Q s q =>
  h H _ s fun v H1 s1 d1 => hs H1 _ (s.trans s1) fun vs H2 s2 d2 => q _ H2 (s1.trans s2) (.cons (d1.same s2) d2)
theorem evTup {ts : TA} {ds : List PyData} (h : Evs K σ H0 ts ds) (hl : ds.length ≤ 1000) : Ev K σ H0 (tTup ts) (.tuple ds) := fun H Q s q =>
  h H _ s fun vs H1 s1 d1 => ⟨by rw [d1.len]; exact Nat.le_of_lt (small1000 hl), fun p np => q _ _ (s1.trans (same_new np)) (.tup (st_of upd_same) (d1.same (same_new np)))⟩
theorem evLst {ts : TA} {ds : List PyData} (h : Evs K σ H0 ts ds) (hl : ds.length ≤ 1000) : Ev K σ H0 (tLst ts) (.list ds) := fun H Q s q =>
  h H _ s fun vs H1 s1 d1 => ⟨by rw [d1.len]; exact Nat.le_of_lt (small1000 hl), fun p np => q _ _ (s1.trans (same_new np)) (.lst (sq_of upd_same) (d1.same (same_new np)))⟩
end
/-- a display of a list, and where it stands -/
theorem lst_use {K : PySem.W.Frag} {σ : L2.St} {H : Hp} {Q : VK} {ts : TA} {ds : List PyData} (h : Evs K σ H ts ds) (hl : ds.length ≤ 1000)
    (q : ∀ p vs H', Same H H' → H p = none → H' p = some (.lst vs) → DpAll K H' vs ds → Q (.ref p) H') : tLst ts σ H Q :=
  h H _ (Same.refl _) fun vs H1 s1 d1 => ⟨by rw [d1.len]; exact Nat.le_of_lt (small1000 hl), fun p np => q p vs _ (s1.trans (same_new np)) (s1.free np) upd_same (d1.same (same_new np))⟩
theorem asg_lst {ta : TA} {u : TS} {D : Ends} {σ : L2.St} {H : Hp} {i : Nat} (h : tLst ta σ H (fun x H1 => u D (σ.set i (some x)) H1)) : tSeq (tAsg (tLst ta) (gName i)) u D σ H := h
theorem asg_cat {ta : TA} {u : TS} {D : Ends} {σ : L2.St} {H : Hp} {i j : Nat} {l : Addr} (hv : σ[i]? = some (some (.ref l))) (h : tLst ta σ H (fun y H2 => rCat (.ref l) y H2 (fun x H1 => u D (σ.set j (some x)) H1))) :
    tSeq (tAsg (tOp rCat (tVar i) (tLst ta)) (gName j)) u D σ H := ⟨_, hv, h⟩
/-- two ways that come together -/
theorem seq_join {t u : TS} {D : Ends} {σ : L2.St} {H : Hp} (J : L2.St → Hp → Prop) (ht : ∀ D' : Ends, (∀ σ H, J σ H → D'.nx σ H) → t D' σ H) (hu : ∀ σ H, J σ H → u D σ H) : tSeq t u D σ H := ht _ hu
/-- not deeper than n, no list or tuple longer than w -/
def Sm (w : Nat) : Nat → PyData → Prop
  | _, .none => True
  | _, .bool _ => True
  | _, .int _ => True
  | _, .str _ => True
  | _, .dict _ => False
  | 0, .list _ => False
  | 0, .tuple _ => False
  | n + 1, .list xs => xs.length ≤ w ∧ ∀ x ∈ xs, Sm w n x
  | n + 1, .tuple xs => xs.length ≤ w ∧ ∀ x ∈ xs, Sm w n x
theorem Sm.mono {w w' : Nat} (hw : w ≤ w') : ∀ {n n' : Nat} {d : PyData}, n ≤ n' → Sm w n d → Sm w' n' d
  | n, n', .none, _, _ => by cases n' <;> trivial
  | n, n', .bool _, _, _ => by cases n' <;> trivial
  | n, n', .int _, _, _ => by cases n' <;> trivial
  | n, n', .str _, _, _ => by cases n' <;> trivial
  | n, n', .dict _, _, h => by cases n <;> exact h.elim
  | 0, _, .list _, _, h => h.elim
  | 0, _, .tuple _, _, h => h.elim
  | n + 1, n' + 1, .list xs, hn, h => ⟨Nat.le_trans h.1 hw, fun x hx => Sm.mono hw (Nat.le_of_succ_le_succ hn) (h.2 x hx)⟩
  | n + 1, n' + 1, .tuple xs, hn, h => ⟨Nat.le_trans h.1 hw, fun x hx => Sm.mono hw (Nat.le_of_succ_le_succ hn) (h.2 x hx)⟩
  | n + 1, 0, .list _, hn, _ => by omega
  | n + 1, 0, .tuple _, hn, _ => by omega
def smB (w : Nat) : Nat → PyData → Bool
  | _, .none => true
  | _, .bool _ => true
  | _, .int _ => true
  | _, .str _ => true
  | _, .dict _ => false
  | 0, .list _ => false
  | 0, .tuple _ => false
  | n + 1, .list xs => decide (xs.length ≤ w) && xs.all (smB w n)
  | n + 1, .tuple xs => decide (xs.length ≤ w) && xs.all (smB w n)
theorem sm_of {w : Nat} : ∀ {n : Nat} {d : PyData}, smB w n d = true → Sm w n d
  | n, .none, _ => by cases n <;> trivial
  | n, .bool _, _ => by cases n <;> trivial
  | n, .int _, _ => by cases n <;> trivial
  | n, .str _, _ => by cases n <;> trivial
  | 0, .dict _, h => by cases h
  | n + 1, .dict _, h => by cases h
  | 0, .list _, h => by cases h
  | 0, .tuple _, h => by cases h
  | n + 1, .list xs, h => by
    have h : (decide (xs.length ≤ w) && xs.all (smB w n)) = true := h
    rw [Bool.and_eq_true, List.all_eq_true] at h
    exact ⟨of_decide_eq_true h.1, fun x hx => sm_of (h.2 x hx)⟩
  | n + 1, .tuple xs, h => by
    have h : (decide (xs.length ≤ w) && xs.all (smB w n)) = true := h
    rw [Bool.and_eq_true, List.all_eq_true] at h
    exact ⟨of_decide_eq_true h.1, fun x hx => sm_of (h.2 x hx)⟩
theorem txt_ne {b : Bool} {H : Hp} {Q : VK} (q : Q (.bl false) H) : rNe (.str (txt b)) (.str (txt b)) H Q := by
  refine ⟨rfl, ?_⟩
  rw [decide_eq_true rfl]
  exact q
end TK

set_option maxRecDepth 100000
/-! data that stands in the tracked heap alone; some of it hidden -/
namespace TK
open PySem PySem.Spec PyProof.Rows L2
mutual
inductive DT (H : Hp) : V → PyData → Prop
  | non : DT H .non .none
  | bl (b : Bool) : DT H (.bl b) (.bool b)
  | int (i : Int) : DT H (.int i) (.int i)
  | str (x : Str) : DT H (.str x) (.str x)
  | lst {a : Addr} {xs : List V} {ds : List PyData} : H a = some (.lst xs) → DTs H xs ds → DT H (.ref a) (.list ds)
  | tup {a : Addr} {xs : List V} {ds : List PyData} : H a = some (.tup xs) → DTs H xs ds → DT H (.ref a) (.tuple ds)
inductive DTs (H : Hp) : List V → List PyData → Prop
  | nil : DTs H [] []
  | cons {v : V} {vs : List V} {d : PyData} {ds : List PyData} : DT H v d → DTs H vs ds → DTs H (v :: vs) (d :: ds)
end
mutual
theorem DT.dp {K : PySem.W.Frag} {H : Hp} : ∀ {v : V} {d : PyData}, DT H v d → Dp K H v d
  | _, _, .non => .non
  | _, _, .bl b => .bl b
  | _, _, .int i => .int i
  | _, _, .str x => .str x
  | _, _, .lst h a => .lst (sq_of h) (DTs.dp a)
  | _, _, .tup h a => .tup (st_of h) (DTs.dp a)
theorem DTs.dp {K : PySem.W.Frag} {H : Hp} : ∀ {vs : List V} {ds : List PyData}, DTs H vs ds → DpAll K H vs ds
  | _, _, .nil => .nil
  | _, _, .cons a b => .cons (DT.dp a) (DTs.dp b)
end
mutual
theorem DT.same {H H' : Hp} (e : Same H H') : ∀ {v : V} {d : PyData}, DT H v d → DT H' v d
  | _, _, .non => .non
  | _, _, .bl b => .bl b
  | _, _, .int i => .int i
  | _, _, .str x => .str x
  | _, _, .lst h a => .lst (e _ _ h) (DTs.same e a)
  | _, _, .tup h a => .tup (e _ _ h) (DTs.same e a)
theorem DTs.same {H H' : Hp} (e : Same H H') : ∀ {vs : List V} {ds : List PyData}, DTs H vs ds → DTs H' vs ds
  | _, _, .nil => .nil
  | _, _, .cons a b => .cons (DT.same e a) (DTs.same e b)
end
section
variable {H : Hp}
theorem DTs.len : ∀ {vs : List V} {ds : List PyData}, DTs H vs ds → vs.length = ds.length
  | _, _, .nil => rfl
  | _, _, .cons _ b => by simp [DTs.len b]
theorem DTs.get : ∀ {vs : List V} {ds : List PyData}, DTs H vs ds → ∀ {i : Nat} {v : V}, vs[i]? = some v → ∃ d, ds[i]? = some d ∧ DT H v d
  | _, _, .nil, _, _, h => by cases h
  | _, _, .cons a b, 0, v, h => by cases h; exact ⟨_, rfl, a⟩
  | _, _, .cons a b, i + 1, v, h => by
    obtain ⟨d, h1, h2⟩ := DTs.get b (i := i) (v := v) (by simpa using h)
    exact ⟨d, by simpa using h1, h2⟩
theorem DTs.at : ∀ {vs : List V} {ds : List PyData}, DTs H vs ds → ∀ {i : Nat} {v : V} {d : PyData}, vs[i]? = some v → ds[i]? = some d → DT H v d
  | _, _, h, i, v, d, h1, h2 => by
    obtain ⟨d', h3, h4⟩ := h.get h1
    rw [h2] at h3
    cases h3
    exact h4
theorem DTs.app : ∀ {vs ws : List V} {ds es : List PyData}, DTs H vs ds → DTs H ws es → DTs H (vs ++ ws) (ds ++ es)
  | _, _, _, _, .nil, h => h
  | _, _, _, _, .cons a b, h => .cons a (DTs.app b h)
theorem DTs.take : ∀ {vs : List V} {ds : List PyData} (n : Nat), DTs H vs ds → DTs H (vs.take n) (ds.take n)
  | _, _, 0, _ => by rw [List.take_zero, List.take_zero]; exact .nil
  | _, _, _ + 1, .nil => .nil
  | _, _, n + 1, .cons a b => .cons a (DTs.take n b)
theorem DTs.drop : ∀ {vs : List V} {ds : List PyData} (n : Nat), DTs H vs ds → DTs H (vs.drop n) (ds.drop n)
  | _, _, 0, h => h
  | _, _, _ + 1, .nil => .nil
  | _, _, n + 1, .cons _ b => DTs.drop n b
theorem DTs.set : ∀ {vs : List V} {ds : List PyData} {v : V} {d : PyData} (n : Nat), DTs H vs ds → DT H v d → DTs H (vs.set n v) (ds.set n d)
  | _, _, _, _, _, .nil, _ => .nil
  | _, _, _, _, 0, .cons _ b, h => .cons h b
  | _, _, _, _, n + 1, .cons a b, h => .cons a (DTs.set n b h)
theorem DTs.rev : ∀ {vs : List V} {ds : List PyData}, DTs H vs ds → DTs H vs.reverse ds.reverse
  | _, _, .nil => .nil
  | _, _, .cons a b => by
    rw [List.reverse_cons, List.reverse_cons]
    exact (DTs.rev b).app (.cons a .nil)
end
/-- the heap with some of it out of sight -/
noncomputable def hide (X : Addr → Prop) (H : Hp) : Hp := fun b => @ite _ (X b) (Classical.propDecidable _) none (H b)
section
variable {X : Addr → Prop} {H H' : Hp}
theorem hide_at {b : Addr} (h : ¬ X b) : hide X H b = H b := by unfold hide; rw [if_neg h]
theorem hide_no {b : Addr} (h : X b) : hide X H b = none := by unfold hide; rw [if_pos h]
theorem hide_some {b : Addr} {o : HO} (h : hide X H b = some o) : ¬ X b ∧ H b = some o := by
  by_cases hx : X b
  · rw [hide_no hx] at h
    cases h
  · rw [hide_at hx] at h
    exact ⟨hx, h⟩
theorem hide_sub : Same (hide X H) H := fun b o h => (hide_some h).2
theorem hide_same (s : Same H H') : Same (hide X H) (hide X H') := fun b o h => by
  obtain ⟨h1, h2⟩ := hide_some h
  rw [hide_at h1]
  exact s b o h2
theorem hide_none (hx : ∀ b, ¬ X b) : hide X H = H := funext fun b => hide_at (hx b)
/-- out of sight only what stands -/
def InH (X : Addr → Prop) (H : Hp) : Prop := ∀ b, X b → H b ≠ none
theorem InH.new {p : Addr} (h : InH X H) (np : H p = none) : ¬ X p := fun hx => h p hx np
theorem InH.same (h : InH X H) (s : Same H H') : InH X H' := fun b hx hn => by
  cases q : H b with
  | none => exact h b hx q
  | some o => rw [s b o q] at hn; cases hn
end
/-- seen from H on: whatever was out of sight at H, d is told all the same -/
def New (H H' : Hp) (v : V) (d : PyData) : Prop := ∀ X, InH X H → DT (hide X H') v d
def News (H H' : Hp) (vs : List V) (ds : List PyData) : Prop := ∀ X, InH X H → DTs (hide X H') vs ds
theorem New.dt {H H' : Hp} {v : V} {d : PyData} (h : New H H' v d) : DT H' v d := by
  have := h (fun _ => False) (fun b hb => hb.elim)
  rwa [hide_none (fun b hb => hb)] at this
theorem News.dt {H H' : Hp} {vs : List V} {ds : List PyData} (h : News H H' vs ds) : DTs H' vs ds := by
  have := h (fun _ => False) (fun b hb => hb.elim)
  rwa [hide_none (fun b hb => hb)] at this
section
variable {σ : L2.St}
def Ef (σ : L2.St) (t : TE) (d : PyData) : Prop := ∀ (H : Hp) (Q : VK), (∀ v H', Same H H' → New H H' v d → Q v H') → t σ H Q
def Efs (σ : L2.St) (t : TA) (ds : List PyData) : Prop := ∀ (H : Hp) (Q : List V → Hp → Prop), (∀ vs H', Same H H' → News H H' vs ds → Q vs H') → t σ H Q
theorem efC {v : V} {d : PyData} (h : ∀ H, DT H v d) : Ef σ (tC v) d := fun H Q q => q v H (Same.refl _) fun X _ => h _
theorem efNon : Ef σ (tC .non) .none := efC fun _ => .non
theorem efBl {b : Bool} : Ef σ (tC (.bl b)) (.bool b) := efC fun _ => .bl b
theorem efInt {i : Int} : Ef σ (tC (.int i)) (.int i) := efC fun _ => .int i
theorem efStr {x : Str} : Ef σ (tC (.str x)) (.str x) := efC fun _ => .str x
theorem efNeg {i : Int} : Ef σ (tUn (rU fun i => .int (-i)) (tC (.int i))) (.int (-i)) := fun H Q q => ⟨i, rfl, q _ H (Same.refl _) fun X _ => .int _⟩
theorem efPow {i j : Int} (h : CPow i j) : Ef σ (tOp (rI CPow fun i j => .int (i ^ j.toNat)) (tC (.int i)) (tC (.int j))) (.int (i ^ j.toNat)) := fun H Q q => ⟨i, j, rfl, rfl, h, q _ H (Same.refl _) fun X _ => .int _⟩
theorem efPow1 {i j k : Int} (h : CPow i j) : Ef σ (tOp (rI0 fun i j => .int (i + j)) (tOp (rI CPow fun i j => .int (i ^ j.toNat)) (tC (.int i)) (tC (.int j))) (tC (.int k))) (.int (i ^ j.toNat + k)) := fun H Q q => ⟨i, j, rfl, rfl, h, _, k, rfl, rfl, q _ H (Same.refl _) fun X _ => .int _⟩
theorem efNil : Efs σ tNil [] := fun H Q q => q [] H (Same.refl _) fun X _ => .nil
theorem efCons {t : TE} {ts : TA} {d : PyData} {ds : List PyData} (h : Ef σ t d) (hs : Efs σ ts ds) : Efs σ (tCons t ts) (d :: ds) := fun H Q q =>
  h H _ fun v H1 s1 d1 => hs H1 _ fun vs H2 s2 d2 => q _ H2 (s1.trans s2) fun X hX => .cons ((d1 X hX).same (hide_same s2)) (d2 X (hX.same s1))
theorem hide_new {X : Addr → Prop} {H : Hp} {p : Addr} {o : HO} (h : ¬ X p) : hide X (upd H p o) p = some o := by rw [hide_at h, upd_same]
theorem efTup {ts : TA} {ds : List PyData} (h : Efs σ ts ds) (hl : ds.length ≤ 1000) : Ef σ (tTup ts) (.tuple ds) := fun H Q q =>
  h H _ fun vs H1 s1 d1 => ⟨by rw [d1.dt.len]; exact Nat.le_of_lt (small1000 hl), fun p np => q _ _ (s1.trans (same_new np)) fun X hX => .tup (hide_new ((hX.same s1).new np)) ((d1 X hX).same (hide_same (same_new np)))⟩
theorem efLst {ts : TA} {ds : List PyData} (h : Efs σ ts ds) (hl : ds.length ≤ 1000) : Ef σ (tLst ts) (.list ds) := fun H Q q =>
  h H _ fun vs H1 s1 d1 => ⟨by rw [d1.dt.len]; exact Nat.le_of_lt (small1000 hl), fun p np => q _ _ (s1.trans (same_new np)) fun X hX => .lst (hide_new ((hX.same s1).new np)) ((d1 X hX).same (hide_same (same_new np)))⟩
theorem lst_new {H : Hp} {Q : VK} {ts : TA} {ds : List PyData} (h : Efs σ ts ds) (hl : ds.length ≤ 1000)
    (q : ∀ p vs H', Same H H' → H p = none → H' p = some (.lst vs) → News H H' vs ds → Q (.ref p) H') : tLst ts σ H Q :=
  h H _ fun vs H1 s1 d1 => ⟨by rw [d1.dt.len]; exact Nat.le_of_lt (small1000 hl), fun p np => q p vs _ (s1.trans (same_new np)) (s1.free np) upd_same fun X hX => (d1 X hX).same (hide_same (same_new np))⟩
end
end TK

namespace Lk01
open PySem PySem.Spec PyProof.Rows L2 TK
def topS (i : Nat) : Stmt := PySem.Challenge.pw_takenth_k01_rows_known.main.body.getD i (.Pass ⟨0, 0, 0, 0⟩)
abbrev s_is_whole : Stmt := topS 1
theorem sc_is_whole : FnScope ["thing", "least", "most"] ["thing", "least", "most"] (defScope s_is_whole) := ⟨rfl, rfl, rfl, by decide +kernel, rfl, by decide +kernel, by decide +kernel⟩
abbrev s_is_taker : Stmt := topS 6
theorem sc_is_taker : FnScope ["thing", "every", "counted"] ["thing"] (defScope s_is_taker) := ⟨rfl, rfl, rfl, by decide +kernel, rfl, by decide +kernel, by decide +kernel⟩
abbrev s_is_row : Stmt := topS 7
theorem sc_is_row : FnScope ["thing", "part"] ["thing"] (defScope s_is_row) := ⟨rfl, rfl, rfl, by decide +kernel, rfl, by decide +kernel, by decide +kernel⟩
abbrev s__law_cell_at : Stmt := topS 9
theorem sc__law_cell_at : FnScope ["script", "k"] ["script", "k"] (defScope s__law_cell_at) := ⟨rfl, rfl, rfl, by decide +kernel, rfl, by decide +kernel, by decide +kernel⟩
abbrev s__law_draws : Stmt := topS 10
theorem sc__law_draws : FnScope ["cell", "many", "size", "found", "rest", "stirred", "k"] ["cell", "many", "size"] (defScope s__law_draws) := ⟨rfl, rfl, rfl, by decide +kernel, rfl, by decide +kernel, by decide +kernel⟩
abbrev s__law_spoilt : Stmt := topS 11
theorem sc__law_spoilt : FnScope ["thing", "picks", "pieces", "at", "turn_by"] ["thing", "picks"] (defScope s__law_spoilt) := ⟨rfl, rfl, rfl, by decide +kernel, rfl, by decide +kernel, by decide +kernel⟩
abbrev s__law_from : Stmt := topS 12
theorem sc__law_from : FnScope ["thing", "least", "top"] ["thing", "least", "top"] (defScope s__law_from) := ⟨rfl, rfl, rfl, by decide +kernel, rfl, by decide +kernel, by decide +kernel⟩
abbrev s__law_bag : Stmt := topS 13
theorem sc__law_bag : FnScope ["script", "k"] ["script", "k"] (defScope s__law_bag) := ⟨rfl, rfl, rfl, by decide +kernel, rfl, by decide +kernel, by decide +kernel⟩
abbrev s__law_bags : Stmt := topS 14
theorem sc__law_bags : FnScope ["script", "limit", "k"] ["script", "limit"] (defScope s__law_bags) := ⟨rfl, rfl, rfl, by decide +kernel, rfl, by decide +kernel, by decide +kernel⟩
abbrev s__law_take : Stmt := topS 15
theorem sc__law_take : FnScope ["bag", "many"] ["bag", "many"] (defScope s__law_take) := ⟨rfl, rfl, rfl, by decide +kernel, rfl, by decide +kernel, by decide +kernel⟩
abbrev s__law_odd : Stmt := topS 16
theorem sc__law_odd : FnScope ["picks", "odd"] ["picks"] (defScope s__law_odd) := ⟨rfl, rfl, rfl, by decide +kernel, rfl, by decide +kernel, by decide +kernel⟩
abbrev s__law_taker : Stmt := topS 17
theorem sc__law_taker : FnScope ["bag", "far", "every"] ["bag", "far"] (defScope s__law_taker) := ⟨rfl, rfl, rfl, by decide +kernel, rfl, by decide +kernel, by decide +kernel⟩
abbrev s__law_drawn_row : Stmt := topS 18
theorem sc__law_drawn_row : FnScope ["bag", "takers", "far", "turn"] ["bag", "takers", "far"] (defScope s__law_drawn_row) := ⟨rfl, rfl, rfl, by decide +kernel, rfl, by decide +kernel, by decide +kernel⟩
abbrev s__law_is_row : Stmt := topS 19
theorem sc__law_is_row : FnScope ["thing", "one"] ["thing"] (defScope s__law_is_row) := ⟨rfl, rfl, rfl, by decide +kernel, rfl, by decide +kernel, by decide +kernel⟩
abbrev s_law : Stmt := topS 20
theorem sc_law : FnScope ["script", "bag", "house", "once", "things", "some", "one", "thing"] ["script"] (defScope s_law) := ⟨rfl, rfl, rfl, by decide +kernel, rfl, by decide +kernel, by decide +kernel⟩
structure Top (K : PySem.W.Frag) (mg : Str → Option Value) where
  a_is_whole : Addr
  fd_is_whole : FuncData
  F_is_whole : Fun K "is_whole" "is_whole" s_is_whole a_is_whole fd_is_whole
  b_is_whole : Binds K fd_is_whole ["thing", "least", "most"] []
  g_is_whole : mg "is_whole" = some (.ref a_is_whole)
  a_is_taker : Addr
  fd_is_taker : FuncData
  F_is_taker : Fun K "is_taker" "is_taker" s_is_taker a_is_taker fd_is_taker
  b_is_taker : Binds K fd_is_taker ["thing"] []
  g_is_taker : mg "is_taker" = some (.ref a_is_taker)
  a_is_row : Addr
  fd_is_row : FuncData
  F_is_row : Fun K "is_row" "is_row" s_is_row a_is_row fd_is_row
  b_is_row : Binds K fd_is_row ["thing"] []
  g_is_row : mg "is_row" = some (.ref a_is_row)
  a__law_cell_at : Addr
  fd__law_cell_at : FuncData
  F__law_cell_at : Fun K "_law_cell_at" "_law_cell_at" s__law_cell_at a__law_cell_at fd__law_cell_at
  b__law_cell_at : Binds K fd__law_cell_at ["script", "k"] []
  g__law_cell_at : mg "_law_cell_at" = some (.ref a__law_cell_at)
  a__law_draws : Addr
  fd__law_draws : FuncData
  F__law_draws : Fun K "_law_draws" "_law_draws" s__law_draws a__law_draws fd__law_draws
  b__law_draws : Binds K fd__law_draws ["cell", "many", "size"] []
  g__law_draws : mg "_law_draws" = some (.ref a__law_draws)
  a__law_spoilt : Addr
  fd__law_spoilt : FuncData
  F__law_spoilt : Fun K "_law_spoilt" "_law_spoilt" s__law_spoilt a__law_spoilt fd__law_spoilt
  b__law_spoilt : Binds K fd__law_spoilt ["thing", "picks"] []
  g__law_spoilt : mg "_law_spoilt" = some (.ref a__law_spoilt)
  a__law_from : Addr
  fd__law_from : FuncData
  F__law_from : Fun K "_law_from" "_law_from" s__law_from a__law_from fd__law_from
  b__law_from : Binds K fd__law_from ["thing", "least", "top"] []
  g__law_from : mg "_law_from" = some (.ref a__law_from)
  a__law_bag : Addr
  fd__law_bag : FuncData
  F__law_bag : Fun K "_law_bag" "_law_bag" s__law_bag a__law_bag fd__law_bag
  b__law_bag : Binds K fd__law_bag ["script", "k"] []
  g__law_bag : mg "_law_bag" = some (.ref a__law_bag)
  a__law_bags : Addr
  fd__law_bags : FuncData
  F__law_bags : Fun K "_law_bags" "_law_bags" s__law_bags a__law_bags fd__law_bags
  b__law_bags : Binds K fd__law_bags ["script", "limit"] []
  g__law_bags : mg "_law_bags" = some (.ref a__law_bags)
  a__law_take : Addr
  fd__law_take : FuncData
  F__law_take : Fun K "_law_take" "_law_take" s__law_take a__law_take fd__law_take
  b__law_take : Binds K fd__law_take ["bag", "many"] []
  g__law_take : mg "_law_take" = some (.ref a__law_take)
  a__law_odd : Addr
  fd__law_odd : FuncData
  F__law_odd : Fun K "_law_odd" "_law_odd" s__law_odd a__law_odd fd__law_odd
  b__law_odd : Binds K fd__law_odd ["picks"] []
  g__law_odd : mg "_law_odd" = some (.ref a__law_odd)
  a__law_taker : Addr
  fd__law_taker : FuncData
  F__law_taker : Fun K "_law_taker" "_law_taker" s__law_taker a__law_taker fd__law_taker
  b__law_taker : Binds K fd__law_taker ["bag", "far"] []
  g__law_taker : mg "_law_taker" = some (.ref a__law_taker)
  a__law_drawn_row : Addr
  fd__law_drawn_row : FuncData
  F__law_drawn_row : Fun K "_law_drawn_row" "_law_drawn_row" s__law_drawn_row a__law_drawn_row fd__law_drawn_row
  b__law_drawn_row : Binds K fd__law_drawn_row ["bag", "takers", "far"] []
  g__law_drawn_row : mg "_law_drawn_row" = some (.ref a__law_drawn_row)
  a__law_is_row : Addr
  fd__law_is_row : FuncData
  F__law_is_row : Fun K "_law_is_row" "_law_is_row" s__law_is_row a__law_is_row fd__law_is_row
  b__law_is_row : Binds K fd__law_is_row ["thing"] []
  g__law_is_row : mg "_law_is_row" = some (.ref a__law_is_row)
  a_law : Addr
  fd_law : FuncData
  F_law : Fun K "law" "law" s_law a_law fd_law
  b_law : Binds K fd_law ["script"] []
  g_law : mg "law" = some (.ref a_law)
  t_MOST_TAKERS : Tok
  g_MOST_TAKERS : mg "MOST_TAKERS" = some (.int 8 t_MOST_TAKERS)
  t_LEAST_EVERY : Tok
  g_LEAST_EVERY : mg "LEAST_EVERY" = some (.int 2 t_LEAST_EVERY)
  t_MOST_EVERY : Tok
  g_MOST_EVERY : mg "MOST_EVERY" = some (.int 1000 t_MOST_EVERY)
  z_all : mg "all" = none
  z_bool : mg "bool" = none
  z_int : mg "int" = none
  z_isinstance : mg "isinstance" = none
  z_len : mg "len" = none
  z_list : mg "list" = none
  z_max : mg "max" = none
  z_min : mg "min" = none
  z_range : mg "range" = none
  z_repr : mg "repr" = none
  z_tuple : mg "tuple" = none
section
variable {P : Program} {w : World} {K : PySem.W.Frag} {mg : Str → Option Value} {base : Heap}
/-! the program, of anything -/
def spWholeD (K : PySem.W.Frag) : Sp := fun vs H Q _ => ∃ (v : V) (d : PyData) (lo hi : Int), vs = [v, .int lo, .int hi] ∧ Dp K H v d ∧ Q (.bl (wholeD d lo hi)) H
theorem ok_is_whole (T : Top K mg) : FnOk P w K mg base CX0 1 T.a_is_whole T.fd_is_whole ["thing", "least", "most"] (spWholeD K) := by
  refine T.F_is_whole.ok sc_is_whole (fun vs H Q E h => ?_) (fun cdv A outer s H vs Q E hr h => ?_)
  · obtain ⟨v, d, lo, hi, rfl, _⟩ := h
    rfl
  · obtain ⟨v, d, lo, hi, rfl, hD, q⟩ := h
    refine ⟨_, (pss_cons (ps_if (PW.pt (pw_or (pt_not (pt_val (pe_callB call_isi (by rfl) T.z_isinstance (by decide +kernel) (pa_cons (pv 0) (pa_cons (pe_bltn (v := .ty "int") (by rfl) T.z_int (by decide +kernel) rfl) pa_nil))))) (pw_or1 (pt_val (pe_callB call_isi (by rfl) T.z_isinstance (by decide +kernel) (pa_cons (pv 0) (pa_cons (pe_bltn (v := .ty "bool") (by rfl) T.z_bool (by decide +kernel) rfl) pa_nil))))))) (pss_one (ps_ret pe_bl)) pss_nil)
      (pss_one (ps_ret (pe_chain op_le op_le (pv 1) (pv 0) (pv 2))))), ?_⟩
    cases d with
    | none => exact ⟨v, rfl, v, .ty "int", _, _, false, rfl, .ty _, tyD hD, kit_ty (a := "NoneType") (b := "int") (r := false) (by decide +kernel), false, rfl, iteT (iteT q)⟩
    | str x => exact ⟨v, rfl, v, .ty "int", _, _, false, rfl, .ty _, tyD hD, kit_ty (a := "str") (b := "int") (r := false) (by decide +kernel), false, rfl, iteT (iteT q)⟩
    | list x => exact ⟨v, rfl, v, .ty "int", _, _, false, rfl, .ty _, tyD hD, kit_ty (a := "list") (b := "int") (r := false) (by decide +kernel), false, rfl, iteT (iteT q)⟩
    | tuple x => exact ⟨v, rfl, v, .ty "int", _, _, false, rfl, .ty _, tyD hD, kit_ty (a := "tuple") (b := "int") (r := false) (by decide +kernel), false, rfl, iteT (iteT q)⟩
    | dict x => exact absurd rfl (nodict hD x)
    | bool x =>
      refine ⟨v, rfl, v, .ty "int", _, _, true, rfl, .ty _, tyD hD, kit_ty (a := "bool") (b := "int") (r := true) (by decide +kernel), true, rfl, iteF ?_⟩
      exact ⟨v, rfl, v, .ty "bool", _, _, true, rfl, .ty _, tyD hD, kit_ty (a := "bool") (b := "bool") (r := true) (by decide +kernel), true, rfl, iteT q⟩
    | int n =>
      cases hD
      refine ⟨.int n, rfl, .int n, .ty "int", _, _, true, rfl, .ty _, tyD (.int n), kit_ty (a := "int") (b := "int") (r := true) (by decide +kernel), true, rfl, iteF ?_⟩
      refine ⟨.int n, rfl, .int n, .ty "bool", _, _, false, rfl, .ty _, tyD (.int n), kit_ty (a := "int") (b := "bool") (r := false) (by decide +kernel), false, rfl, iteF ?_⟩
      have q : Q (.bl (decide (lo ≤ n) && decide (n ≤ hi))) H := q
      refine ⟨.int lo, rfl, .int n, rfl, lo, n, rfl, rfl, _, rfl, ite2 (fun e => ?_) (fun e => ?_)⟩
      · refine ⟨.int hi, rfl, n, hi, rfl, rfl, ?_⟩
        rw [e, Bool.true_and] at q
        exact q
      · rw [show decide (lo ≤ n) = false by simpa using e, Bool.false_and] at q
        exact q
def spTakerD (K : PySem.W.Frag) : Sp := fun vs H Q _ => ∃ (v : V) (d : PyData), vs = [v] ∧ Dp K H v d ∧ Q (.bl (takerD d)) H
theorem taker_long {ds : List PyData} (h : ds.length ≠ 2) : takerD (.tuple ds) = false := by
  match ds, h with
  | [], _ => rfl
  | [_], _ => rfl
  | [_, _], h => exact absurd rfl h
  | _ :: _ :: _ :: _, _ => rfl
theorem two_of {xs : List V} {ds : List PyData} {H : Hp} (h : DpAll K H xs ds) (hl : xs.length = 2) : ∃ x1 x2 d1 d2, xs = [x1, x2] ∧ ds = [d1, d2] ∧ Dp K H x1 d1 ∧ Dp K H x2 d2 := by
  match xs, hl with
  | [x1, x2], _ =>
    cases h with
    | cons a b =>
      cases b with
      | cons b c =>
        cases c
        exact ⟨_, _, _, _, rfl, rfl, a, b⟩
theorem whole_int {d : PyData} {lo hi : Int} (h : wholeD d lo hi = true) : ∃ n, d = .int n := by
  cases d with
  | int n => exact ⟨n, rfl⟩
  | _ => cases h
theorem ok_is_taker (T : Top K mg) : FnOk P w K mg base CX0 2 T.a_is_taker T.fd_is_taker ["thing"] (spTakerD K) := by
  refine T.F_is_taker.ok sc_is_taker (fun vs H Q E h => ?_) (fun cdv A outer s H vs Q E hr h => ?_)
  · obtain ⟨v, d, rfl, _⟩ := h
    rfl
  · obtain ⟨v, d, rfl, hD, q⟩ := h
    refine ⟨_, (pss_cons (ps_if (PW.pt (pw_or (pt_not (pt_val (pe_callB call_isi (by rfl) T.z_isinstance (by decide +kernel) (pa_cons (pv 0) (pa_cons (pe_bltn (v := .ty "tuple") (by rfl) T.z_tuple (by decide +kernel) rfl) pa_nil))))) (pw_or1 (pt_cmpR op_ne (pe_callB call_len_seq (by rfl) T.z_len (by decide +kernel) (pa_cons (pv 0) pa_nil)) pe_int (nomark _))))) (pss_one (ps_ret pe_bl)) pss_nil)
      (pss_cons (ps_asg (pv 0) (pg_tup (by rfl) (pgs_cons (pg_name (i := 1) sc_is_taker.nd rfl (.inl rfl)) (pgs_cons (pg_name (i := 2) sc_is_taker.nd rfl (.inl rfl)) pgs_nil))))
      (pss_one (ps_ret (pe_and (pe_call (ok_is_whole T) (hr.mono (by decide)) (by rfl) T.g_is_whole T.F_is_whole.kp T.b_is_whole .nil pass0 (pa_cons (pv 1) (pa_cons (pe_glob (v := .int 2) (by rfl) T.g_LEAST_EVERY ⟨_, rfl⟩) (pa_cons (pe_glob (v := .int 1000) (by rfl) T.g_MOST_EVERY ⟨_, rfl⟩) pa_nil)))) (pe_one (pe_call (ok_is_whole T) (hr.mono (by decide)) (by rfl) T.g_is_whole T.F_is_whole.kp T.b_is_whole .nil pass0 (pa_cons (pv 2) (pa_cons pe_int (pa_cons (pe_op op_sub (pv 1) pe_int) pa_nil)))))))))), ?_⟩
    refine ⟨v, rfl, v, .ty "tuple", _, _, _, rfl, .ty _, tyD hD, kit_tup d (nodict hD) _, _, rfl, ?_⟩
    cases ht : isT d with
    | false =>
      have e : takerD d = false := by cases d <;> first | rfl | cases ht
      rw [e] at q
      exact iteT (iteT q)
    | true =>
      refine iteF ?_
      cases hD with
      | @tup a xs ds hT hA =>
        refine ⟨.ref a, rfl, a, xs, rfl, .inr hT, rfl, _, rfl, ite2 (fun z => ?_) (fun z => ?_)⟩
        · have e : ds.length ≠ 2 := fun e => by
            rw [← hA.len] at e
            rw [e] at z
            exact absurd z (by decide)
          rw [taker_long e] at q
          exact q
        · have e : xs.length = 2 := by
            by_cases e : xs.length = 2
            · exact e
            · refine absurd ?_ z
              rw [decide_eq_false (fun w => e (by have := V.int.inj w; omega))]
              rfl
          obtain ⟨x1, x2, d1, d2, rfl, rfl, a1, a2⟩ := two_of hA e
          refine ⟨.ref a, rfl, a, _, rfl, hT, rfl, x1, _, rfl, x2, _, rfl, rfl, ?_⟩
          refine ⟨x1, rfl, x1, d1, 2, 1000, rfl, a1, _, rfl, ite2 (fun w1 => ?_) (fun w1 => ?_)⟩
          · obtain ⟨e1, rfl⟩ := whole_int w1
            cases a1
            refine ⟨x2, rfl, .int e1, rfl, e1, 1, rfl, rfl, x2, d2, 0, e1 - 1, rfl, a2, ?_⟩
            have q : Q (.bl (wholeD (.int e1) 2 1000 && wholeD d2 0 (e1 - 1))) H := q
            rw [w1, Bool.true_and] at q
            exact q
          · have e3 : wholeD d1 2 1000 = false := by simpa using w1
            have e4 : takerD (.tuple [d1, d2]) = false := by
              show (wholeD d1 2 1000 && _) = false
              rw [e3, Bool.false_and]
            rw [e4] at q
            exact q
      | _ => cases ht
def spRowD (K : PySem.W.Frag) : Sp := fun vs H Q _ => ∃ (v : V) (d : PyData), vs = [v] ∧ Dp K H v d ∧ ∀ H', Same H H' → Q (.bl (rowD d)) H'
theorem ok_is_row (T : Top K mg) : FnOk P w K mg base CX0 3 T.a_is_row T.fd_is_row ["thing"] (spRowD K) := by
  refine T.F_is_row.ok sc_is_row (fun vs H Q E h => ?_) (fun cdv A outer s H vs Q E hr h => ?_)
  · obtain ⟨v, d, rfl, _⟩ := h
    rfl
  · obtain ⟨v, d, rfl, hD, q⟩ := h
    refine ⟨_, (pss_cons (ps_if (PW.pt (pw_or (pt_not (pt_val (pe_callB call_isi (by rfl) T.z_isinstance (by decide +kernel) (pa_cons (pv 0) (pa_cons (pe_bltn (v := .ty "tuple") (by rfl) T.z_tuple (by decide +kernel) rfl) pa_nil))))) (pw_or1 (pt_cmpR op_gt (pe_callB call_len_seq (by rfl) T.z_len (by decide +kernel) (pa_cons (pv 0) pa_nil)) (pe_glob (v := .int 8) (by rfl) T.g_MOST_TAKERS ⟨_, rfl⟩) (nomark _))))) (pss_one (ps_ret pe_bl)) pss_nil)
      (pss_one (ps_ret (pe_callB (cr_all rfl) (by rfl) T.z_all (by decide +kernel) (pa_cons (pe_lc (own := [("part", 1)]) (by rfl) sc_is_row.nd (pi_tup (pv 0))
        (blkOk_by (own := [("part", 1)]) (N := ["thing", "part"]) (sc := defScope s_is_row) (by decide +kernel))
        (fun _ _ _ _ _ => (pg_name (i := 1) sc_is_row.nd rfl (.inl rfl))) (fun _ _ _ _ _ => pts_nil) (fun _ _ _ _ _ => (pe_call (ok_is_taker T) (hr.mono (by decide)) (by rfl) T.g_is_taker T.F_is_taker.kp T.b_is_taker .nil pass0 (pa_cons (pv 1) pa_nil)))) pa_nil))))), ?_⟩
    refine ⟨v, rfl, v, .ty "tuple", _, _, _, rfl, .ty _, tyD hD, kit_tup d (nodict hD) _, _, rfl, ?_⟩
    cases ht : isT d with
    | false =>
      have e : rowD d = false := by cases d <;> first | rfl | cases ht
      rw [e] at q
      exact iteT (iteT (q _ (Same.refl _)))
    | true =>
      refine iteF ?_
      cases hD with
      | @tup a xs ds hT hA =>
        have hlen := hA.len
        refine ⟨.ref a, rfl, a, xs, rfl, .inr hT, _, _, rfl, rfl, _, rfl, ite2 (fun z => ?_) (fun z => ?_)⟩
        · have z1 : (8 : Int) < (xs.length : Int) := of_decide_eq_true z
          have e : rowD (.tuple ds) = false := by
            show (decide (ds.length ≤ 8) && _) = false
            rw [decide_eq_false (by omega), Bool.false_and]
          rw [e] at q
          exact q _ (Same.refl _)
        · have z1 : ¬ (8 : Int) < (xs.length : Int) := fun w => z (decide_eq_true w)
          refine ⟨.ref a, rfl, a, rfl, ⟨_, hT⟩, fun D hD => ?_⟩
          refine lc_tup (K := K) (a := a) (xs := xs) (fun i H' => Same H H' ∧ H' D = some (.lst (((ds.take i).map takerD).map V.bl))) ⟨same_new hD, upd_same⟩ (fun i H' _ hp => sqT_same hp.1 hT) (fun i x H' hx hp => ?_) (fun H' hp => ?_)
          · obtain ⟨sm, hd⟩ := hp
            obtain ⟨d, hd1, hd2⟩ := hA.get hx
            have hi := (List.getElem?_eq_some_iff.mp hd1).1
            refine ⟨rfl, yesT ⟨x, rfl, x, d, rfl, hd2.same sm, _, hd, ?_, same_upd_new hD sm, ?_⟩⟩
            · rw [List.length_map, List.length_map, List.length_take]
              exact Nat.lt_of_le_of_lt (Nat.min_le_left _ _) (small1000 (by omega))
            · rw [upd_same, List.take_add_one, hd1, List.map_append, List.map_append]
              rfl
          · obtain ⟨sm, hd⟩ := hp
            rw [hlen, List.take_length] at hd
            refine ⟨D, _, rfl, sq_of hd, ?_⟩
            have := q H' sm
            have e : rowD (.tuple ds) = (ds.map takerD).all id := by
              show (decide (ds.length ≤ 8) && ds.all takerD) = _
              rw [decide_eq_true (by omega), Bool.true_and, List.all_map]
              rfl
            rw [e] at this
            exact this
      | _ => cases ht
/-! the law's own reading -/
theorem ok__law_from (T : Top K mg) : FnOk P w K mg base CX0 1 T.a__law_from T.fd__law_from ["thing", "least", "top"] (spWholeD K) := by
  refine T.F__law_from.ok sc__law_from (fun vs H Q E h => ?_) (fun cdv A outer s H vs Q E hr h => ?_)
  · obtain ⟨v, d, lo, hi, rfl, _⟩ := h
    rfl
  · obtain ⟨v, d, lo, hi, rfl, hD, q⟩ := h
    refine ⟨_, (pss_one (ps_ret (pe_and (pe_callB call_isi (by rfl) T.z_isinstance (by decide +kernel) (pa_cons (pv 0) (pa_cons (pe_bltn (v := .ty "int") (by rfl) T.z_int (by decide +kernel) rfl) pa_nil))) (pe_and (pe_not (pe_callB call_isi (by rfl) T.z_isinstance (by decide +kernel) (pa_cons (pv 0) (pa_cons (pe_bltn (v := .ty "bool") (by rfl) T.z_bool (by decide +kernel) rfl) pa_nil)))) (pe_and (pe_cmpR op_le (pv 1) (pv 0) (nomark _)) (pe_one (pe_cmpR op_le (pv 0) (pv 2) (nomark _)))))))), ?_⟩
    cases d with
    | none => exact ⟨v, rfl, v, .ty "int", _, _, false, rfl, .ty _, tyD hD, kit_ty (a := "NoneType") (b := "int") (r := false) (by decide +kernel), false, rfl, iteF q⟩
    | str x => exact ⟨v, rfl, v, .ty "int", _, _, false, rfl, .ty _, tyD hD, kit_ty (a := "str") (b := "int") (r := false) (by decide +kernel), false, rfl, iteF q⟩
    | list x => exact ⟨v, rfl, v, .ty "int", _, _, false, rfl, .ty _, tyD hD, kit_ty (a := "list") (b := "int") (r := false) (by decide +kernel), false, rfl, iteF q⟩
    | tuple x => exact ⟨v, rfl, v, .ty "int", _, _, false, rfl, .ty _, tyD hD, kit_ty (a := "tuple") (b := "int") (r := false) (by decide +kernel), false, rfl, iteF q⟩
    | dict x => exact absurd rfl (nodict hD x)
    | bool x =>
      refine ⟨v, rfl, v, .ty "int", _, _, true, rfl, .ty _, tyD hD, kit_ty (a := "bool") (b := "int") (r := true) (by decide +kernel), true, rfl, iteT ?_⟩
      exact ⟨v, rfl, v, .ty "bool", _, _, true, rfl, .ty _, tyD hD, kit_ty (a := "bool") (b := "bool") (r := true) (by decide +kernel), true, rfl, false, rfl, iteF q⟩
    | int n =>
      cases hD
      refine ⟨.int n, rfl, .int n, .ty "int", _, _, true, rfl, .ty _, tyD (.int n), kit_ty (a := "int") (b := "int") (r := true) (by decide +kernel), true, rfl, iteT ?_⟩
      refine ⟨.int n, rfl, .int n, .ty "bool", _, _, false, rfl, .ty _, tyD (.int n), kit_ty (a := "int") (b := "bool") (r := false) (by decide +kernel), false, rfl, true, rfl, iteT ?_⟩
      have q : Q (.bl (decide (lo ≤ n) && decide (n ≤ hi))) H := q
      refine ⟨.int lo, rfl, .int n, rfl, lo, n, rfl, rfl, _, rfl, ite2 (fun e => ?_) (fun e => ?_)⟩
      · refine ⟨.int n, rfl, .int hi, rfl, n, hi, rfl, rfl, ?_⟩
        rw [e, Bool.true_and] at q
        exact q
      · rw [show decide (lo ≤ n) = false by simpa using e, Bool.false_and] at q
        exact q
def spTakerRow (K : PySem.W.Frag) : Sp := fun vs H Q _ => ∃ (v : V) (d : PyData), vs = [v] ∧ Dp K H v d ∧ Q (.bl (rowD d)) H
theorem all_false {ds : List PyData} {i : Nat} {d : PyData} (h : ds[i]? = some d) (hf : takerD d = false) : rowD (.tuple ds) = false := by
  have : ds.all takerD = false := by
    rw [← Bool.not_eq_true, List.all_eq_true]
    intro z
    have := z d (List.mem_of_getElem? h)
    rw [hf] at this
    cases this
  show (decide (ds.length ≤ 8) && ds.all takerD) = false
  rw [this, Bool.and_false]
theorem ok__law_is_row (T : Top K mg) : FnOk P w K mg base CX0 2 T.a__law_is_row T.fd__law_is_row ["thing"] (spTakerRow K) := by
  refine T.F__law_is_row.ok sc__law_is_row (fun vs H Q E h => ?_) (fun cdv A outer s H vs Q E hr h => ?_)
  · obtain ⟨v, d, rfl, _⟩ := h
    rfl
  · obtain ⟨v, d, rfl, hD, q⟩ := h
    refine ⟨_, (pss_cons (ps_if (PW.pt (pw_or (pt_not (pt_val (pe_callB call_isi (by rfl) T.z_isinstance (by decide +kernel) (pa_cons (pv 0) (pa_cons (pe_bltn (v := .ty "tuple") (by rfl) T.z_tuple (by decide +kernel) rfl) pa_nil))))) (pw_or1 (pt_cmpR op_gt (pe_callB call_len_seq (by rfl) T.z_len (by decide +kernel) (pa_cons (pv 0) pa_nil)) pe_int (nomark _))))) (pss_one (ps_ret pe_bl)) pss_nil)
      (pss_cons (ps_for PassesOwn.never rfl (pi_tup (pv 0)) (pg_name (i := 1) sc__law_is_row.nd rfl (.inl rfl))
        (pss_cons (ps_if (PW.pt (pw_or (pt_not (pt_val (pe_callB call_isi (by rfl) T.z_isinstance (by decide +kernel) (pa_cons (pv 1) (pa_cons (pe_bltn (v := .ty "tuple") (by rfl) T.z_tuple (by decide +kernel) rfl) pa_nil))))) (pw_or (pt_cmpR op_ne (pe_callB call_len_seq (by rfl) T.z_len (by decide +kernel) (pa_cons (pv 1) pa_nil)) pe_int (nomark _)) (pw_or1 (pt_not (pt_val (pe_call (ok__law_from T) (hr.mono (by decide)) (by rfl) T.g__law_from T.F__law_from.kp T.b__law_from .nil pass0 (pa_cons (pe_ix ix_tup (pv 1) pe_int (fun _ _ => rfl)) (pa_cons pe_int (pa_cons pe_int pa_nil)))))))))) (pss_one (ps_ret pe_bl)) pss_nil)
      (pss_one (ps_if (pt_not (pt_val (pe_call (ok__law_from T) (hr.mono (by decide)) (by rfl) T.g__law_from T.F__law_from.kp T.b__law_from .nil pass0 (pa_cons (pe_ix ix_tup (pv 1) pe_int (fun _ _ => rfl)) (pa_cons pe_int (pa_cons (pe_op op_sub (pe_ix ix_tup (pv 1) pe_int (fun _ _ => rfl)) pe_int) pa_nil)))))) (pss_one (ps_ret pe_bl)) pss_nil))))
      (pss_one (ps_ret pe_bl)))), ?_⟩
    refine ⟨v, rfl, v, .ty "tuple", _, _, _, rfl, .ty _, tyD hD, kit_tup d (nodict hD) _, _, rfl, ?_⟩
    cases ht : isT d with
    | false =>
      have e : rowD d = false := by cases d <;> first | rfl | cases ht
      rw [e] at q
      exact iteT (iteT q)
    | true =>
      refine iteF ?_
      cases hD with
      | @tup a xs ds hT hA =>
        have hlen := hA.len
        refine ⟨.ref a, rfl, a, xs, rfl, .inr hT, _, _, rfl, rfl, _, rfl, ite2 (fun z => ?_) (fun z => ?_)⟩
        · have z1 : (8 : Int) < (xs.length : Int) := of_decide_eq_true z
          have e : rowD (.tuple ds) = false := by
            show (decide (ds.length ≤ 8) && _) = false
            rw [decide_eq_false (by omega), Bool.false_and]
          rw [e] at q
          exact q
        · have z1 : ¬ (8 : Int) < (xs.length : Int) := fun w => z (decide_eq_true w)
          refine ⟨.ref a, rfl, a, rfl, ⟨_, hT⟩, ?_⟩
          refine for_tup (K := K) (a := a) (xs := xs) (fun i σ H' => H' = H ∧ (ds.take i).all takerD = true ∧ ∃ y, σ = [some (.ref a), y]) ⟨rfl, rfl, none, rfl⟩ (fun i σ H' _ hp => by rw [hp.1]; exact hT) (fun i x σ H' hx hp => ?_) (fun σ H' hp => ?_)
          · obtain ⟨rfl, hall, y, rfl⟩ := hp
            obtain ⟨d, hd1, hd2⟩ := hA.get hx
            have bad : takerD d = false → Q (.bl false) H' := fun hf => by
              rw [all_false hd1 hf] at q
              exact q
            refine ⟨x, rfl, x, .ty "tuple", _, _, _, rfl, .ty _, tyD hd2, kit_tup d (nodict hd2) _, _, rfl, ?_⟩
            cases ht2 : isT d with
            | false => exact iteT (iteT (bad (by cases d <;> first | rfl | cases ht2)))
            | true =>
              refine iteF ?_
              cases hd2 with
              | @tup a2 xs2 ds2 hT2 hA2 =>
                refine ⟨.ref a2, rfl, a2, xs2, rfl, .inr hT2, rfl, _, rfl, ite2 (fun z => ?_) (fun z => ?_)⟩
                · have e : ds2.length ≠ 2 := fun e => by
                    rw [← hA2.len] at e
                    rw [e] at z
                    exact absurd z (by decide)
                  exact iteT (bad (taker_long e))
                · have e : xs2.length = 2 := by
                    by_cases e : xs2.length = 2
                    · exact e
                    · refine absurd ?_ z
                      rw [decide_eq_false (fun w => e (by have := V.int.inj w; omega))]
                      rfl
                  obtain ⟨x1, x2, d1, d2, rfl, rfl, a1, a2'⟩ := two_of hA2 e
                  refine ⟨.ref a2, rfl, a2, _, 0, x1, rfl, rfl, hT2, rfl, x1, d1, 2, 1000, rfl, a1, _, rfl, ?_⟩
                  cases w1 : wholeD d1 2 1000 with
                  | false =>
                    refine iteT (bad ?_)
                    show (wholeD d1 2 1000 && _) = false
                    rw [w1, Bool.false_and]
                  | true =>
                    refine iteF ?_
                    obtain ⟨e1, rfl⟩ := whole_int w1
                    cases a1
                    refine ⟨.ref a2, rfl, a2, _, 1, x2, rfl, rfl, hT2, rfl, .ref a2, rfl, a2, _, 0, .int e1, rfl, rfl, hT2, rfl, e1, 1, rfl, rfl, x2, d2, 0, e1 - 1, rfl, a2', _, rfl, ?_⟩
                    have et : takerD (.tuple [.int e1, d2]) = wholeD d2 0 (e1 - 1) := by
                      show (wholeD (.int e1) 2 1000 && wholeD d2 0 (e1 - 1)) = _
                      rw [w1, Bool.true_and]
                    cases w2 : wholeD d2 0 (e1 - 1) with
                    | false => exact iteT (bad (et.trans w2))
                    | true =>
                      refine iteF ⟨rfl, ?_, _, rfl⟩
                      rw [List.take_add_one, hd1, List.all_append, hall]
                      show (true && (takerD (.tuple [.int e1, d2]) && true)) = true
                      rw [et, w2]
                      rfl
              | _ => cases ht2
          · obtain ⟨rfl, hall, y, rfl⟩ := hp
            rw [hlen, List.take_length] at hall
            have e : rowD (.tuple ds) = true := by
              show (decide (ds.length ≤ 8) && ds.all takerD) = true
              rw [hall, decide_eq_true (by omega)]
              rfl
            rw [e] at q
            exact q
      | _ => cases ht

/-! odd things -/
def spOdd (K : PySem.W.Frag) : Sp := fun vs H Q _ => ∃ (a : Addr) (ns : List Int), vs = [.ref a] ∧ SqL K H a (ns.map V.int) ∧ 2 ≤ ns.length ∧ ∀ H' v d, Same H H' → New H H' v d → Sm 2 2 d → Q v H'
set_option maxHeartbeats 400000 in
theorem ok__law_odd (T : Top K mg) : FnOk P w K mg base CX0 1 T.a__law_odd T.fd__law_odd ["picks"] (spOdd K) := by
  refine T.F__law_odd.ok sc__law_odd (fun vs H Q E h => ?_) (fun cdv A outer s H vs Q E hr h => ?_)
  · obtain ⟨a, ns, rfl, _⟩ := h
    rfl
  · obtain ⟨a, ns, rfl, hS, hl, q⟩ := h
    refine ⟨_, (pss_cons (ps_set (i := 1) sc__law_odd.nd rfl (.inl rfl) (pe_lst (pa_cons pe_non (pa_cons pe_bl (pa_cons pe_bl (pa_cons (pe_un un_neg pe_int) (pa_cons pe_int (pa_cons pe_int (pa_cons pe_int (pa_cons pe_int (pa_cons pe_int (pa_cons pe_int (pa_cons pe_int (pa_cons (pe_op op_pow pe_int pe_int) (pa_cons (pe_op op_add (pe_op op_pow pe_int pe_int) pe_int) (pa_cons (pe_op op_pow pe_int pe_int) (pa_cons pe_str (pa_cons pe_str (pa_cons pe_str pa_nil)))))))))))))))))))
      (pss_cons (ps_set (i := 1) sc__law_odd.nd rfl (.inl rfl) (pe_op op_cat (pv 1) (pe_lst (pa_cons (pe_tup pa_nil) (pa_cons (pe_lst pa_nil) (pa_cons (pe_tup (pa_cons pe_int pa_nil)) (pa_cons (pe_tup (pa_cons pe_int pa_nil)) (pa_cons (pe_tup (pa_cons pe_int (pa_cons pe_int pa_nil))) (pa_cons (pe_tup (pa_cons (pe_tup (pa_cons pe_int (pa_cons pe_int pa_nil))) pa_nil)) pa_nil)))))))))
      (pss_cons (ps_set (i := 1) sc__law_odd.nd rfl (.inl rfl) (pe_op op_cat (pv 1) (pe_lst (pa_cons (pe_lst (pa_cons (pe_tup (pa_cons pe_int (pa_cons pe_int pa_nil))) pa_nil)) (pa_cons (pe_tup (pa_cons (pe_tup (pa_cons pe_int (pa_cons pe_int pa_nil))) pa_nil)) (pa_cons (pe_tup (pa_cons (pe_tup (pa_cons pe_int (pa_cons pe_int pa_nil))) pa_nil)) (pa_cons (pe_tup (pa_cons (pe_tup (pa_cons pe_int (pa_cons pe_int pa_nil))) (pa_cons (pe_tup (pa_cons pe_int (pa_cons pe_int pa_nil))) pa_nil))) (pa_cons (pe_tup (pa_cons pe_non pa_nil)) (pa_cons (pe_tup (pa_cons (pe_tup (pa_cons pe_int pa_nil)) pa_nil)) pa_nil)))))))))
      (pss_one (ps_ret (pe_ix ix_list (pv 1) (pe_op op_mod (pe_op op_add (pe_ix ix_list (pv 0) pe_int (fun _ _ => rfl)) (pe_op op_mul pe_int (pe_ix ix_list (pv 0) pe_int (fun _ _ => rfl)))) (pe_callB call_len_seq (by rfl) T.z_len (by decide +kernel) (pa_cons (pv 1) pa_nil))) (fun _ _ => rfl))))))), ?_⟩
    refine asg_lst ?_
    refine lst_new (ds := [.none, .bool true, .bool false, .int (-1), .int 0, .int 1, .int 2, .int 6, .int 8, .int 40, .int 1000, .int (10 ^ (18 : Int).toNat), .int (10 ^ (18 : Int).toNat + 1), .int (10 ^ (30 : Int).toNat), .str (Str.ofString ""), .str (Str.ofString "a"), .str (Str.ofString "2")]) ?e1 ?l1 fun p1 vs1 H1 s1 n1 h1 d1 => ?_
    case e1 => exact (efCons efNon (efCons efBl (efCons efBl (efCons efNeg (efCons efInt (efCons efInt (efCons efInt (efCons efInt (efCons efInt (efCons efInt (efCons efInt (efCons (efPow ⟨by decide, by decide, by decide⟩) (efCons (efPow1 ⟨by decide, by decide, by decide⟩) (efCons (efPow ⟨by decide, by decide, by decide⟩) (efCons efStr (efCons efStr (efCons efStr efNil)))))))))))))))))
    case l1 => decide
    refine asg_cat (l := p1) rfl ?_
    refine lst_new (ds := [.tuple [], .list [], .tuple [.int 0], .tuple [.int 2], .tuple [.int 2, .int 0], .tuple [.tuple [.int 2, .int 0]]]) ?e2 ?l2 fun p2 vs2 H2 s2 n2 h2 d2 => ?_
    case e2 => exact (efCons (efTup efNil (by decide)) (efCons (efLst efNil (by decide)) (efCons (efTup (efCons efInt efNil) (by decide)) (efCons (efTup (efCons efInt efNil) (by decide)) (efCons (efTup (efCons efInt (efCons efInt efNil)) (by decide)) (efCons (efTup (efCons (efTup (efCons efInt (efCons efInt efNil)) (by decide)) efNil) (by decide)) efNil))))))
    case l2 => decide
    refine ⟨p1, p2, _, _, rfl, rfl, s2 _ _ h1, h2, by rw [d1.dt.len, d2.dt.len]; decide, fun p3 n3 => ?_⟩
    have s3 := same_new (o := .lst (vs1 ++ vs2)) n3
    have d3 : News H (upd H2 p3 (.lst (vs1 ++ vs2))) (vs1 ++ vs2) _ := fun X hX => (((d1 X hX).same (hide_same s2)).app (d2 X (hX.same s1))).same (hide_same s3)
    have h3 : (upd H2 p3 (.lst (vs1 ++ vs2))) p3 = some (.lst (vs1 ++ vs2)) := upd_same
    have s3' := (s1.trans s2).trans s3
    generalize upd H2 p3 (.lst (vs1 ++ vs2)) = H3 at s3 d3 h3 s3' ⊢
    refine asg_cat (l := p3) rfl ?_
    refine lst_new (ds := [.list [.tuple [.int 2, .int 0]], .tuple [.tuple [.int 2, .int 2]], .tuple [.tuple [.int 1, .int 0]], .tuple [.tuple [.int 2, .int 0], .tuple [.int 3, .int 1]], .tuple [.none], .tuple [.tuple [.int 2]]]) ?e4 ?l4 fun p4 vs4 H4 s4 n4 h4 d4 => ?_
    case e4 => exact (efCons (efLst (efCons (efTup (efCons efInt (efCons efInt efNil)) (by decide)) efNil) (by decide)) (efCons (efTup (efCons (efTup (efCons efInt (efCons efInt efNil)) (by decide)) efNil) (by decide)) (efCons (efTup (efCons (efTup (efCons efInt (efCons efInt efNil)) (by decide)) efNil) (by decide)) (efCons (efTup (efCons (efTup (efCons efInt (efCons efInt efNil)) (by decide)) (efCons (efTup (efCons efInt (efCons efInt efNil)) (by decide)) efNil)) (by decide)) (efCons (efTup (efCons efNon efNil) (by decide)) (efCons (efTup (efCons (efTup (efCons efInt efNil) (by decide)) efNil) (by decide)) efNil))))))
    case l4 => decide
    refine ⟨p3, p4, _, _, rfl, rfl, s4 _ _ h3, h4, by rw [d3.dt.len, d4.dt.len]; decide, fun p5 n5 => ?_⟩
    have s5 := same_new (o := .lst (vs1 ++ vs2 ++ vs4)) n5
    have d5 : News H (upd H4 p5 (.lst (vs1 ++ vs2 ++ vs4))) (vs1 ++ vs2 ++ vs4) _ := fun X hX => (((d3 X hX).same (hide_same s4)).app (d4 X (hX.same s3'))).same (hide_same s5)
    have h5 : (upd H4 p5 (.lst (vs1 ++ vs2 ++ vs4))) p5 = some (.lst (vs1 ++ vs2 ++ vs4)) := upd_same
    have s5' := (s3'.trans s4).trans s5
    generalize upd H4 p5 (.lst (vs1 ++ vs2 ++ vs4)) = H5 at s5 d5 h5 s5' ⊢
    generalize vs1 ++ vs2 ++ vs4 = us at d5 h5
    have ul : us.length = 29 := d5.dt.len
    have hS5 := s5'.seq hS
    have g0 : (ns.map V.int)[0]? = some (.int ns[0]) := by rw [List.getElem?_map, List.getElem?_eq_getElem (by omega)]; rfl
    have g1 : (ns.map V.int)[1]? = some (.int ns[1]) := by rw [List.getElem?_map, List.getElem?_eq_getElem (by omega)]; rfl
    generalize ns[0] = x0 at g0
    generalize ns[1] = x1 at g1
    have i0 : 0 ≤ (x0 + 7 * x1) % 29 := Int.emod_nonneg _ (by decide)
    have i1 : (x0 + 7 * x1) % 29 < 29 := Int.emod_lt_of_pos _ (by decide)
    have hi : ((x0 + 7 * x1) % 29).toNat < us.length := by omega
    have hv := List.getElem?_eq_getElem hi
    obtain ⟨d, hd1, _⟩ := d5.dt.get hv
    refine ⟨.ref p5, rfl, .ref a, rfl, a, _, 0, .int x0, rfl, rfl, hS5, atI_nat (j := 0) g0, .ref a, rfl, a, _, 1, .int x1, rfl, rfl, hS5, atI_nat (j := 1) g1, 7, x1, rfl, rfl, .inl ⟨by decide, by decide⟩, x0, _, rfl, rfl,
      .ref p5, rfl, p5, us, rfl, .inl (sq_of h5), _, 29, rfl, congrArg V.int (by rw [ul]; rfl), (by decide : (0 : Int) < 29), p5, us, _, _, rfl, rfl, sq_of h5, at_of (j := ((x0 + 7 * x1) % 29).toNat) (by omega) hv, ?_⟩
    refine q H5 _ d s5' (fun X hX => (d5 X hX).at hv hd1) (sm_of (List.all_eq_true.mp ?_ d (List.mem_of_getElem? hd1)))
    rfl

/-! a thing with one place spoilt -/
theorem kit_any2 (d : PyData) (hd : ∀ kvs, d ≠ .dict kvs) (K : PySem.W.Frag) : PySem.W.kitAny K (.type (tyN d)) [.type "tuple", .type "list"] = some (isS d) := by
  cases d with
  | none => exact kitAny_cons (kit_ty (a := "NoneType") (b := "tuple") (r := false) (by decide +kernel)) (fun _ => kitAny_cons (kit_ty (a := "NoneType") (b := "list") (r := false) (by decide +kernel)) (fun _ => kitAny_nil) (fun h => by cases h)) (fun h => by cases h)
  | bool b => exact kitAny_cons (kit_ty (a := "bool") (b := "tuple") (r := false) (by decide +kernel)) (fun _ => kitAny_cons (kit_ty (a := "bool") (b := "list") (r := false) (by decide +kernel)) (fun _ => kitAny_nil) (fun h => by cases h)) (fun h => by cases h)
  | int b => exact kitAny_cons (kit_ty (a := "int") (b := "tuple") (r := false) (by decide +kernel)) (fun _ => kitAny_cons (kit_ty (a := "int") (b := "list") (r := false) (by decide +kernel)) (fun _ => kitAny_nil) (fun h => by cases h)) (fun h => by cases h)
  | str b => exact kitAny_cons (kit_ty (a := "str") (b := "tuple") (r := false) (by decide +kernel)) (fun _ => kitAny_cons (kit_ty (a := "str") (b := "list") (r := false) (by decide +kernel)) (fun _ => kitAny_nil) (fun h => by cases h)) (fun h => by cases h)
  | list b => exact kitAny_cons (kit_ty (a := "list") (b := "tuple") (r := false) (by decide +kernel)) (fun _ => kitAny_cons (kit_ty (a := "list") (b := "list") (r := true) (by decide +kernel)) (fun h => by cases h) (fun _ => rfl)) (fun h => by cases h)
  | tuple b => exact kitAny_cons (kit_ty (a := "tuple") (b := "tuple") (r := true) (by decide +kernel)) (fun h => by cases h) (fun _ => rfl)
  | dict kvs => exact absurd rfl (hd kvs)
theorem seq_of {H : Hp} {v : V} {d : PyData} {wd n : Nat} (hs : isS d = true) (hD : DT H v d) (hm : Sm wd (n + 1) d) :
    ∃ (c : Addr) (xs : List V) (ds : List PyData), v = .ref c ∧ (SqL K H c xs ∨ SqT K H c xs) ∧ DTs H xs ds ∧ ds.length ≤ wd ∧ (∀ x ∈ ds, Sm wd n x) ∧ ∀ X, DT (hide X H) v d → DTs (hide X H) xs ds := by
  cases hD with
  | @lst a xs ds h hA =>
    refine ⟨_, _, _, rfl, .inl (sq_of h), hA, hm.1, hm.2, fun X hX => ?_⟩
    cases hX with
    | @lst _ ys _ h2 a2 =>
      have e := (hide_some h2).2
      rw [h] at e
      cases e
      exact a2
  | @tup a xs ds h hA =>
    refine ⟨_, _, _, rfl, .inr (st_of h), hA, hm.1, hm.2, fun X hX => ?_⟩
    cases hX with
    | @tup _ ys _ h2 a2 =>
      have e := (hide_some h2).2
      rw [h] at e
      cases e
      exact a2
  | _ => cases hs
def spSpoilt (K : PySem.W.Frag) (wd n : Nat) : Sp := fun vs H Q _ => ∃ (v : V) (d : PyData) (a : Addr) (ns : List Int), vs = [v, .ref a] ∧ DT H v d ∧ Sm wd n d ∧ SqL K H a (ns.map V.int) ∧ 3 ≤ ns.length ∧
  ∀ H' v' d', Same H H' → (∀ X, InH X H → DT (hide X H) v d → DT (hide X H') v' d') → Sm (wd + 2) (n + 2) d' → Q v' H'
theorem from_ints {a : Addr} {ns : List Int} {k : Nat} (hk : k ≤ ns.length) : cutV (ns.map V.int) (some (k : Int)) none = (ns.drop k).map V.int := by
  rw [cut_from rfl (by rw [List.length_map]; exact hk), List.map_drop]
theorem at_ints {ns : List Int} {k : Nat} (hk : k < ns.length) : atI (ns.map V.int) (k : Int) = some (.int ns[k]) := at_of rfl (by rw [List.getElem?_map, List.getElem?_eq_getElem hk]; rfl)
def spS (K : PySem.W.Frag) (N : Nat) : Sp := fun vs H Q E => ∃ wd n : Nat, wd ≤ 100 ∧ n ≤ N ∧ spSpoilt K wd n vs H Q E
theorem ok_sp0 (T : Top K mg) : FnOk P w K mg base CX0 2 T.a__law_spoilt T.fd__law_spoilt ["thing", "picks"] (spS K 0) := by
  refine T.F__law_spoilt.ok sc__law_spoilt (fun vs H Q E h => ?_) (fun cdv A outer s H vs Q E hr h => ?_)
  · obtain ⟨wd, n, _, _, v, d, a, ns, rfl, _⟩ := h
    rfl
  · obtain ⟨wd, n, hw, hn, v, d, a, ns, rfl, hD, hm, hS, hl, q⟩ := h
    obtain rfl : n = 0 := by omega
    refine ⟨_, (pss_cons (ps_if (PW.pt (pw_or (pt_not (pt_val (pe_callB call_isiT (by rfl) T.z_isinstance (by decide +kernel) (pa_cons (pv 0) (pa_cons (pe_tup (pa_cons (pe_bltn (v := .ty "tuple") (by rfl) T.z_tuple (by decide +kernel) rfl) (pa_cons (pe_bltn (v := .ty "list") (by rfl) T.z_list (by decide +kernel) rfl) pa_nil))) pa_nil))))) (pw_or (pt_cmpR op_eq (pe_callB call_len_seq (by rfl) T.z_len (by decide +kernel) (pa_cons (pv 0) pa_nil)) pe_int (nomark _)) (pw_or (pt_cmpR op_lt (pe_callB call_len_seq (by rfl) T.z_len (by decide +kernel) (pa_cons (pv 1) pa_nil)) pe_int (nomark _)) (pw_or1 (pt_cmpR op_eq (pe_op op_mod (pe_ix ix_list (pv 1) pe_int (fun _ _ => rfl)) pe_int) pe_int (nomark _))))))) (pss_one (ps_ret (pe_call (ok__law_odd T) (hr.mono (by omega)) (by rfl) T.g__law_odd T.F__law_odd.kp T.b__law_odd .nil pass0 (pa_cons (pe_slice sl_list (pv 1) (po_some pe_int) po_none) pa_nil)))) pss_nil) pss_never), ?_⟩
    have hs : isS d = false := by
      cases d with
      | list xs => exact hm.elim
      | tuple xs => exact hm.elim
      | _ => rfl
    refine ⟨v, rfl, by show 2 ≤ sizeLine; decide, fun tp ntp => ?_⟩
    have st := same_new (o := .tup [.ty "tuple", .ty "list"]) ntp
    refine ⟨v, tp, [.ty "tuple", .ty "list"], _, [.type "tuple", .type "list"], _, rfl, upd_same, .cons (.ty _) (.cons (.ty _) .nil), tyD (hD.same st).dp, kit_any2 d (nodict (K := K) hD.dp) _, _, rfl, ?_⟩
    rw [hs]
    refine iteT (iteT ?_)
    refine ⟨.ref a, rfl, 1, rfl, a, _, rfl, st.seq hS, fun p np => ?_⟩
    have e1 := from_ints (a := a) (ns := ns) (k := 1) (by omega)
    rw [show ((1 : Nat) : Int) = 1 from rfl] at e1
    rw [e1]
    exact ⟨p, ns.drop 1, rfl, sq_of upd_same, by rw [List.length_drop]; omega, fun H' v' d' s' hd' hm' => q H' v' d' ((st.trans (same_new np)).trans s') (fun X hX _ => hd' X (hX.same (st.trans (same_new np)))) (hm'.mono (by omega) (by omega))⟩
theorem ok_sp (T : Top K mg) : ∀ N : Nat, FnOk P w K mg base CX0 (N + 2) T.a__law_spoilt T.fd__law_spoilt ["thing", "picks"] (spS K N)
  | 0 => ok_sp0 T
  | N + 1 => by
    have IH := ok_sp T N
    refine T.F__law_spoilt.ok sc__law_spoilt (fun vs H Q E h => ?_) (fun cdv A outer s H vs Q E hr h => ?_)
    · obtain ⟨wd, n, _, _, v, d, a, ns, rfl, _⟩ := h
      rfl
    · obtain ⟨wd, n1, hw, hn1, v, d, a, ns, rfl, hD, hm, hS, hl, q⟩ := h
      refine ⟨_, (pss_cons (ps_if (PW.pt (pw_or (pt_not (pt_val (pe_callB call_isiT (by rfl) T.z_isinstance (by decide +kernel) (pa_cons (pv 0) (pa_cons (pe_tup (pa_cons (pe_bltn (v := .ty "tuple") (by rfl) T.z_tuple (by decide +kernel) rfl) (pa_cons (pe_bltn (v := .ty "list") (by rfl) T.z_list (by decide +kernel) rfl) pa_nil))) pa_nil))))) (pw_or (pt_cmpR op_eq (pe_callB call_len_seq (by rfl) T.z_len (by decide +kernel) (pa_cons (pv 0) pa_nil)) pe_int (nomark _)) (pw_or (pt_cmpR op_lt (pe_callB call_len_seq (by rfl) T.z_len (by decide +kernel) (pa_cons (pv 1) pa_nil)) pe_int (nomark _)) (pw_or1 (pt_cmpR op_eq (pe_op op_mod (pe_ix ix_list (pv 1) pe_int (fun _ _ => rfl)) pe_int) pe_int (nomark _))))))) (pss_one (ps_ret (pe_call (ok__law_odd T) (hr.mono (by omega)) (by rfl) T.g__law_odd T.F__law_odd.kp T.b__law_odd .nil pass0 (pa_cons (pe_slice sl_list (pv 1) (po_some pe_int) po_none) pa_nil)))) pss_nil)
      (pss_cons (ps_set (i := 2) sc__law_spoilt.nd rfl (.inl rfl) (pe_callTy call_list_of (by rfl) T.z_list (by decide +kernel) (pa_cons (pv 0) pa_nil)))
      (pss_cons (ps_set (i := 3) sc__law_spoilt.nd rfl (.inl rfl) (pe_op op_mod (pe_ix ix_list (pv 1) pe_int (fun _ _ => rfl)) (pe_callB call_len_seq (by rfl) T.z_len (by decide +kernel) (pa_cons (pv 2) pa_nil))))
      (pss_cons (ps_set (i := 4) sc__law_spoilt.nd rfl (.inl rfl) (pe_op op_mod (pe_ix ix_list (pv 1) pe_int (fun _ _ => rfl)) pe_int))
      (pss_cons (ps_if (pt_cmpR op_eq (pv 4) pe_int (nomark _)) (pss_one (ps_set (i := 2) sc__law_spoilt.nd rfl (.inl rfl) (pe_op op_cat (pe_slice sl_list (pv 2) po_none (po_some (pv 3))) (pe_slice sl_list (pv 2) (po_some (pe_op op_add (pv 3) pe_int)) po_none)))) (pss_one (ps_if (pt_cmpR op_eq (pv 4) pe_int (nomark _)) (pss_one (ps_set (i := 2) sc__law_spoilt.nd rfl (.inl rfl) (pe_op op_cat (pe_slice sl_list (pv 2) po_none (po_some (pe_op op_add (pv 3) pe_int))) (pe_slice sl_list (pv 2) (po_some (pv 3)) po_none)))) (pss_one (ps_if (pt_cmpR op_eq (pv 4) pe_int (nomark _)) (pss_one (ps_set (i := 2) sc__law_spoilt.nd rfl (.inl rfl) (pe_op op_cat (pe_slice sl_list (pv 2) (po_some (pv 3)) po_none) (pe_slice sl_list (pv 2) po_none (po_some (pv 3)))))) (pss_one (ps_if (pt_cmpR op_eq (pv 4) pe_int (nomark _)) (pss_one (ps_set (i := 2) sc__law_spoilt.nd rfl (.inl rfl) (pe_op op_cat (pe_op op_cat (pe_slice sl_list (pv 2) po_none (po_some (pv 3))) (pe_lst (pa_cons (pe_call (ok__law_odd T) (hr.mono (by omega)) (by rfl) T.g__law_odd T.F__law_odd.kp T.b__law_odd .nil pass0 (pa_cons (pe_slice sl_list (pv 1) (po_some pe_int) po_none) pa_nil)) pa_nil))) (pe_slice sl_list (pv 2) (po_some (pv 3)) po_none)))) (pss_one (ps_if (pt_cmpR op_gt (pv 4) pe_int (nomark _)) (pss_one (ps_asg (pe_call IH (hr.mono (by omega)) (by rfl) T.g__law_spoilt T.F__law_spoilt.kp T.b__law_spoilt .nil pass0 (pa_cons (pe_ix ix_list (pv 2) (pv 3) (fun _ _ => rfl)) (pa_cons (pe_slice sl_list (pv 1) (po_some pe_int) po_none) pa_nil))) (pg_sub (pv 2) (pv 3) set_list))) pss_nil)))))))))
      (pss_cons (ps_if (pt_cmpR op_eq (pe_callB call_isi (by rfl) T.z_isinstance (by decide +kernel) (pa_cons (pv 0) (pa_cons (pe_bltn (v := .ty "tuple") (by rfl) T.z_tuple (by decide +kernel) rfl) pa_nil))) (pe_cmpR op_eq (pv 4) pe_int (nomark _)) (nomark _)) (pss_one (ps_ret (pv 2))) pss_nil)
      (pss_one (ps_ret (pe_callTy call_tuple_of (by rfl) T.z_tuple (by decide +kernel) (pa_cons (pv 2) pa_nil)))))))))), ?_⟩
      refine ⟨v, rfl, by show 2 ≤ sizeLine; decide, fun tp ntp => ?_⟩
      have st := same_new (o := .tup [.ty "tuple", .ty "list"]) ntp
      have htp : (upd H tp (.tup [.ty "tuple", .ty "list"])) tp = some (.tup [.ty "tuple", .ty "list"]) := upd_same
      generalize upd H tp (.tup [.ty "tuple", .ty "list"]) = H1 at st htp ⊢
      have hD1 := hD.same st
      have hS1 := st.seq hS
      have e1 := from_ints (a := a) (ns := ns) (k := 1) (by omega)
      rw [show ((1 : Nat) : Int) = 1 from rfl] at e1
      have fin : ∀ p, H1 p = none → spOdd K [.ref p] (upd H1 p (.lst (cutV (ns.map V.int) (some 1) none))) Q E0 := fun p np => by
        rw [e1]
        exact ⟨p, ns.drop 1, rfl, sq_of upd_same, by rw [List.length_drop]; omega, fun H' v' d' s' hd' hm' => q H' v' d' ((st.trans (same_new np)).trans s') (fun X hX _ => hd' X (hX.same (st.trans (same_new np)))) (hm'.mono (by omega) (by omega))⟩
      refine ⟨v, tp, [.ty "tuple", .ty "list"], _, [.type "tuple", .type "list"], _, rfl, htp, .cons (.ty _) (.cons (.ty _) .nil), tyD hD1.dp, kit_any2 d (nodict (K := K) hD1.dp) _, _, rfl, ?_⟩
      cases hs : isS d with
      | false => exact iteT (iteT ⟨.ref a, rfl, 1, rfl, a, _, rfl, hS1, fin⟩)
      | true =>
        refine iteF ?_
        obtain ⟨n, rfl⟩ : ∃ n, n1 = n + 1 := by
          cases n1 with
          | zero => cases d <;> first | exact hm.elim | cases hs
          | succ n => exact ⟨n, rfl⟩
        obtain ⟨c, xs, ds, rfl, hq, hA, hdl, hdi, hAX⟩ := seq_of (K := K) hs hD1 hm
        have hxl := hA.len
        refine ⟨.ref c, rfl, c, xs, rfl, hq, rfl, _, rfl, ite2 (fun z => iteT ⟨.ref a, rfl, 1, rfl, a, _, rfl, hS1, fin⟩) (fun z => ?_)⟩
        have hx0 : 0 < xs.length := by
          rcases Nat.eq_zero_or_pos xs.length with e | e
          · refine absurd ?_ z
            rw [e]
            exact decide_eq_true rfl
          · exact e
        refine ⟨.ref a, rfl, a, _, rfl, .inl hS1, _, 9, rfl, rfl, _, rfl, ite2 (fun z2 => iteT ⟨.ref a, rfl, 1, rfl, a, _, rfl, hS1, fin⟩) (fun z2 => ?_)⟩
        have hn9 : 9 ≤ ns.length := by
          have z3 : ¬ (((ns.map V.int).length : Int) < 9) := fun w => z2 (decide_eq_true w)
          rw [List.length_map] at z3
          omega
        refine ⟨.ref a, rfl, a, _, 0, _, rfl, rfl, hS1, at_ints (k := 0) (by omega), _, 9, rfl, rfl, (by decide : (0 : Int) < 9), rfl, _, rfl, ite2 (fun z4 => ⟨.ref a, rfl, 1, rfl, a, _, rfl, hS1, fin⟩) (fun z4 => ?_)⟩
        -- pieces, at, turn_by
        refine ⟨.ref c, rfl, c, xs, rfl, hq, fun Pc nP => ?_⟩
        have sP := same_new (o := .lst xs) nP
        have hP : (upd H1 Pc (.lst xs)) Pc = some (.lst xs) := upd_same
        have nPH := st.free nP
        have s2 := st.trans sP
        have hA2 := hA.same sP
        have hX2 : ∀ X, InH X H → DT (hide X H) (.ref c) d → DTs (hide X (upd H1 Pc (.lst xs))) xs ds := fun X _ hx => (hAX X (hx.same (hide_same st))).same (hide_same sP)
        have hS2 := s2.seq hS
        have hD2 := hD.same s2
        generalize upd H1 Pc (.lst xs) = H2 at sP hP s2 hA2 hS2 hD2 hX2 ⊢
        refine ⟨.ref a, rfl, a, _, 1, _, rfl, rfl, hS2, at_ints (k := 1) (by omega), .ref Pc, rfl, Pc, xs, rfl, .inl (sq_of hP), _, (xs.length : Int), rfl, rfl, (by omega : (0 : Int) < (xs.length : Int)), ?_⟩
        have a0 : 0 ≤ ns[1] % (xs.length : Int) := Int.emod_nonneg _ (by omega)
        have a1 : ns[1] % (xs.length : Int) < (xs.length : Int) := Int.emod_lt_of_pos _ (by omega)
        obtain ⟨k, hk⟩ := Int.eq_ofNat_of_zero_le a0
        have hkl : k < xs.length := by omega
        dsimp only
        rw [hk]
        refine ⟨.ref a, rfl, a, _, 2, _, rfl, rfl, hS2, at_ints (k := 2) (by omega), _, 12, rfl, rfl, (by decide : (0 : Int) < 12), ?_⟩
        obtain ⟨tb, htb⟩ : ∃ tb, ns[2] % 12 = tb := ⟨_, rfl⟩
        dsimp only
        rw [htb]
        have up : ∀ x ∈ ds, Sm (wd + 2) (n + 2) x := fun x hx => (hdi x hx).mono (by omega) (by omega)
        refine seq_join (fun σ' H' => ∃ (Q' : Addr) (ys : List V) (es : List PyData), σ' = [some (.ref c), some (.ref a), some (.ref Q'), some (.int (k : Nat)), some (.int tb)] ∧ Same H H' ∧ H Q' = none ∧ H' Q' = some (.lst ys) ∧ (∀ X, InH X H → DT (hide X H) (.ref c) d → DTs (hide X H') ys es) ∧ es.length ≤ wd + 1 ∧ ∀ x ∈ es, Sm (wd + 2) (n + 2) x) (fun D' hnx => ?_) (fun σ' H' hJ => ?_)
        · have c1 := cut_to (xs := xs) (k := k) rfl (by omega)
          have c2 := cut_from (xs := xs) (k := k) rfl (by omega)
          have c3 := cut_from (xs := xs) (k := k + 1) (m := (k : Int) + 1) (by omega) (by omega)
          have c4 := cut_to (xs := xs) (k := k + 1) (m := (k : Int) + 1) (by omega) (by omega)
          have bnd : ∀ (A B : List PyData), (∀ x ∈ A, x ∈ ds) → (∀ x ∈ B, x ∈ ds) → ∀ x ∈ A ++ B, Sm (wd + 2) (n + 2) x := fun A B hA' hB' x hx => by
            rcases List.mem_append.mp hx with z | z
            · exact up x (hA' x z)
            · exact up x (hB' x z)
          refine ⟨_, rfl, rfl, _, rfl, ite2 (fun b0 => ?_) (fun b0 => ?_)⟩
          · refine ⟨.ref Pc, rfl, .int (k : Nat), rfl, (k : Int), rfl, Pc, xs, rfl, sq_of hP, fun p1 n1 => ?_⟩
            rw [c1]
            have t1 := same_new (o := .lst (xs.take k)) n1
            refine ⟨.ref Pc, rfl, .int (k : Nat), rfl, (k : Int), 1, rfl, rfl, (k : Int) + 1, rfl, Pc, xs, rfl, sq_of (t1 _ _ hP), fun p2 n2 => ?_⟩
            rw [c3]
            have t2 := same_new (o := .lst (xs.drop (k + 1))) n2
            refine ⟨p1, p2, _, _, rfl, rfl, t2 _ _ upd_same, upd_same, by rw [List.length_take, List.length_drop]; exact Nat.le_of_lt (small1000 (by omega)), fun p3 n3 => ?_⟩
            have t3 := same_new (o := .lst (xs.take k ++ xs.drop (k + 1))) n3
            exact hnx _ _ ⟨p3, _, ds.take k ++ ds.drop (k + 1), rfl, ((s2.trans t1).trans t2).trans t3, ((s2.trans t1).trans t2).free n3, upd_same, (fun X hX hx => (((hX2 X hX hx).take k).app ((hX2 X hX hx).drop (k + 1))).same (hide_same ((t1.trans t2).trans t3))), by rw [List.length_append, List.length_take, List.length_drop]; omega, bnd _ _ (fun x hx => List.mem_of_mem_take hx) (fun x hx => List.mem_of_mem_drop hx)⟩
          · refine ⟨_, rfl, rfl, _, rfl, ite2 (fun b1 => ?_) (fun b1 => ?_)⟩
            · refine ⟨.ref Pc, rfl, .int (k : Nat), rfl, (k : Int), 1, rfl, rfl, (k : Int) + 1, rfl, Pc, xs, rfl, sq_of hP, fun p1 n1 => ?_⟩
              rw [c4]
              have t1 := same_new (o := .lst (xs.take (k + 1))) n1
              refine ⟨.ref Pc, rfl, .int (k : Nat), rfl, (k : Int), rfl, Pc, xs, rfl, sq_of (t1 _ _ hP), fun p2 n2 => ?_⟩
              rw [c2]
              have t2 := same_new (o := .lst (xs.drop k)) n2
              refine ⟨p1, p2, _, _, rfl, rfl, t2 _ _ upd_same, upd_same, by rw [List.length_take, List.length_drop]; exact Nat.le_of_lt (small1000 (by omega)), fun p3 n3 => ?_⟩
              have t3 := same_new (o := .lst (xs.take (k + 1) ++ xs.drop k)) n3
              exact hnx _ _ ⟨p3, _, ds.take (k + 1) ++ ds.drop k, rfl, ((s2.trans t1).trans t2).trans t3, ((s2.trans t1).trans t2).free n3, upd_same, (fun X hX hx => (((hX2 X hX hx).take (k + 1)).app ((hX2 X hX hx).drop k)).same (hide_same ((t1.trans t2).trans t3))), by rw [List.length_append, List.length_take, List.length_drop]; omega, bnd _ _ (fun x hx => List.mem_of_mem_take hx) (fun x hx => List.mem_of_mem_drop hx)⟩
            · refine ⟨_, rfl, rfl, _, rfl, ite2 (fun b2 => ?_) (fun b2 => ?_)⟩
              · refine ⟨.ref Pc, rfl, .int (k : Nat), rfl, (k : Int), rfl, Pc, xs, rfl, sq_of hP, fun p1 n1 => ?_⟩
                rw [c2]
                have t1 := same_new (o := .lst (xs.drop k)) n1
                refine ⟨.ref Pc, rfl, .int (k : Nat), rfl, (k : Int), rfl, Pc, xs, rfl, sq_of (t1 _ _ hP), fun p2 n2 => ?_⟩
                rw [c1]
                have t2 := same_new (o := .lst (xs.take k)) n2
                refine ⟨p1, p2, _, _, rfl, rfl, t2 _ _ upd_same, upd_same, by rw [List.length_take, List.length_drop]; exact Nat.le_of_lt (small1000 (by omega)), fun p3 n3 => ?_⟩
                have t3 := same_new (o := .lst (xs.drop k ++ xs.take k)) n3
                exact hnx _ _ ⟨p3, _, ds.drop k ++ ds.take k, rfl, ((s2.trans t1).trans t2).trans t3, ((s2.trans t1).trans t2).free n3, upd_same, (fun X hX hx => (((hX2 X hX hx).drop k).app ((hX2 X hX hx).take k)).same (hide_same ((t1.trans t2).trans t3))), by rw [List.length_append, List.length_take, List.length_drop]; omega, bnd _ _ (fun x hx => List.mem_of_mem_drop hx) (fun x hx => List.mem_of_mem_take hx)⟩
              · refine ⟨_, rfl, rfl, _, rfl, ite2 (fun b3 => ?_) (fun b3 => ?_)⟩
                · refine ⟨.ref Pc, rfl, .int (k : Nat), rfl, (k : Int), rfl, Pc, xs, rfl, sq_of hP, fun p1 n1 => ?_⟩
                  rw [c1]
                  have t1 := same_new (o := .lst (xs.take k)) n1
                  refine ⟨.ref a, rfl, 3, rfl, a, _, rfl, t1.seq hS2, fun p2 n2 => ?_⟩
                  have e3 := from_ints (a := a) (ns := ns) (k := 3) (by omega)
                  rw [show ((3 : Nat) : Int) = 3 from rfl] at e3
                  rw [e3]
                  have t2 := same_new (o := .lst ((ns.drop 3).map V.int)) n2
                  refine ⟨p2, ns.drop 3, rfl, sq_of upd_same, by rw [List.length_drop]; omega, fun H3 v3 d3 s3 hd3 hm3 => ?_⟩
                  refine ⟨by show 1 ≤ sizeLine; decide, fun p4 n4 => ?_⟩
                  have t4 := same_new (o := .lst [v3]) n4
                  have tt := (t1.trans t2).trans (s3.trans t4)
                  refine ⟨p1, p4, _, _, rfl, rfl, t4 _ _ (s3 _ _ (t2 _ _ upd_same)), upd_same, by rw [List.length_take]; exact Nat.le_of_lt (small1000 (by simp; omega)), fun p5 n5 => ?_⟩
                  have t5 := same_new (o := .lst (xs.take k ++ [v3])) n5
                  refine ⟨.ref Pc, rfl, .int (k : Nat), rfl, (k : Int), rfl, Pc, xs, rfl, sq_of (t5 _ _ (tt _ _ hP)), fun p6 n6 => ?_⟩
                  rw [c2]
                  have t6 := same_new (o := .lst (xs.drop k)) n6
                  refine ⟨p5, p6, _, _, rfl, rfl, t6 _ _ upd_same, upd_same, by rw [List.length_append, List.length_take, List.length_drop]; exact Nat.le_of_lt (small1000 (by simp; omega)), fun p7 n7 => ?_⟩
                  have t7 := same_new (o := .lst (xs.take k ++ [v3] ++ xs.drop k)) n7
                  have tall := (tt.trans t5).trans (t6.trans t7)
                  refine hnx _ _ ⟨p7, _, ds.take k ++ [d3] ++ ds.drop k, rfl, s2.trans tall, ((s2.trans tt).trans (t5.trans t6)).free n7, upd_same, fun X hX hx => ((((hX2 X hX hx).take k).same (hide_same tall)).app (.cons ((hd3 X (hX.same (s2.trans (t1.trans t2)))).same (hide_same ((t4.trans t5).trans (t6.trans t7)))) .nil)).app (((hX2 X hX hx).drop k).same (hide_same tall)), ?_, fun x hx => ?_⟩
                  · rw [List.length_append, List.length_append, List.length_take, List.length_drop]
                    simp
                    omega
                  · rcases List.mem_append.mp hx with z | z
                    · rcases List.mem_append.mp z with z | z
                      · exact up x (List.mem_of_mem_take z)
                      · rw [List.mem_singleton.mp z]
                        exact hm3.mono (by omega) (by omega)
                    · exact up x (List.mem_of_mem_drop z)
                · refine ⟨_, rfl, tb, 4, rfl, rfl, _, rfl, ite2 (fun b4 => ?_) (fun b4 => ?_)⟩
                  · have gx := List.getElem?_eq_getElem hkl
                    obtain ⟨dk, hdk1, hdk2⟩ := hA2.get gx
                    refine ⟨.ref Pc, rfl, .int (k : Nat), rfl, Pc, xs, (k : Int), xs[k], rfl, rfl, sq_of hP, at_of rfl gx, .ref a, rfl, 4, rfl, a, _, rfl, hS2, fun p2 n2 => ?_⟩
                    have e3 := from_ints (a := a) (ns := ns) (k := 4) (by omega)
                    rw [show ((4 : Nat) : Int) = 4 from rfl] at e3
                    rw [e3]
                    have t2 := same_new (o := .lst ((ns.drop 4).map V.int)) n2
                    refine ⟨wd, n, hw, by omega, xs[k], dk, p2, ns.drop 4, rfl, hdk2.same t2, hdi dk (List.mem_of_getElem? hdk1), sq_of upd_same, by rw [List.length_drop]; omega, fun H3 v3 d3 s3 hd3 hm3 => ?_⟩
                    have t3 := t2.trans s3
                    have hP3 := t3 _ _ hP
                    refine ⟨.ref Pc, rfl, .int (k : Nat), rfl, Pc, xs, (k : Int), k, rfl, rfl, hP3, ixN_nat rfl hkl, ?_⟩
                    refine hnx _ _ ⟨Pc, _, ds.set k d3, rfl, same_upd_new nPH (s2.trans t3), nPH, upd_same, fun X hX hx => ?_, by rw [List.length_set]; omega, fun x hx => ?_⟩
                    · have hXP : ¬ X Pc := hX.new nPH
                      have hY : InH (fun b => X b ∨ b = Pc) (upd H2 p2 (.lst ((ns.drop 4).map V.int))) := fun b hb => by
                        rcases hb with hb | hb
                        · exact (hX.same (s2.trans t2)) b hb
                        · rw [hb, t2 _ _ hP]
                          intro z
                          cases z
                      have hx1 : ∀ b o, hide X H1 b = some o → hide (fun b => X b ∨ b = Pc) (upd H2 p2 (.lst ((ns.drop 4).map V.int))) b = some o := fun b o hbo => by
                        obtain ⟨h1, h2⟩ := hide_some hbo
                        have nb : b ≠ Pc := ne_of_none h2 nP
                        rw [hide_at (fun z => z.elim h1 nb)]
                        exact t2 _ _ (sP _ _ h2)
                      have dsY := (hAX X (hx.same (hide_same st))).same hx1
                      have d3Y := hd3 _ hY (dsY.at gx hdk1)
                      have back : ∀ b o, hide (fun b => X b ∨ b = Pc) H3 b = some o → hide X (upd H3 Pc (.lst (xs.set k v3))) b = some o := fun b o hbo => by
                        obtain ⟨h1, h2⟩ := hide_some hbo
                        have h1a : ¬ X b := fun z => h1 (.inl z)
                        have h1b : b ≠ Pc := fun z => h1 (.inr z)
                        rw [hide_at h1a, upd_ne h1b]
                        exact h2
                      exact ((dsY.same (hide_same s3)).set k d3Y).same back
                    · rcases List.mem_or_eq_of_mem_set hx with z | z
                      · exact up x z
                      · rw [z]
                        exact hm3.mono (by omega) (by omega)
                  · exact hnx _ _ ⟨Pc, xs, ds, rfl, s2, nPH, hP, hX2, by omega, up⟩
        · obtain ⟨Q', ys, es, rfl, s3, nQ, hQ, hE, hel, hei⟩ := hJ
          have hD3 := hD.same s3
          refine ⟨.ref c, rfl, .ref c, .ty "tuple", _, _, _, rfl, .ty _, tyD hD3.dp, kit_tup d (nodict (K := K) hD3.dp) _, .int tb, rfl, rfl, rfl, _, rfl, ite2 (fun z => ?_) (fun z => ?_)⟩
          · exact ⟨.ref Q', rfl, q H' _ (.list es) s3 (fun X hX hx => .lst (by rw [hide_at (hX.new nQ)]; exact hQ) (hE X hX hx)) ⟨by omega, hei⟩⟩
          · refine ⟨.ref Q', rfl, Q', ys, rfl, .inl ⟨sq_of hQ, fun l nl => ?_⟩⟩
            have sl := same_new (o := .tup ys) nl
            exact q _ _ (.tuple es) (s3.trans sl) (fun X hX hx => .tup (hide_new ((hX.same s3).new nl)) ((hE X hX hx).same (hide_same sl))) ⟨by omega, hei⟩
theorem ok__law_spoilt (T : Top K mg) : FnOk P w K mg base CX0 6 T.a__law_spoilt T.fd__law_spoilt ["thing", "picks"] (spS K 4) := ok_sp T 4

/-! the law's draws -/
def spCell (K : PySem.W.Frag) : Sp := fun vs H Q _ => ∃ (a : Addr) (ns : List Int) (k : Int), vs = [.ref a, .int k] ∧ SqL K H a (ns.map V.int) ∧ 0 ≤ k ∧ ∀ v : Int, Q (.int v) H
theorem ok__law_cell_at (T : Top K mg) : FnOk P w K mg base CX0 1 T.a__law_cell_at T.fd__law_cell_at ["script", "k"] (spCell K) := by
  refine T.F__law_cell_at.ok sc__law_cell_at (fun vs H Q E h => ?_) (fun cdv A outer s H vs Q E hr h => ?_)
  · obtain ⟨a, ns, k, rfl, _⟩ := h
    rfl
  · obtain ⟨a, ns, k, rfl, hS, k0, q⟩ := h
    refine ⟨_, (pss_cons (ps_if (pt_cmpR op_lt (pv 1) (pe_callB call_len_seq (by rfl) T.z_len (by decide +kernel) (pa_cons (pv 0) pa_nil)) (nomark _)) (pss_one (ps_ret (pe_ix ix_list (pv 0) (pv 1) (fun _ _ => rfl)))) pss_nil)
      (pss_one (ps_ret pe_int))), ?_⟩
    refine ⟨.int k, rfl, .ref a, rfl, a, _, rfl, .inl hS, k, _, rfl, rfl, _, rfl, ite2 (fun e => ?_) (fun e => ?_)⟩
    · have e1 : k < ((ns.map V.int).length : Int) := of_decide_eq_true e
      rw [List.length_map] at e1
      have e2 : k.toNat < ns.length := by omega
      exact ⟨.ref a, rfl, .int k, rfl, a, _, k, .int ns[k.toNat], rfl, rfl, hS, at_of (j := k.toNat) (by omega) (by rw [List.getElem?_map, List.getElem?_eq_getElem e2]; rfl), q _⟩
    · exact q 0
def spDraws : Sp := fun vs H Q _ => ∃ cell : Int, vs = [.int cell, .int 400, .int 1000] ∧
  ∀ H' p (ds : List Int), Same H H' → H p = none → H' p = some (.lst (ds.map V.int)) → ds.length = 400 → (∀ x ∈ ds, 0 ≤ x ∧ x < 1000) → Q (.ref p) H'
theorem grow {ds : List Int} {v : Int} (h : ∀ x ∈ ds, 0 ≤ x ∧ x < 1000) (h0 : 0 ≤ v) (h1 : v < 1000) : ∀ x ∈ ds ++ [v], 0 ≤ x ∧ x < 1000 := fun x hx => by
  rcases List.mem_append.mp hx with z | z
  · exact h x z
  · rw [List.mem_singleton.mp z]
    exact ⟨h0, h1⟩
theorem ok__law_draws (T : Top K mg) : FnOk P w K mg base CX0 1 T.a__law_draws T.fd__law_draws ["cell", "many", "size"] spDraws := by
  refine T.F__law_draws.ok sc__law_draws (fun vs H Q E h => ?_) (fun cdv A outer s H vs Q E hr h => ?_)
  · obtain ⟨cell, rfl, _⟩ := h
    rfl
  · obtain ⟨cell, rfl, q⟩ := h
    refine ⟨_, (pss_cons (ps_set (i := 3) sc__law_draws.nd rfl (.inl rfl) (pe_lst pa_nil))
      (pss_cons (ps_set (i := 4) sc__law_draws.nd rfl (.inl rfl) (pe_op op_mul (pv 0) (pe_callTy call_int1 (by rfl) T.z_int (by decide +kernel) (pa_cons (pe_cmpR op_ge (pv 0) (pe_op op_pow pe_int pe_int) (nomark _)) pa_nil))))
      (pss_cons (ps_set (i := 5) sc__law_draws.nd rfl (.inl rfl) (pe_op op_mod (pv 0) pe_int))
      (pss_cons (ps_for PassesOwn.never rfl (pi_range1 (by rfl) T.z_range (pa_cons (pe_op op_add (pv 1) pe_int) pa_nil)) (pg_name (i := 6) sc__law_draws.nd rfl (.inl rfl))
        (pss_cons (ps_set (i := 5) sc__law_draws.nd rfl (.inl rfl) (pe_op op_mod (pe_op op_add (pe_op op_add (pe_op op_add (pe_op op_mul (pv 5) (pv 5)) (pe_op op_mul pe_int (pv 5))) (pv 6)) pe_int) pe_int))
      (pss_one (ps_if (PW.pt (pw_and (pt_cmpR op_gt (pv 6) pe_int (nomark _)) (pw_and1 (pt_cmpR op_gt (pv 4) pe_int (nomark _))))) (pss_cons (ps_expr (pe_bm PySem.F.plainAttrs_list PySem.F.slot_list_append PySem.F.type_list_append mt_append (pv 3) (pa_cons (pe_op op_mod (pv 4) (pv 2)) pa_nil)))
      (pss_one (ps_set (i := 4) sc__law_draws.nd rfl (.inl rfl) (pe_op op_fdiv (pv 4) (pv 2))))) (pss_one (ps_if (pt_cmpR op_gt (pv 6) pe_int (nomark _)) (pss_one (ps_expr (pe_bm PySem.F.plainAttrs_list PySem.F.slot_list_append PySem.F.type_list_append mt_append (pv 3) (pa_cons (pe_op op_mod (pe_op op_fdiv (pv 5) pe_int) (pv 2)) pa_nil)))) pss_nil))))))
      (pss_one (ps_ret (pv 3))))))), ?_⟩
    refine ⟨Nat.zero_le _, fun o no => ?_⟩
    refine ⟨.int cell, rfl, .int cell, rfl, 10, 18, rfl, rfl, ⟨by decide, by decide, by decide⟩, cell, _, rfl, rfl, .inr ⟨_, rfl, cell, _, rfl, rfl, .inr ?_, ?_⟩⟩
    · split <;> exact ⟨by decide, by decide⟩
    refine ⟨.int cell, rfl, cell, 2305843009213693951, rfl, rfl, (by decide : (0 : Int) < 2305843009213693951), ?_⟩
    refine ⟨.int 400, rfl, 400, 3, rfl, rfl, _, rfl, by decide, by decide, ?_⟩
    refine for_range (lo := 0) (n := 403) (fun i σ H' => Same H H' ∧ ∃ (rest st : Int) (y : Option V) (ds : List Int), σ = [some (.int cell), some (.int 400), some (.int 1000), some (.ref o), some (.int rest), some (.int st), y] ∧ 0 ≤ st ∧ st < 2305843009213693951 ∧ H' o = some (.lst (ds.map V.int)) ∧ ds.length = i - 3 ∧ ∀ x ∈ ds, 0 ≤ x ∧ x < 1000)
      ⟨same_new no, _, _, none, [], rfl, Int.emod_nonneg _ (by decide), Int.emod_lt_of_pos _ (by decide), upd_same, rfl, fun x hx => nomatch hx⟩ (fun i σ H' hi hp => ?_) (fun σ H' hp => ?_)
    · obtain ⟨sm, rest, st, y, ds, rfl, s0, s1, ho, hl, hb⟩ := hp
      refine ⟨.int st, rfl, .int st, rfl, st, st, rfl, rfl, .inl ⟨by omega, by omega⟩, .int st, rfl, 48271, st, rfl, rfl, .inl ⟨by decide, by decide⟩, _, _, rfl, rfl, .int (0 + (i : Int)), rfl, _, _, rfl, rfl, _, _, rfl, rfl, _, 2305843009213693951, rfl, rfl, (by decide : (0 : Int) < 2305843009213693951), ?_⟩
      have nn : ∀ z : Int, 0 ≤ z % 2305843009213693951 ∧ z % 2305843009213693951 < 2305843009213693951 := fun z => ⟨Int.emod_nonneg _ (by decide), Int.emod_lt_of_pos _ (by decide)⟩
      have nk : ∀ z : Int, 0 ≤ z % 1000 ∧ z % 1000 < 1000 := fun z => ⟨Int.emod_nonneg _ (by decide), Int.emod_lt_of_pos _ (by decide)⟩
      have sz : (ds.map V.int).length < sizeLine := by
        rw [List.length_map, hl]
        exact small1000 (by omega)
      refine ⟨.int (0 + (i : Int)), rfl, _, 2, rfl, rfl, _, rfl, ite2 (fun e => ?_) (fun e => ?_)⟩
      · have e1 : (2 : Int) < 0 + (i : Int) := of_decide_eq_true e
        refine ⟨.int rest, rfl, rest, 0, rfl, rfl, _, rfl, ite2 (fun e2 => ?_) (fun e2 => ?_)⟩
        · refine ⟨.ref o, rfl, .inl ⟨rfl, _, sq_of ho⟩, .int rest, rfl, .int 1000, rfl, rest, 1000, rfl, rfl, (by decide : (0 : Int) < 1000), o, _, _, rfl, rfl, ho, sz, ?_⟩
          refine ⟨.int rest, rfl, .int 1000, rfl, rest, 1000, rfl, rfl, ⟨by decide, by decide⟩, same_upd_new no sm, _, _, _, ds ++ [rest % 1000], rfl, (nn _).1, (nn _).2, ?_, ?_, grow hb (nk _).1 (nk _).2⟩
          · rw [upd_same, List.map_append]
            rfl
          · rw [List.length_append, hl]
            show i - 3 + 1 = i + 1 - 3
            omega
        · refine ⟨.int (0 + (i : Int)), rfl, _, 2, rfl, rfl, _, rfl, ?_⟩
          rw [e]
          refine iteT ⟨.ref o, rfl, .inl ⟨rfl, _, sq_of ho⟩, _, rfl, _, 4096, rfl, rfl, ⟨by decide, by decide⟩, .int 1000, rfl, _, 1000, rfl, rfl, (by decide : (0 : Int) < 1000), o, _, _, rfl, rfl, ho, sz, ?_⟩
          refine ⟨same_upd_new no sm, rest, _, _, ds ++ [(st * st + 48271 * st + (0 + (i : Int)) + 1) % 2305843009213693951 / 4096 % 1000], rfl, (nn _).1, (nn _).2, ?_, ?_, grow hb (nk _).1 (nk _).2⟩
          · rw [upd_same, List.map_append]
            rfl
          · rw [List.length_append, hl]
            show i - 3 + 1 = i + 1 - 3
            omega
      · refine iteF ?_
        refine ⟨.int (0 + (i : Int)), rfl, _, 2, rfl, rfl, _, rfl, ?_⟩
        have e0 : ¬ (2 : Int) < 0 + (i : Int) := fun z => e (decide_eq_true z)
        rw [show decide ((2 : Int) < 0 + (i : Int)) = false from decide_eq_false e0]
        exact iteF ⟨sm, rest, _, _, ds, rfl, (nn _).1, (nn _).2, ho, by omega, hb⟩
    · obtain ⟨sm, rest, st, y, ds, rfl, s0, s1, ho, hl, hb⟩ := hp
      exact ⟨.ref o, rfl, q H' o ds sm no ho hl hb⟩
def spBag (K : PySem.W.Frag) : Sp := fun vs H Q _ => ∃ (a : Addr) (ns : List Int) (k : Int), vs = [.ref a, .int k] ∧ SqL K H a (ns.map V.int) ∧ 0 ≤ k ∧ ∀ H' b, Same H H' → H b = none → Bag H' b → Q (.ref b) H'
theorem ok__law_bag (T : Top K mg) : FnOk P w K mg base CX0 2 T.a__law_bag T.fd__law_bag ["script", "k"] (spBag K) := by
  refine T.F__law_bag.ok sc__law_bag (fun vs H Q E h => ?_) (fun cdv A outer s H vs Q E hr h => ?_)
  · obtain ⟨a, ns, k, rfl, _⟩ := h
    rfl
  · obtain ⟨a, ns, k, rfl, hS, k0, q⟩ := h
    refine ⟨_, (pss_one (ps_ret (pe_lst (pa_cons (pe_call (ok__law_draws T) (hr.mono (by decide)) (by rfl) T.g__law_draws T.F__law_draws.kp T.b__law_draws .nil pass0 (pa_cons (pe_call (ok__law_cell_at T) (hr.mono (by decide)) (by rfl) T.g__law_cell_at T.F__law_cell_at.kp T.b__law_cell_at .nil pass0 (pa_cons (pv 0) (pa_cons (pv 1) pa_nil))) (pa_cons pe_int (pa_cons pe_int pa_nil)))) (pa_cons pe_int pa_nil))))), ?_⟩
    refine ⟨.ref a, rfl, .int k, rfl, a, ns, k, rfl, hS, k0, fun v => ⟨v, rfl, fun H1 d ds s1 nd hd hl hb => ⟨by show 2 ≤ sizeLine; decide, fun b nb => q _ b (s1.trans (same_new nb)) (s1.free nb) ?_⟩⟩⟩
    exact ⟨d, ds, 0, upd_same, by rw [upd_ne (ne_of_none hd nb)]; exact hd, hl, hb, Int.le_refl 0⟩
def spBags (K : PySem.W.Frag) : Sp := fun vs H Q _ => ∃ (a : Addr) (ns : List Int) (lim : Int), vs = [.ref a, .int lim] ∧ SqL K H a (ns.map V.int) ∧ 1 ≤ lim ∧ lim ≤ 63 ∧
  ∀ H' p (bs : List Addr), Same H H' → H p = none → H' p = some (.lst (bs.map V.ref)) → (∀ b ∈ bs, Bag H' b) → Q (.ref p) H'
theorem ok__law_bags (T : Top K mg) : FnOk P w K mg base CX0 3 T.a__law_bags T.fd__law_bags ["script", "limit"] (spBags K) := by
  refine T.F__law_bags.ok sc__law_bags (fun vs H Q E h => ?_) (fun cdv A outer s H vs Q E hr h => ?_)
  · obtain ⟨a, ns, lim, rfl, _⟩ := h
    rfl
  · obtain ⟨a, ns, lim, rfl, hS, l1, l2, q⟩ := h
    refine ⟨_, (pss_one (ps_ret (pe_lc (own := [("k", 2)]) (by rfl) sc__law_bags.nd (pi_range1 (by rfl) T.z_range (pa_cons (pe_callB (call_max2 rfl) (by rfl) T.z_max (by decide +kernel) (pa_cons pe_int (pa_cons (pe_callB (call_min2 rfl) (by rfl) T.z_min (by decide +kernel) (pa_cons (pv 1) (pa_cons (pe_callB call_len_seq (by rfl) T.z_len (by decide +kernel) (pa_cons (pv 0) pa_nil)) pa_nil))) pa_nil))) pa_nil))
        (blkOk_by (own := [("k", 2)]) (N := ["script", "limit", "k"]) (sc := defScope s__law_bags) (by decide +kernel))
        (fun _ _ _ _ _ => (pg_name (i := 2) sc__law_bags.nd rfl (.inl rfl))) (fun _ _ _ _ _ => pts_nil) (fun _ _ _ _ _ => (pe_call (ok__law_bag T) (hr.mono (by decide)) (by rfl) T.g__law_bag T.F__law_bag.kp T.b__law_bag .nil pass0 (pa_cons (pv 0) (pa_cons (pv 2) pa_nil))))))), ?_⟩
    obtain ⟨m, hm⟩ : ∃ m : Int, m = if (if ((ns.map V.int).length : Int) < lim then ((ns.map V.int).length : Int) else lim) > 1 then (if ((ns.map V.int).length : Int) < lim then ((ns.map V.int).length : Int) else lim) else 1 := ⟨_, rfl⟩
    have m1 : 1 ≤ m := by rw [hm]; split <;> omega
    have m2 : m ≤ 63 := by rw [hm]; split <;> (try split) <;> omega
    refine ⟨.int lim, rfl, .ref a, rfl, a, _, rfl, .inl hS, lim, _, rfl, 1, _, rfl, m, congrArg (fun z => [V.int z]) hm.symm, by omega, by omega, fun D hD => ?_⟩
    refine lc_range (lo := 0) (n := m.toNat) (fun i H' => Same H H' ∧ ∃ bs : List Addr, H' D = some (.lst (bs.map V.ref)) ∧ bs.length = i ∧ ∀ b ∈ bs, Bag H' b)
      ⟨same_new hD, [], upd_same, rfl, fun b hb => nomatch hb⟩ (fun i H' hi hp => ?_) (fun H' hp => ?_)
    · obtain ⟨sm, bs, h1, h2, h3⟩ := hp
      refine ⟨rfl, yesT ?_⟩
      refine ⟨.ref a, rfl, .int (0 + (i : Int)), rfl, a, ns, _, rfl, sm.seq hS, by omega, fun H4 b s4 nb hb => ⟨_, s4 _ _ h1, ?_, same_upd_new hD (sm.trans s4), bs ++ [b], ?_, ?_, fun b' hb' => ?_⟩⟩
      · rw [List.length_map, h2]
        exact small1000 (by omega)
      · rw [upd_same, List.map_append]
        rfl
      · rw [List.length_append, h2]
        rfl
      · have k4 : Bag H4 b' := by
          rcases List.mem_append.mp hb' with z | z
          · exact (h3 b' z).same s4
          · rw [List.mem_singleton.mp z]
            exact hb
        exact k4.upd_refs (s4 _ _ h1)
    · obtain ⟨sm, bs, h1, h2, h3⟩ := hp
      exact q H' D bs sm hD h1 h3
def spTake : Sp := fun vs H Q _ => ∃ (b : Addr) (m : Int), vs = [.ref b, .int m] ∧ Bag H b ∧ 0 < m ∧ ∀ H' (r : Int), Kb b H H' → Bag H' b → 0 ≤ r → r < m → Q (.int r) H'
theorem ok__law_take (T : Top K mg) : FnOk P w K mg base CX0 1 T.a__law_take T.fd__law_take ["bag", "many"] spTake := by
  refine T.F__law_take.ok sc__law_take (fun vs H Q E h => ?_) (fun cdv A outer s H vs Q E hr h => ?_)
  · obtain ⟨b, m, rfl, _⟩ := h
    rfl
  · obtain ⟨b, m, rfl, hB, m0, q⟩ := h
    obtain ⟨d, ds, c, h1, h2, h3, h4, h5⟩ := id hB
    refine ⟨_, (pss_cons (ps_asg (pe_op op_add (pe_ix ix_list (pv 0) pe_int (fun _ _ => rfl)) pe_int) (pg_sub (pv 0) pe_int set_list))
      (pss_one (ps_ret (pe_op op_mod (pe_ix ix_list (pe_ix ix_list (pv 0) pe_int (fun _ _ => rfl)) (pe_op op_mod (pe_ix ix_list (pv 0) pe_int (fun _ _ => rfl)) (pe_callB call_len_seq (by rfl) T.z_len (by decide +kernel) (pa_cons (pe_ix ix_list (pv 0) pe_int (fun _ _ => rfl)) pa_nil))) (fun _ _ => rfl)) (pv 1))))), ?_⟩
    refine ⟨.ref b, rfl, b, _, 1, .int c, rfl, rfl, sq_of h1, rfl, c, 1, rfl, rfl, .ref b, rfl, b, _, 1, 1, rfl, rfl, h1, rfl, ?_⟩
    have ndb : d ≠ b := ne_of h2 h1 (by
      intro z
      have z2 := congrArg List.length (HO.lst.inj z)
      rw [List.length_map, h3] at z2
      simp at z2)
    have g1 : (upd H b (.lst [.ref d, .int (c + 1)])) b = some (.lst [.ref d, .int (c + 1)]) := upd_same
    have g2 : (upd H b (.lst [.ref d, .int (c + 1)])) d = some (.lst (ds.map V.int)) := by rw [upd_ne ndb]; exact h2
    have j0 : 0 ≤ (c + 1) % 400 := Int.emod_nonneg _ (by decide)
    have j1 : (c + 1) % 400 < 400 := Int.emod_lt_of_pos _ (by decide)
    have jl : ((c + 1) % 400).toNat < ds.length := by omega
    have ll : ((ds.map V.int).length : Int) = 400 := by rw [List.length_map, h3]; rfl
    refine ⟨.ref b, rfl, b, _, 0, .ref d, rfl, rfl, sq_of g1, rfl, .ref b, rfl, b, _, 1, .int (c + 1), rfl, rfl, sq_of g1, rfl, .ref b, rfl, b, _, 0, .ref d, rfl, rfl, sq_of g1, rfl, d, _, rfl, .inl (sq_of g2), c + 1, 400, rfl, congrArg V.int ll, (by decide : (0 : Int) < 400),
      d, _, (c + 1) % 400, .int ds[((c + 1) % 400).toNat], rfl, rfl, sq_of g2, at_of (j := ((c + 1) % 400).toNat) (by omega) (by rw [List.getElem?_map, List.getElem?_eq_getElem jl]; rfl), .int m, rfl, _, m, rfl, rfl, m0, ?_⟩
    exact q _ _ (fun a o na ha => by rw [upd_ne na]; exact ha) ⟨d, ds, c + 1, g1, g2, h3, h4, by omega⟩ (Int.emod_nonneg _ (by omega)) (Int.emod_lt_of_pos _ m0)

/-! drawn rows -/
def spTk : Sp := fun vs H Q _ => ∃ (b : Addr) (far : Int), vs = [.ref b, .int far] ∧ Bag H b ∧ 2 ≤ far ∧ far ≤ 1000 ∧
  ∀ H' t (e c : Int), Kb b H H' → Bag H' b → H t = none → H' t = some (.tup [.int e, .int c]) → okT (e, c) → e ≤ far → Q (.ref t) H'
theorem at2 {a b : V} {i : Int} (h0 : 0 ≤ i) (h1 : i < 2) : atI [a, b] i = some (if i = 0 then a else b) := by
  have : i = 0 ∨ i = 1 := by omega
  rcases this with rfl | rfl <;> rfl
theorem at3 {a b c : V} {i : Int} (h0 : 0 ≤ i) (h1 : i < 3) : atI [a, b, c] i = some (if i = 0 then a else if i = 1 then b else c) := by
  have : i = 0 ∨ i = 1 ∨ i = 2 := by omega
  rcases this with rfl | rfl | rfl <;> rfl
theorem keepL {b L : Addr} {H H' : Hp} {xs : List V} (h : H L = some (.lst xs)) (hb : Bag H b) (k : Kb b H H') (hx : ∀ d, xs[0]? ≠ some (.ref d)) : H' L = some (.lst xs) :=
  k _ _ (ne_bag h hb hx) h
theorem ok__law_taker (T : Top K mg) : FnOk P w K mg base CX0 2 T.a__law_taker T.fd__law_taker ["bag", "far"] spTk := by
  refine T.F__law_taker.ok sc__law_taker (fun vs H Q E h => ?_) (fun cdv A outer s H vs Q E hr h => ?_)
  · obtain ⟨b, far, rfl, _⟩ := h
    rfl
  · obtain ⟨b, far, rfl, hB, f1, f2, q⟩ := h
    refine ⟨_, (pss_cons (ps_set (i := 2) sc__law_taker.nd rfl (.inl rfl) (pe_op op_add pe_int (pe_ix ix_list (pe_lst (pa_cons (pe_call (ok__law_take T) (hr.mono (by decide)) (by rfl) T.g__law_take T.F__law_take.kp T.b__law_take .nil pass0 (pa_cons (pv 0) (pa_cons (pe_callB (call_min2 rfl) (by rfl) T.z_min (by decide +kernel) (pa_cons pe_int (pa_cons (pe_op op_sub (pv 1) pe_int) pa_nil))) pa_nil))) (pa_cons (pe_call (ok__law_take T) (hr.mono (by decide)) (by rfl) T.g__law_take T.F__law_take.kp T.b__law_take .nil pass0 (pa_cons (pv 0) (pa_cons (pe_op op_sub (pv 1) pe_int) pa_nil))) pa_nil))) (pe_call (ok__law_take T) (hr.mono (by decide)) (by rfl) T.g__law_take T.F__law_take.kp T.b__law_take .nil pass0 (pa_cons (pv 0) (pa_cons pe_int pa_nil))) (fun _ _ => rfl))))
      (pss_one (ps_ret (pe_tup (pa_cons (pv 2) (pa_cons (pe_ix ix_list (pe_lst (pa_cons pe_int (pa_cons (pe_call (ok__law_take T) (hr.mono (by decide)) (by rfl) T.g__law_take T.F__law_take.kp T.b__law_take .nil pass0 (pa_cons (pv 0) (pa_cons (pv 2) pa_nil))) (pa_cons (pe_op op_sub (pv 2) pe_int) pa_nil)))) (pe_call (ok__law_take T) (hr.mono (by decide)) (by rfl) T.g__law_take T.F__law_take.kp T.b__law_take .nil pass0 (pa_cons (pv 0) (pa_cons pe_int pa_nil))) (fun _ _ => rfl)) pa_nil)))))), ?_⟩
    obtain ⟨mi, hmi⟩ : ∃ mi : Int, mi = if far - 1 < 4 then far - 1 else 4 := ⟨_, rfl⟩
    have mi1 : 0 < mi := by rw [hmi]; split <;> omega
    have mi2 : mi ≤ far - 1 := by rw [hmi]; split <;> omega
    refine ⟨.ref b, rfl, .int far, rfl, far, 1, rfl, rfl, 4, far - 1, rfl, b, mi, by rw [hmi]; rfl, hB, mi1, fun H1 r1 k1 B1 lo1 hi1 => ?_⟩
    refine ⟨.ref b, rfl, .int far, rfl, far, 1, rfl, rfl, b, far - 1, rfl, B1, by omega, fun H2 r2 k2 B2 lo2 hi2 => ?_⟩
    refine ⟨by show 2 ≤ sizeLine; decide, fun L nL => ?_⟩
    have B2' : Bag (upd H2 L (.lst [.int r1, .int r2])) b := B2.same (same_new nL)
    refine ⟨.ref b, rfl, b, 2, rfl, B2', by decide, fun H3 r3 k3 B3 lo3 hi3 => ?_⟩
    have hL : H3 L = some (.lst [.int r1, .int r2]) := keepL upd_same B2' k3 (by intro d z; cases z)
    obtain ⟨v, hv⟩ : ∃ v : Int, (if r3 = 0 then V.int r1 else V.int r2) = .int v ∧ 0 ≤ v ∧ v < far - 1 := by
      split
      · exact ⟨r1, rfl, lo1, by omega⟩
      · exact ⟨r2, rfl, lo2, hi2⟩
    obtain ⟨hv, v0, v1⟩ := hv
    refine ⟨L, _, r3, .int v, rfl, rfl, sq_of hL, by rw [at2 lo3 hi3, hv], 2, v, rfl, rfl, ?_⟩
    have kH3 : Kb b H H3 := (k1.trans k2).trans ((Kb.of (same_new nL)).trans k3)
    refine ⟨.int (2 + v), rfl, .ref b, rfl, .int (2 + v), rfl, b, 2 + v, rfl, B3, by omega, fun H4 r4 k4 B4 lo4 hi4 => ?_⟩
    refine ⟨.int (2 + v), rfl, 2 + v, 1, rfl, rfl, by show 3 ≤ sizeLine; decide, fun M nM => ?_⟩
    have B4' : Bag (upd H4 M (.lst [.int 0, .int r4, .int (2 + v - 1)])) b := B4.same (same_new nM)
    refine ⟨.ref b, rfl, b, 3, rfl, B4', by decide, fun H5 r5 k5 B5 lo5 hi5 => ?_⟩
    have hM : H5 M = some (.lst [.int 0, .int r4, .int (2 + v - 1)]) := keepL upd_same B4' k5 (by intro d z; cases z)
    obtain ⟨c, hc, c0, c1⟩ : ∃ c : Int, (if r5 = 0 then V.int 0 else if r5 = 1 then V.int r4 else V.int (2 + v - 1)) = .int c ∧ 0 ≤ c ∧ c ≤ 2 + v - 1 := by
      split
      · exact ⟨0, rfl, by omega, by omega⟩
      · split
        · exact ⟨r4, rfl, lo4, by omega⟩
        · exact ⟨2 + v - 1, rfl, by omega, by omega⟩
    refine ⟨M, _, r5, .int c, rfl, rfl, sq_of hM, by rw [at3 lo5 hi5, hc], by show 2 ≤ sizeLine; decide, fun t nt => ?_⟩
    have kH5 : Kb b H H5 := kH3.trans (k4.trans ((Kb.of (same_new nM)).trans k5))
    exact q _ t (2 + v) c (kH5.trans (Kb.of (same_new nt))) (B5.same (same_new nt)) (kH5.free B5 nt) upd_same ⟨by show 2 ≤ 2 + v; omega, by show 2 + v ≤ 1000; omega, c0, c1⟩ (by omega)
def spDrawn : Sp := fun vs H Q _ => ∃ (b : Addr) (tk far : Int), vs = [.ref b, .int tk, .int far] ∧ Bag H b ∧ 0 ≤ tk ∧ tk ≤ 8 ∧ 2 ≤ far ∧ far ≤ 1000 ∧
  ∀ H' p (r : List (Int × Int)), Kb b H H' → Bag H' b → RowAt H' p r → (∀ ec ∈ r, okT ec) → (∀ ec ∈ r, ec.1 ≤ far) → (r.length : Int) ≤ tk → Q (.ref p) H'
theorem ok__law_drawn_row (T : Top K mg) : FnOk P w K mg base CX0 3 T.a__law_drawn_row T.fd__law_drawn_row ["bag", "takers", "far"] spDrawn := by
  refine T.F__law_drawn_row.ok sc__law_drawn_row (fun vs H Q E h => ?_) (fun cdv A outer s H vs Q E hr h => ?_)
  · obtain ⟨b, tk, far, rfl, _⟩ := h
    rfl
  · obtain ⟨b, tk, far, rfl, hB, t1, t2, f1, f2, q⟩ := h
    refine ⟨_, (pss_one (ps_ret (pe_callTy call_tuple_of (by rfl) T.z_tuple (by decide +kernel) (pa_cons (pe_lc (own := [("turn", 3)]) (by rfl) sc__law_drawn_row.nd (pi_range1 (by rfl) T.z_range (pa_cons (pe_call (ok__law_take T) (hr.mono (by decide)) (by rfl) T.g__law_take T.F__law_take.kp T.b__law_take .nil pass0 (pa_cons (pv 0) (pa_cons (pe_op op_add (pv 1) pe_int) pa_nil))) pa_nil))
        (blkOk_by (own := [("turn", 3)]) (N := ["bag", "takers", "far", "turn"]) (sc := defScope s__law_drawn_row) (by decide +kernel))
        (fun _ _ _ _ _ => (pg_name (i := 3) sc__law_drawn_row.nd rfl (.inl rfl))) (fun _ _ _ _ _ => pts_nil) (fun _ _ _ _ _ => (pe_call (ok__law_taker T) (hr.mono (by decide)) (by rfl) T.g__law_taker T.F__law_taker.kp T.b__law_taker .nil pass0 (pa_cons (pv 0) (pa_cons (pv 2) pa_nil))))) pa_nil)))), ?_⟩
    refine ⟨.ref b, rfl, .int tk, rfl, tk, 1, rfl, rfl, b, tk + 1, rfl, hB, by omega, fun H1 m k1 B1 lo1 hi1 => ?_⟩
    refine ⟨m, rfl, by omega, by omega, fun D hD => ?_⟩
    refine lc_range (lo := 0) (n := m.toNat) (fun i H' => Kb b H H' ∧ Bag H' b ∧ (∀ a o, a ≠ b → H1 a = some o → H' a = some o) ∧ ∃ (ts : List Addr) (r : List (Int × Int)), H' D = some (.lst (ts.map V.ref)) ∧ ts.length = i ∧ r.length = i ∧ (∀ ec ∈ r, okT ec) ∧ (∀ ec ∈ r, ec.1 ≤ far) ∧
        ∀ (j : Nat) (t : Addr) (ec : Int × Int), ts[j]? = some t → r[j]? = some ec → H' t = some (.tup [.int ec.1, .int ec.2]))
      ⟨k1.trans (Kb.of (same_new hD)), B1.same (same_new hD), fun a o _ h => same_new hD a o h, [], [], upd_same, rfl, rfl, (fun ec h => nomatch h), (fun ec h => nomatch h), fun j t ec h => nomatch h⟩ (fun i H' hi hp => ?_) (fun H' hp => ?_)
    · obtain ⟨kk, BB, kd, ts, r, g1, g2, g3, g4, g5, g6⟩ := hp
      refine ⟨rfl, yesT ?_⟩
      refine ⟨.ref b, rfl, .int far, rfl, b, far, rfl, BB, f1, f2, fun H4 t e c k4 B4 nt ht okt hle => ?_⟩
      have nDb : D ≠ b := fun z => by
        obtain ⟨d, ds, c', z1, _⟩ := B1
        rw [z, z1] at hD
        cases hD
      have gD : H4 D = some (.lst (ts.map V.ref)) := k4 _ _ nDb g1
      refine ⟨_, gD, ?_, ?_, B4.upd_refs gD, ?_, ts ++ [t], r ++ [(e, c)], ?_, ?_, ?_, ?_, ?_, ?_⟩
      · rw [List.length_map, g2]
        exact small1000 (by omega)
      · intro a o na ha
        rw [upd_ne (ne_of_none ha (k1.free B1 hD))]
        exact (kk.trans k4) a o na ha
      · intro a o na ha
        rw [upd_ne (ne_of_none ha hD)]
        exact k4 _ _ na (kd _ _ na ha)
      · rw [upd_same, List.map_append]
        rfl
      · rw [List.length_append, g2]
        rfl
      · rw [List.length_append, g3]
        rfl
      · intro ec hm
        rcases List.mem_append.mp hm with z | z
        · exact g4 _ z
        · rw [List.mem_singleton.mp z]
          exact okt
      · intro ec hm
        rcases List.mem_append.mp hm with z | z
        · exact g5 _ z
        · rw [List.mem_singleton.mp z]
          exact hle
      · intro j t' ec a1 a2
        have h4 : H4 t' = some (.tup [.int ec.1, .int ec.2]) := by
          by_cases hj : j < i
          · rw [List.getElem?_append_left (by omega)] at a1 a2
            exact (k4.tup BB) _ _ (g6 j t' ec a1 a2)
          · have hji : j = i := by
              have := (List.getElem?_eq_some_iff.mp a1).1
              rw [List.length_append, g2] at this
              simp at this
              omega
            subst hji
            rw [List.getElem?_append_right (by omega), g2, Nat.sub_self] at a1
            rw [List.getElem?_append_right (by omega), g3, Nat.sub_self] at a2
            cases a1
            cases a2
            exact ht
        rw [upd_ne (ne_of h4 gD (by intro z; cases z))]
        exact h4
    · obtain ⟨kk, BB, kd, ts, r, g1, g2, g3, g4, g5, g6⟩ := hp
      refine ⟨D, _, rfl, .inl ⟨sq_of g1, fun l nl => ?_⟩⟩
      have sl := same_new (o := .tup (ts.map V.ref)) nl
      refine q _ l r (kk.trans (Kb.of sl)) (BB.same sl) ⟨ts, upd_same, by omega, fun j t ec a1 a2 => sl _ _ (g6 j t ec a1 a2)⟩ g4 g5 ?_
      omega

/-! between two turns of the law's loop -/
def spLaw (K : PySem.W.Frag) : Sp := fun vs H Q _ => ∃ (a : Addr) (ns : List Int), vs = [.ref a] ∧ SqL K H a (ns.map V.int) ∧ ns.length ≤ 63 ∧ ∀ H', Q (.bl true) H'
theorem refs1 {bs : List Addr} : ∀ d, (bs.map V.ref)[1]? ≠ some (.int d) := fun d h => by
  rw [List.getElem?_map] at h
  cases q : bs[1]? <;> rw [q] at h <;> cases h
theorem os0 {os : List (Option Nat)} : ∀ d, (os.map ofO)[0]? ≠ some (.ref d) := fun d h => by
  rw [List.getElem?_map] at h
  cases q : os[0]? with
  | none => rw [q] at h; cases h
  | some o => rw [q] at h; cases o <;> cases h
theorem ints0 {ns : List Int} : ∀ d, (ns.map V.int)[0]? ≠ some (.ref d) := fun d h => by
  rw [List.getElem?_map] at h
  cases q : ns[0]? <;> rw [q] at h <;> cases h
structure Std (H : Hp) (L : Addr) (bs : List Addr) : Prop where
  l : H L = some (.lst (bs.map V.ref))
  b : ∀ b ∈ bs, Bag H b
theorem Std.same {H H' : Hp} {L : Addr} {bs : List Addr} (h : Std H L bs) (s : Same H H') : Std H' L bs := ⟨s _ _ h.l, fun b hb => (h.b b hb).same s⟩
theorem Std.kb {H H' : Hp} {L b : Addr} {bs : List Addr} (h : Std H L bs) (hb : b ∈ bs) (k : Kb b H H') (hn : Bag H' b) : Std H' L bs :=
  ⟨k _ _ (ne_bag2 h.l (h.b b hb) refs1) h.l, fun b' hb' => (h.b b hb).keep k hn (h.b b' hb')⟩
theorem ok_pair {r : List (Int × Int)} (h : r.all (fun ec => decide (2 ≤ ec.1) && decide (ec.1 ≤ 1000) && decide (0 ≤ ec.2) && decide (ec.2 ≤ ec.1 - 1)) = true) : ∀ ec ∈ r, okT ec := fun ec hm => by
  have := List.all_eq_true.mp h ec hm
  simp only [Bool.and_eq_true, decide_eq_true_eq] at this
  exact ⟨this.1.1.1, this.1.1.2, this.1.2, this.2⟩

/-! the law of rows -/
def tkD (ec : Int × Int) : PyData := .tuple [.int ec.1, .int ec.2]
theorem dt_row {H : Hp} : ∀ (ts : List Addr) (r : List (Int × Int)), ts.length = r.length → (∀ (i : Nat) (t : Addr) (ec : Int × Int), ts[i]? = some t → r[i]? = some ec → H t = some (.tup [.int ec.1, .int ec.2])) → DTs H (ts.map V.ref) (r.map tkD)
  | [], [], _, _ => .nil
  | [], _ :: _, h, _ => by cases h
  | _ :: _, [], h, _ => by cases h
  | t :: ts, ec :: r, h, h3 => .cons (.tup (h3 0 t ec rfl rfl) (.cons (.int _) (.cons (.int _) .nil))) (dt_row ts r (Nat.succ.inj h) fun i u g a b => h3 (i + 1) u g (by simpa using a) (by simpa using b))
theorem sm_row (r : List (Int × Int)) (h : r.length ≤ 8) : Sm 10 2 (.tuple (r.map tkD)) := ⟨by rw [List.length_map]; omega, fun x hx => by
  obtain ⟨ec, _, rfl⟩ := List.mem_map.mp hx
  exact ⟨by show 2 ≤ 10; omega, fun y hy => by simp at hy; rcases hy with rfl | rfl <;> trivial⟩⟩
theorem cut_ds {ds : List Int} {m : Int} (h0 : 0 ≤ m) (h1 : m ≤ ds.length) : cutV (ds.map V.int) (some m) none = (ds.drop m.toNat).map V.int := by
  rw [cut_from (k := m.toNat) (by omega) (by rw [List.length_map]; omega), List.map_drop]
theorem rep_dt {H : Hp} {v : V} {d : PyData} (h : DT H v d) : ∀ n : Nat, DTs H (List.replicate n [v]).flatten (List.replicate n d)
  | 0 => .nil
  | n + 1 => .cons h (rep_dt h n)
theorem sight {H H' : Hp} {v v' : V} {d d' : PyData} (h : ∀ X, InH X H → DT (hide X H) v d → DT (hide X H') v' d') (hd : DT H v d) : DT H' v' d' := by
  have := h (fun _ => False) (fun b hb => hb.elim) (by rw [hide_none (fun b hb => hb)]; exact hd)
  rwa [hide_none (fun b hb => hb)] at this
theorem ok_law (T : Top K mg) : FnOk P w K mg base CX0 7 T.a_law T.fd_law ["script"] (spLaw K) := by
  refine T.F_law.ok sc_law (fun vs H Q E h => ?_) (fun cdv A outer s H vs Q E hr h => ?_)
  · obtain ⟨a, ns, rfl, _⟩ := h
    rfl
  · obtain ⟨a, ns, rfl, hS, hlen, q⟩ := h
    refine ⟨_, (pss_cons (ps_for PassesOwn.never rfl (pi_list (pe_call (ok__law_bags T) (hr.mono (by decide)) (by rfl) T.g__law_bags T.F__law_bags.kp T.b__law_bags .nil pass0 (pa_cons (pv 0) (pa_cons pe_int pa_nil)))) (pg_name (i := 1) sc_law.nd rfl (.inl rfl))
        (pss_cons (ps_set (i := 2) sc_law.nd rfl (.inl rfl) (pe_call (ok__law_drawn_row T) (hr.mono (by decide)) (by rfl) T.g__law_drawn_row T.F__law_drawn_row.kp T.b__law_drawn_row .nil pass0 (pa_cons (pv 1) (pa_cons pe_int (pa_cons pe_int pa_nil)))))
      (pss_cons (ps_set (i := 3) sc_law.nd rfl (.inl rfl) (pe_call (ok__law_spoilt T) (hr.mono (by decide)) (by rfl) T.g__law_spoilt T.F__law_spoilt.kp T.b__law_spoilt .nil pass0 (pa_cons (pv 2) (pa_cons (pe_slice sl_list (pe_ix ix_list (pv 1) pe_int (fun _ _ => rfl)) (po_some (pe_op op_mod (pe_ix ix_list (pv 1) pe_int (fun _ _ => rfl)) pe_int)) po_none) pa_nil))))
      (pss_cons (ps_set (i := 4) sc_law.nd rfl (.inl rfl) (pe_lst (pa_cons (pv 2) (pa_cons (pv 3) (pa_cons (pe_call (ok__law_spoilt T) (hr.mono (by decide)) (by rfl) T.g__law_spoilt T.F__law_spoilt.kp T.b__law_spoilt .nil pass0 (pa_cons (pv 3) (pa_cons (pe_slice sl_list (pe_ix ix_list (pv 1) pe_int (fun _ _ => rfl)) (po_some (pe_op op_add (pe_op op_mod (pe_ix ix_list (pv 1) pe_int (fun _ _ => rfl)) pe_int) pe_int)) po_none) pa_nil))) pa_nil)))))
      (pss_cons (ps_set (i := 4) sc_law.nd rfl (.inl rfl) (pe_op op_cat (pv 4) (pe_lst (pa_cons (pe_callTy call_list_of (by rfl) T.z_list (by decide +kernel) (pa_cons (pv 2) pa_nil)) (pa_cons (pe_revT (pv 2)) (pa_cons (pe_op op_catA (pv 2) (pv 2)) pa_nil))))))
      (pss_cons (ps_set (i := 5) sc_law.nd rfl (.inl rfl) (pe_lst (pa_cons (pe_tup (pa_cons pe_int (pa_cons pe_int pa_nil))) (pa_cons (pe_tup (pa_cons pe_int (pa_cons pe_int pa_nil))) (pa_cons (pe_tup (pa_cons pe_int (pa_cons pe_int pa_nil))) (pa_cons (pe_tup (pa_cons pe_int (pa_cons pe_int pa_nil))) (pa_cons (pe_tup (pa_cons pe_int (pa_cons pe_int pa_nil))) (pa_cons (pe_tup (pa_cons pe_int (pa_cons pe_int pa_nil))) (pa_cons (pe_tup (pa_cons pe_int (pa_cons (pe_un un_neg pe_int) pa_nil))) (pa_cons (pe_tup (pa_cons pe_bl (pa_cons pe_int pa_nil))) (pa_cons (pe_tup (pa_cons pe_int (pa_cons pe_bl pa_nil))) (pa_cons (pe_tup (pa_cons pe_int pa_nil)) pa_nil))))))))))))
      (pss_cons (ps_for PassesOwn.never rfl (pi_list (pe_op op_cat (pv 5) (pe_lst (pa_cons (pe_tup (pa_cons pe_int (pa_cons pe_int (pa_cons pe_int pa_nil)))) pa_nil)))) (pg_name (i := 6) sc_law.nd rfl (.inl rfl))
        (pss_one (ps_set (i := 4) sc_law.nd rfl (.inl rfl) (pe_op op_cat (pv 4) (pe_lst (pa_cons (pe_tup (pa_cons (pv 6) pa_nil)) (pa_cons (pe_op op_catA (pe_slice sl_tupA (pv 2) po_none (po_some pe_int)) (pe_tup (pa_cons (pv 6) pa_nil))) pa_nil)))))))
      (pss_cons (ps_set (i := 4) sc_law.nd rfl (.inl rfl) (pe_op op_cat (pv 4) (pe_lst (pa_cons (pe_op op_repT (pe_tup (pa_cons (pe_tup (pa_cons pe_int (pa_cons pe_int pa_nil))) pa_nil)) pe_int) (pa_cons (pe_op op_repT (pe_tup (pa_cons (pe_tup (pa_cons pe_int (pa_cons pe_int pa_nil))) pa_nil)) pe_int) (pa_cons (pe_tup (pa_cons (pe_lst (pa_cons pe_int (pa_cons pe_int pa_nil))) pa_nil)) (pa_cons (pe_tup (pa_cons pe_non pa_nil)) (pa_cons (pe_tup (pa_cons pe_str pa_nil)) (pa_cons (pe_tup (pa_cons (pe_tup (pa_cons pe_int (pa_cons pe_non pa_nil))) pa_nil)) pa_nil)))))))))
      (pss_one (ps_for PassesOwn.never rfl (pi_list (pe_op op_cat (pv 4) (pe_lst (pa_cons (pe_call (ok__law_odd T) (hr.mono (by decide)) (by rfl) T.g__law_odd T.F__law_odd.kp T.b__law_odd .nil pass0 (pa_cons (pe_slice sl_list (pe_ix ix_list (pv 1) pe_int (fun _ _ => rfl)) (po_some (pe_op op_mod (pe_ix ix_list (pv 1) pe_int (fun _ _ => rfl)) pe_int)) po_none) pa_nil)) (pa_cons (pe_call (ok__law_odd T) (hr.mono (by decide)) (by rfl) T.g__law_odd T.F__law_odd.kp T.b__law_odd .nil pass0 (pa_cons (pe_slice sl_list (pe_ix ix_list (pv 1) pe_int (fun _ _ => rfl)) (po_some (pe_op op_add (pe_op op_mod (pe_ix ix_list (pv 1) pe_int (fun _ _ => rfl)) pe_int) pe_int)) po_none) pa_nil)) pa_nil))))) (pg_name (i := 7) sc_law.nd rfl (.inl rfl))
        (pss_one (ps_if (pt_cmpR op_ne (pe_callB call_repr_bl (by rfl) T.z_repr (by decide +kernel) (pa_cons (pe_call (ok_is_row T) (hr.mono (by decide)) (by rfl) T.g_is_row T.F_is_row.kp T.b_is_row .nil pass0 (pa_cons (pv 7) pa_nil)) pa_nil)) (pe_callB call_repr_bl (by rfl) T.z_repr (by decide +kernel) (pa_cons (pe_call (ok__law_is_row T) (hr.mono (by decide)) (by rfl) T.g__law_is_row T.F__law_is_row.kp T.b__law_is_row .nil pass0 (pa_cons (pv 7) pa_nil)) pa_nil)) (nomark _)) (pss_one (ps_ret pe_bl)) pss_nil))))))))))))
      (pss_one (ps_ret (pe_cmpR op_is_bl (pe_call (ok_is_row T) (hr.mono (by decide)) (by rfl) T.g_is_row T.F_is_row.kp T.b_is_row .nil pass0 (pa_cons (pe_tup pa_nil) pa_nil)) pe_bl (nomark _))))), ?_⟩
    refine ⟨.ref a, rfl, a, ns, 10, rfl, hS, by decide, by decide, fun H1 L bs s1 nL hL hB => ⟨L, rfl, ⟨_, sq_of hL⟩, ?_⟩⟩
    refine for_list (K := K) (a := L) (xs := bs.map V.ref) (fun i σ H' => Std H' L bs ∧ ∃ y1 y2 y3 y4 y5 y6 y7, σ = [some (.ref a), y1, y2, y3, y4, y5, y6, y7])
      ⟨⟨hL, hB⟩, none, none, none, none, none, none, none, rfl⟩ (fun i σ H' _ hp => sq_of hp.1.l) (fun i x σ H2 hx hp => ?_) (fun σ H2 hp => ?_)
    · obtain ⟨std, y1, y2, y3, y4, y5, y6, y7, rfl⟩ := hp
      rw [List.getElem?_map] at hx
      obtain ⟨b, hb, hxe⟩ := Option.map_eq_some_iff.mp hx
      subst hxe
      have bm : b ∈ bs := List.mem_of_getElem? hb
      refine ⟨.ref b, rfl, b, 8, 1000, rfl, std.b b bm, by decide, by decide, by decide, by decide, fun H5 p r k5 B5 hR ok _ hl => ?_⟩
      have std5 := std.kb bm k5 B5
      have hl8 : r.length ≤ 8 := by omega
      obtain ⟨ts, h1, h2, h3⟩ := id hR
      have hTs := dt_row ts r h2 h3
      have hT : DT H5 (.ref p) (.tuple (r.map tkD)) := .tup h1 hTs
      obtain ⟨dd, ds, c, b1, b2, b3, b4, b5⟩ := id B5
      have md : ∀ m : Int, 0 < m → 0 ≤ c % m ∧ c % m < m := fun m hm => ⟨Int.emod_nonneg _ (by omega), Int.emod_lt_of_pos _ hm⟩
      -- once
      refine ⟨.ref p, rfl, .ref b, rfl, b, _, 0, .ref dd, rfl, rfl, sq_of b1, rfl, .ref b, rfl, b, _, 1, .int c, rfl, rfl, sq_of b1, rfl, c, 200, rfl, rfl, (by decide : (0 : Int) < 200), _, rfl, dd, _, rfl, sq_of b2, fun g1 ng1 => ?_⟩
      rw [cut_ds (md 200 (by decide)).1 (by have := (md 200 (by decide)).2; omega)]
      have t1 := same_new (o := .lst ((ds.drop (c % 200).toNat).map V.int)) ng1
      refine ⟨10, 2, by decide, by decide, .ref p, _, g1, _, rfl, hT.same t1, sm_row r hl8, sq_of upd_same, by rw [List.length_drop]; have := (md 200 (by decide)).2; omega, fun H6 v6 d6 s6 hd6 hm6 => ?_⟩
      have D6 := sight hd6 (hT.same t1)
      have q6 := t1.trans s6
      -- things
      refine ⟨.ref p, rfl, v6, rfl, v6, rfl, .ref b, rfl, b, _, 0, .ref dd, rfl, rfl, sq_of (q6 _ _ b1), rfl, .ref b, rfl, b, _, 1, .int c, rfl, rfl, sq_of (q6 _ _ b1), rfl, c, 170, rfl, rfl, (by decide : (0 : Int) < 170), _, 10, rfl, rfl, c % 170 + 10, rfl, dd, _, rfl, sq_of (q6 _ _ b2), fun g2 ng2 => ?_⟩
      rw [cut_ds (m := c % 170 + 10) (by have := (md 170 (by decide)).1; omega) (by have := (md 170 (by decide)).2; omega)]
      have t2 := same_new (o := .lst ((ds.drop (c % 170 + 10).toNat).map V.int)) ng2
      refine ⟨12, 4, by decide, by decide, v6, d6, g2, _, rfl, D6.same t2, hm6, sq_of upd_same, by rw [List.length_drop]; have := (md 170 (by decide)).2; omega, fun H7 v7 d7 s7 hd7 hm7 => ?_⟩
      have D7 := sight hd7 (D6.same t2)
      refine ⟨by show 3 ≤ sizeLine; decide, fun t nt => ?_⟩
      have t3 := same_new (o := .lst [.ref p, v6, v7]) nt
      have q8 := (q6.trans t2).trans (s7.trans t3)
      have ht : (upd H7 t (.lst [.ref p, v6, v7])) t = some (.lst [.ref p, v6, v7]) := upd_same
      have D8 : DTs (upd H7 t (.lst [.ref p, v6, v7])) [.ref p, v6, v7] [.tuple (r.map tkD), d6, d7] := .cons (hT.same q8) (.cons (D6.same ((t2.trans s7).trans t3)) (.cons (D7.same t3) .nil))
      have hp8 := q8 _ _ h1
      generalize upd H7 t (.lst [.ref p, v6, v7]) = H8 at t3 q8 ht D8 hp8 ⊢
      refine ⟨.ref t, rfl, .ref p, rfl, p, _, rfl, .inr (st_of hp8), fun l1 n1 => ?_⟩
      have u1 := same_new (o := .lst (ts.map V.ref)) n1
      refine ⟨.ref p, rfl, p, _, rfl, st_of (u1 _ _ hp8), fun l2 n2 => ?_⟩
      have u2 := same_new (o := .tup (ts.map V.ref).reverse) n2
      refine ⟨.ref p, rfl, .ref p, rfl, ?_⟩
      refine cat_use (u2 _ _ (u1 _ _ hp8)) (u2 _ _ (u1 _ _ hp8)) (by rw [List.length_map]; exact Nat.le_of_lt (small1000 (by omega))) fun l3 H9 u3 hl3 => ?_
      refine ⟨by show 3 ≤ sizeLine; decide, fun l4 n4 => ?_⟩
      have u4 := same_new (o := .lst [.ref l1, .ref l2, .ref l3]) n4
      refine ⟨t, l4, _, _, rfl, rfl, u4 _ _ (u3 _ _ (u2 _ _ (u1 _ _ ht))), upd_same, by show 6 ≤ sizeLine; decide, fun t9 nt9 => ?_⟩
      have u5 := same_new (o := .lst ([.ref p, v6, v7] ++ [.ref l1, .ref l2, .ref l3])) nt9
      have q10 := ((u1.trans u2).trans u3).trans (u4.trans u5)
      have hTs8 := hTs.same q8
      obtain ⟨ds10, D10, hd10⟩ : ∃ ds10, DTs (upd (upd H9 l4 (.lst [.ref l1, .ref l2, .ref l3])) t9 (.lst ([.ref p, v6, v7] ++ [.ref l1, .ref l2, .ref l3]))) ([.ref p, v6, v7] ++ [.ref l1, .ref l2, .ref l3]) ds10 ∧ ds10.length = 6 :=
        ⟨_, (D8.same q10).app (.cons (.lst ((u2.trans (u3.trans (u4.trans u5))) _ _ upd_same) (hTs8.same q10)) (.cons (.tup ((u3.trans (u4.trans u5)) _ _ upd_same) (hTs8.same q10).rev) (.cons (.tup ((u4.trans u5) _ _ hl3) ((hTs8.same q10).app (hTs8.same q10))) .nil))), rfl⟩
      have ht10 : (upd (upd H9 l4 (.lst [.ref l1, .ref l2, .ref l3])) t9 (.lst ([.ref p, v6, v7] ++ [.ref l1, .ref l2, .ref l3]))) t9 = some (.lst ([.ref p, v6, v7] ++ [.ref l1, .ref l2, .ref l3])) := upd_same
      have q11 := q8.trans q10
      generalize upd (upd H9 l4 (.lst [.ref l1, .ref l2, .ref l3])) t9 (.lst ([.ref p, v6, v7] ++ [.ref l1, .ref l2, .ref l3])) = H10 at q10 q11 D10 ht10 ⊢
      generalize ([.ref p, v6, v7] ++ [.ref l1, .ref l2, .ref l3] : List V) = vs10 at D10 ht10
      -- some
      dsimp only [gName]
      refine asg_lst ?_
      refine lst_new (ds := [.tuple [.int 2, .int 0], .tuple [.int 2, .int 1], .tuple [.int 2, .int 2], .tuple [.int 1, .int 0], .tuple [.int 1000, .int 999], .tuple [.int 1001, .int 0], .tuple [.int 2, .int (-1)], .tuple [.bool true, .int 0], .tuple [.int 2, .bool true], .tuple [.int 2]]) ?e1 ?l1 fun sm vsm H11 s11 nsm hsm dsm => ?_
      case e1 => exact (efCons (efTup (efCons efInt (efCons efInt efNil)) (by decide)) (efCons (efTup (efCons efInt (efCons efInt efNil)) (by decide)) (efCons (efTup (efCons efInt (efCons efInt efNil)) (by decide)) (efCons (efTup (efCons efInt (efCons efInt efNil)) (by decide)) (efCons (efTup (efCons efInt (efCons efInt efNil)) (by decide)) (efCons (efTup (efCons efInt (efCons efInt efNil)) (by decide)) (efCons (efTup (efCons efInt (efCons efNeg efNil)) (by decide)) (efCons (efTup (efCons efBl (efCons efInt efNil)) (by decide)) (efCons (efTup (efCons efInt (efCons efBl efNil)) (by decide)) (efCons (efTup (efCons efInt efNil) (by decide)) efNil))))))))))
      case l1 => decide
      have q12 := q11.trans s11
      have dsm := dsm.dt
      refine ⟨.ref sm, rfl, by show 3 ≤ sizeLine; decide, fun w1 nw1 => ?_⟩
      have x1 := same_new (o := .tup [.int 2, .int 0, .int 0]) nw1
      refine ⟨by show 1 ≤ sizeLine; decide, fun w2 nw2 => ?_⟩
      have x2 := same_new (o := .lst [.ref w1]) nw2
      refine ⟨sm, w2, _, _, rfl, rfl, x2 _ _ (x1 _ _ hsm), upd_same, by rw [dsm.len]; show 11 ≤ sizeLine; decide, fun w3 nw3 => ?_⟩
      have x3 := same_new (o := .lst (vsm ++ [.ref w1])) nw3
      have q13 := ((q12.trans x1).trans x2).trans x3
      have x123 := (x1.trans x2).trans x3
      obtain ⟨dso, Do, hdo⟩ : ∃ dso, DTs (upd (upd (upd H11 w1 (.tup [.int 2, .int 0, .int 0])) w2 (.lst [.ref w1])) w3 (.lst (vsm ++ [.ref w1]))) (vsm ++ [.ref w1]) dso ∧ dso.length = 11 :=
        ⟨_, (dsm.same x123).app (.cons (.tup ((x2.trans x3) _ _ upd_same) (.cons (.int _) (.cons (.int _) (.cons (.int _) .nil)))) .nil), rfl⟩
      have hw3 : (upd (upd (upd H11 w1 (.tup [.int 2, .int 0, .int 0])) w2 (.lst [.ref w1])) w3 (.lst (vsm ++ [.ref w1]))) w3 = some (.lst (vsm ++ [.ref w1])) := upd_same
      have ht13 := x123 _ _ (s11 _ _ ht10)
      have D13 := (D10.same s11).same x123
      generalize upd (upd (upd H11 w1 (.tup [.int 2, .int 0, .int 0])) w2 (.lst [.ref w1])) w3 (.lst (vsm ++ [.ref w1])) = H13 at q13 Do hw3 ht13 D13 ⊢
      generalize vsm ++ [V.ref w1] = vso at Do hw3
      have lvo : vso.length = 11 := Do.len.trans hdo
      refine ⟨w3, rfl, ⟨_, sq_of hw3⟩, ?_⟩
      refine for_list (K := K) (a := w3) (xs := vso) (fun i σ H' => Same H13 H' ∧ ∃ (th : Addr) (vs : List V) (es : List PyData) (y6 y7 : Option V), σ = [some (.ref a), some (.ref b), some (.ref p), some v6, some (.ref th), some (.ref sm), y6, y7] ∧ H' th = some (.lst vs) ∧ DTs H' vs es ∧ es.length = 6 + 2 * i)
        ⟨Same.refl _, t9, vs10, ds10, _, _, rfl, ht13, D13, by rw [hd10]⟩ (fun i σ H' _ hp => sq_of (hp.1 _ _ hw3)) (fun i x σ H14 hx hp => ?_) (fun σ H14 hp => ?_)
      · obtain ⟨s14, th, vs, es, z6, z7, rfl, hth, hE, hel⟩ := hp
        have hi := (List.getElem?_eq_some_iff.mp hx).1
        obtain ⟨dx, hdx, Dx⟩ := (Do.same s14).get hx
        have q14 := q13.trans s14
        have hp14 := q14 _ _ h1
        refine ⟨.ref th, rfl, x, rfl, by show 1 ≤ sizeLine; decide, fun m1 nm1 => ?_⟩
        have k1 := same_new (o := .tup [x]) nm1
        refine ⟨.ref p, rfl, 7, rfl, ?_⟩
        refine slice_use (K := K) (lo := none) (hi := some 7) (k1 _ _ hp14) fun m2 H15 k2 hm2 => ?_
        have c7 : cutV (ts.map V.ref) none (some 7) = (ts.map V.ref).take 7 := by
          unfold cutV
          rw [HT.sIx_none, List.drop_zero, Nat.sub_zero]
          have := HT.sIx_nat (ts.map V.ref).length (ts.map V.ref).length 7
          rw [show ((7 : Nat) : Int) = 7 from rfl] at this
          rw [this]
          by_cases hlt : 7 ≤ (ts.map V.ref).length
          · rw [Nat.min_eq_left hlt]
          · rw [Nat.min_eq_right (by omega), List.take_length, List.take_of_length_le (by omega)]
        rw [c7] at hm2
        refine ⟨x, rfl, by show 1 ≤ sizeLine; decide, fun m3 nm3 => ?_⟩
        have k3 := same_new (o := .tup [x]) nm3
        refine cat_use (k3 _ _ hm2) upd_same (by rw [List.length_take]; exact Nat.le_of_lt (small1000 (by simp; omega))) fun m4 H16 k4 hm4 => ?_
        refine ⟨by show 2 ≤ sizeLine; decide, fun m5 nm5 => ?_⟩
        have k5 := same_new (o := .lst [.ref m1, .ref m4]) nm5
        have lvs := hE.len
        refine ⟨th, m5, _, _, rfl, rfl, k5 _ _ (k4 _ _ (k3 _ _ (k2 _ _ (k1 _ _ hth)))), upd_same, by rw [lvs, hel]; exact Nat.le_of_lt (small1000 (by simp; omega)), fun m6 nm6 => ?_⟩
        have k6 := same_new (o := .lst (vs ++ [.ref m1, .ref m4])) nm6
        have kall := ((k1.trans k2).trans k3).trans (k4.trans (k5.trans k6))
        refine ⟨s14.trans kall, m6, _, es ++ [.tuple [dx], .tuple ((r.map tkD).take 7 ++ [dx])], _, _, rfl, upd_same, (hE.same kall).app (.cons (.tup ((k2.trans (k3.trans (k4.trans (k5.trans k6)))) _ _ upd_same) (.cons (Dx.same kall) .nil)) (.cons (.tup ((k5.trans k6) _ _ hm4) (((hTs.same (q14.trans kall)).take 7).app (.cons (Dx.same kall) .nil))) .nil)), ?_⟩
        rw [List.length_append, hel]
        show 6 + 2 * i + 2 = 6 + 2 * (i + 1)
        omega
      · obtain ⟨s14, th, vs, es, z6, z7, rfl, hth, hE, hel⟩ := hp
        rw [lvo] at hel
        have q14 := q13.trans s14
        -- things written out
        refine ⟨.ref th, rfl, by show 2 ≤ sizeLine; decide, fun a1 na1 => ⟨by show 1 ≤ sizeLine; decide, fun a2 na2 => ?_⟩⟩
        have y1 := same_new (o := .tup [.int 2, .int 0]) na1
        have y2 := same_new (o := .tup [.ref a1]) na2
        refine ⟨a2, 8, [.ref a1], rfl, rfl, st_of upd_same, (by intro z; cases z), by decide, by decide, by show 1 ≤ 1000; decide, fun a3 na3 => ?_⟩
        have y3 := same_new (o := .tup (List.replicate (8 : Int).toNat [V.ref a1]).flatten) na3
        refine ⟨by show 2 ≤ sizeLine; decide, fun a4 na4 => ⟨by show 1 ≤ sizeLine; decide, fun a5 na5 => ?_⟩⟩
        have y4 := same_new (o := .tup [.int 2, .int 0]) na4
        have y5 := same_new (o := .tup [.ref a4]) na5
        refine ⟨a5, 9, [.ref a4], rfl, rfl, st_of upd_same, (by intro z; cases z), by decide, by decide, by show 1 ≤ 1000; decide, fun a6 na6 => ?_⟩
        have y6 := same_new (o := .tup (List.replicate (9 : Int).toNat [V.ref a4]).flatten) na6
        refine ⟨by show 2 ≤ sizeLine; decide, fun a7 na7 => ⟨by show 1 ≤ sizeLine; decide, fun a8 na8 => ?_⟩⟩
        have y7 := same_new (o := .lst [.int 2, .int 0]) na7
        have y8 := same_new (o := .tup [.ref a7]) na8
        refine ⟨by show 1 ≤ sizeLine; decide, fun a9 na9 => ⟨by show 1 ≤ sizeLine; decide, fun a10 na10 => ?_⟩⟩
        have y9 := same_new (o := .tup [.non]) na9
        refine ⟨by show 2 ≤ sizeLine; decide, fun a11 na11 => ⟨by show 1 ≤ sizeLine; decide, fun a12 na12 => ⟨by show 6 ≤ sizeLine; decide, fun a13 na13 => ?_⟩⟩⟩
        have y10 := same_new (o := .tup [.str (Str.ofString "20")]) na10
        have y11 := same_new (o := .tup [.int 2, .non]) na11
        have y12 := same_new (o := .tup [.ref a11]) na12
        have y13 := same_new (o := .lst [.ref a3, .ref a6, .ref a8, .ref a9, .ref a10, .ref a12]) na13
        have lvs := hE.len
        have z12 := y12.trans y13
        have z11 := y11.trans z12
        have z10 := y10.trans z11
        have z9 := y9.trans z10
        have z8 := y8.trans z9
        have z7 := y7.trans z8
        have z6 := y6.trans z7
        have z5 := y5.trans z6
        have z4 := y4.trans z5
        have z3 := y3.trans z4
        have z2 := y2.trans z3
        have z1 := y1.trans z2
        refine ⟨th, a13, _, _, rfl, rfl, z1 _ _ hth, upd_same, by rw [lvs, hel]; exact Nat.le_of_lt (small1000 (by simp)), fun a14 na14 => ?_⟩
        have y14 := same_new (o := .lst (vs ++ [.ref a3, .ref a6, .ref a8, .ref a9, .ref a10, .ref a12])) na14
        have two : ∀ G : Hp, DTs G [.int 2, .int 0] [.int 2, .int 0] := fun G => .cons (.int _) (.cons (.int _) .nil)
        have z14 := z1.trans y14
        have key : ∃ (H17 : Hp) (vs17 : List V) (ds17 : List PyData), Same H14 H17 ∧ H17 a14 = some (.lst vs17) ∧ DTs H17 vs17 ds17 ∧ ds17.length = 34 ∧ H17 = _ ∧ vs17 = vs ++ [.ref a3, .ref a6, .ref a8, .ref a9, .ref a10, .ref a12] :=
          ⟨_, _, _, z14, upd_same, (hE.same z14).app (.cons (.tup ((z4.trans y14) _ _ upd_same) (rep_dt (.tup ((z2.trans y14) _ _ upd_same) (two _)) 8))
            (.cons (.tup ((z7.trans y14) _ _ upd_same) (rep_dt (.tup ((z5.trans y14) _ _ upd_same) (two _)) 9))
            (.cons (.tup ((z9.trans y14) _ _ upd_same) (.cons (.lst ((z8.trans y14) _ _ upd_same) (two _)) .nil))
            (.cons (.tup ((z10.trans y14) _ _ upd_same) (.cons .non .nil))
            (.cons (.tup ((z11.trans y14) _ _ upd_same) (.cons (.str _) .nil))
            (.cons (.tup ((y13.trans y14) _ _ upd_same) (.cons (.tup ((z12.trans y14) _ _ upd_same) (.cons (.int _) (.cons .non .nil))) .nil)) .nil)))))), by rw [List.length_append, hel]; rfl, rfl, rfl⟩
        obtain ⟨H17, vs17, ds17, z17, ht17, D17, hd17, e17, ev17⟩ := key
        dsimp only [gName]
        rw [← e17]
        have q17 := q14.trans z17
        have lv17 : vs17.length = 34 := D17.len.trans hd17
        clear e17 ev17
        -- each thing
        refine ⟨.ref a14, rfl, .ref b, rfl, b, _, 0, .ref dd, rfl, rfl, sq_of (q17 _ _ b1), rfl, .ref b, rfl, b, _, 1, .int c, rfl, rfl, sq_of (q17 _ _ b1), rfl, c, 300, rfl, rfl, (by decide : (0 : Int) < 300), c % 300, rfl, dd, _, rfl, sq_of (q17 _ _ b2), fun g3 ng3 => ?_⟩
        rw [cut_ds (m := c % 300) (md 300 (by decide)).1 (by have := (md 300 (by decide)).2; omega)]
        have f1 := same_new (o := .lst ((ds.drop (c % 300).toNat).map V.int)) ng3
        refine ⟨g3, _, rfl, sq_of upd_same, by rw [List.length_drop]; have := (md 300 (by decide)).2; omega, fun H18 v18 d18 s18 hd18 hm18 => ?_⟩
        have q18 := q17.trans (f1.trans s18)
        refine ⟨.ref b, rfl, b, _, 0, .ref dd, rfl, rfl, sq_of (q18 _ _ b1), rfl, .ref b, rfl, b, _, 1, .int c, rfl, rfl, sq_of (q18 _ _ b1), rfl, c, 250, rfl, rfl, (by decide : (0 : Int) < 250), _, 40, rfl, rfl, c % 250 + 40, rfl, dd, _, rfl, sq_of (q18 _ _ b2), fun g4 ng4 => ?_⟩
        rw [cut_ds (m := c % 250 + 40) (by have := (md 250 (by decide)).1; omega) (by have := (md 250 (by decide)).2; omega)]
        have f2 := same_new (o := .lst ((ds.drop (c % 250 + 40).toNat).map V.int)) ng4
        refine ⟨g4, _, rfl, sq_of upd_same, by rw [List.length_drop]; have := (md 250 (by decide)).2; omega, fun H19 v19 d19 s19 hd19 hm19 => ?_⟩
        have q19 := f2.trans s19
        refine ⟨by show 2 ≤ sizeLine; decide, fun g5 ng5 => ?_⟩
        have f3 := same_new (o := .lst [v18, v19]) ng5
        have f13 := (f1.trans s18).trans (q19.trans f3)
        refine ⟨a14, g5, _, _, rfl, rfl, f13 _ _ ht17, upd_same, by rw [lv17]; show 36 ≤ sizeLine; decide, fun g6 ng6 => ?_⟩
        have f4 := same_new (o := .lst (vs17 ++ [v18, v19])) ng6
        have D20 : ∃ ds20, DTs (upd (upd H19 g5 (.lst [v18, v19])) g6 (.lst (vs17 ++ [v18, v19]))) (vs17 ++ [v18, v19]) ds20 :=
          ⟨_, (D17.same (f13.trans f4)).app (.cons (hd18.dt.same ((q19.trans f3).trans f4)) (.cons (hd19.dt.same (f3.trans f4)) .nil))⟩
        obtain ⟨ds20, D20⟩ := D20
        have hg6 : (upd (upd H19 g5 (.lst [v18, v19])) g6 (.lst (vs17 ++ [v18, v19]))) g6 = some (.lst (vs17 ++ [v18, v19])) := upd_same
        have q20 := q17.trans (f13.trans f4)
        have std20 := std5.same q20
        generalize upd (upd H19 g5 (.lst [v18, v19])) g6 (.lst (vs17 ++ [v18, v19])) = H20 at D20 hg6 q20 std20 ⊢
        generalize vs17 ++ [v18, v19] = vs20 at D20 hg6
        refine ⟨g6, rfl, ⟨_, sq_of hg6⟩, ?_⟩
        refine for_list (K := K) (a := g6) (xs := vs20) (fun i σ H' => Same H20 H' ∧ ∃ y1 y2 y3 y4 y5 y6 y7, σ = [some (.ref a), y1, y2, y3, y4, y5, y6, y7])
          ⟨Same.refl _, _, _, _, _, _, _, _, rfl⟩ (fun i σ H' _ hp => sq_of (hp.1 _ _ hg6)) (fun i x σ H21 hx hp => ?_) (fun σ H21 hp => ?_)
        · obtain ⟨s21, e1, e2, e3, e4, e5, e6, e7, rfl⟩ := hp
          obtain ⟨dx, _, Dx⟩ := (D20.same s21).get hx
          refine ⟨x, rfl, x, dx, rfl, Dx.dp, fun H22 s22 => ?_⟩
          refine ⟨_, rfl, x, rfl, x, dx, rfl, (Dx.same s22).dp, _, rfl, rfl, false, by rw [decide_eq_true rfl]; rfl, iteF ⟨s21.trans s22, _, _, _, _, _, _, _, rfl⟩⟩
        · obtain ⟨s21, e1, e2, e3, e4, e5, e6, e7, rfl⟩ := hp
          exact ⟨std20.same s21, _, _, _, _, _, _, _, rfl⟩
    · obtain ⟨std, y1, y2, y3, y4, y5, y6, y7, rfl⟩ := hp
      refine ⟨Nat.zero_le _, fun t nt => ⟨.ref t, .tuple [], rfl, .tup (st_of upd_same) .nil, fun H3 s3 => ⟨true, true, rfl, rfl, q _⟩⟩⟩

end
theorem all_mk {l : PySem.W.OpenLaw} {w : World} {K : PySem.W.Frag} {h : Heap} {mg : Str → Option Value} {fa : Addr} (X : K.In h) (G : h.Ns mainGlobals mg) (hfa : mg "law" = some (.ref fa))
    {f1 f2 f3 f4 f5 f6 f7 f8 f9 f10 f11 f12 f13 f14 f15 : Addr} {od1 an1 od2 an2 od3 an3 od4 an4 od5 an5 od6 an6 od7 an7 od8 an8 od9 an9 od10 an10 od11 an11 od12 an12 od13 an13 od14 an14 od15 an15 : Option Addr} {sl1 sl2 sl3 sl4 sl5 sl6 sl7 sl8 sl9 sl10 sl11 sl12 sl13 sl14 sl15 : Array (Option Value)} {oc1 kV1 dc1 pm1 cd1 ct1 oc2 kV2 dc2 pm2 cd2 ct2 oc3 kV3 dc3 pm3 cd3 ct3 oc4 kV4 dc4 pm4 cd4 ct4 oc5 kV5 dc5 pm5 cd5 ct5 oc6 kV6 dc6 pm6 cd6 ct6 oc7 kV7 dc7 pm7 cd7 ct7 oc8 kV8 dc8 pm8 cd8 ct8 oc9 kV9 dc9 pm9 cd9 ct9 oc10 kV10 dc10 pm10 cd10 ct10 oc11 kV11 dc11 pm11 cd11 ct11 oc12 kV12 dc12 pm12 cd12 ct12 oc13 kV13 dc13 pm13 cd13 ct13 oc14 kV14 dc14 pm14 cd14 ct14 oc15 kV15 dc15 pm15 cd15 ct15 : Value}
    (a1 : PySem.W.nsIn K mainGlobals "is_whole" = some (some (.ref f1)))
    (l1 : K.lookup f1 = some ⟨oc1, od1, .func (PySem.W.fnOf "is_whole" "is_whole" (defArgs s_is_whole) (defBody s_is_whole) (defScope s_is_whole) .none kV1 dc1 pm1 an1 cd1 ct1), sl1⟩)
    (c1 : PySem.W.codeIn K cd1 "is_whole" = true) (k1 : PySem.W.keepIn K (.ref f1) = true)
    (a2 : PySem.W.nsIn K mainGlobals "is_taker" = some (some (.ref f2)))
    (l2 : K.lookup f2 = some ⟨oc2, od2, .func (PySem.W.fnOf "is_taker" "is_taker" (defArgs s_is_taker) (defBody s_is_taker) (defScope s_is_taker) .none kV2 dc2 pm2 an2 cd2 ct2), sl2⟩)
    (c2 : PySem.W.codeIn K cd2 "is_taker" = true) (k2 : PySem.W.keepIn K (.ref f2) = true)
    (a3 : PySem.W.nsIn K mainGlobals "is_row" = some (some (.ref f3)))
    (l3 : K.lookup f3 = some ⟨oc3, od3, .func (PySem.W.fnOf "is_row" "is_row" (defArgs s_is_row) (defBody s_is_row) (defScope s_is_row) .none kV3 dc3 pm3 an3 cd3 ct3), sl3⟩)
    (c3 : PySem.W.codeIn K cd3 "is_row" = true) (k3 : PySem.W.keepIn K (.ref f3) = true)
    (a4 : PySem.W.nsIn K mainGlobals "_law_cell_at" = some (some (.ref f4)))
    (l4 : K.lookup f4 = some ⟨oc4, od4, .func (PySem.W.fnOf "_law_cell_at" "_law_cell_at" (defArgs s__law_cell_at) (defBody s__law_cell_at) (defScope s__law_cell_at) .none kV4 dc4 pm4 an4 cd4 ct4), sl4⟩)
    (c4 : PySem.W.codeIn K cd4 "_law_cell_at" = true) (k4 : PySem.W.keepIn K (.ref f4) = true)
    (a5 : PySem.W.nsIn K mainGlobals "_law_draws" = some (some (.ref f5)))
    (l5 : K.lookup f5 = some ⟨oc5, od5, .func (PySem.W.fnOf "_law_draws" "_law_draws" (defArgs s__law_draws) (defBody s__law_draws) (defScope s__law_draws) .none kV5 dc5 pm5 an5 cd5 ct5), sl5⟩)
    (c5 : PySem.W.codeIn K cd5 "_law_draws" = true) (k5 : PySem.W.keepIn K (.ref f5) = true)
    (a6 : PySem.W.nsIn K mainGlobals "_law_spoilt" = some (some (.ref f6)))
    (l6 : K.lookup f6 = some ⟨oc6, od6, .func (PySem.W.fnOf "_law_spoilt" "_law_spoilt" (defArgs s__law_spoilt) (defBody s__law_spoilt) (defScope s__law_spoilt) .none kV6 dc6 pm6 an6 cd6 ct6), sl6⟩)
    (c6 : PySem.W.codeIn K cd6 "_law_spoilt" = true) (k6 : PySem.W.keepIn K (.ref f6) = true)
    (a7 : PySem.W.nsIn K mainGlobals "_law_from" = some (some (.ref f7)))
    (l7 : K.lookup f7 = some ⟨oc7, od7, .func (PySem.W.fnOf "_law_from" "_law_from" (defArgs s__law_from) (defBody s__law_from) (defScope s__law_from) .none kV7 dc7 pm7 an7 cd7 ct7), sl7⟩)
    (c7 : PySem.W.codeIn K cd7 "_law_from" = true) (k7 : PySem.W.keepIn K (.ref f7) = true)
    (a8 : PySem.W.nsIn K mainGlobals "_law_bag" = some (some (.ref f8)))
    (l8 : K.lookup f8 = some ⟨oc8, od8, .func (PySem.W.fnOf "_law_bag" "_law_bag" (defArgs s__law_bag) (defBody s__law_bag) (defScope s__law_bag) .none kV8 dc8 pm8 an8 cd8 ct8), sl8⟩)
    (c8 : PySem.W.codeIn K cd8 "_law_bag" = true) (k8 : PySem.W.keepIn K (.ref f8) = true)
    (a9 : PySem.W.nsIn K mainGlobals "_law_bags" = some (some (.ref f9)))
    (l9 : K.lookup f9 = some ⟨oc9, od9, .func (PySem.W.fnOf "_law_bags" "_law_bags" (defArgs s__law_bags) (defBody s__law_bags) (defScope s__law_bags) .none kV9 dc9 pm9 an9 cd9 ct9), sl9⟩)
    (c9 : PySem.W.codeIn K cd9 "_law_bags" = true) (k9 : PySem.W.keepIn K (.ref f9) = true)
    (a10 : PySem.W.nsIn K mainGlobals "_law_take" = some (some (.ref f10)))
    (l10 : K.lookup f10 = some ⟨oc10, od10, .func (PySem.W.fnOf "_law_take" "_law_take" (defArgs s__law_take) (defBody s__law_take) (defScope s__law_take) .none kV10 dc10 pm10 an10 cd10 ct10), sl10⟩)
    (c10 : PySem.W.codeIn K cd10 "_law_take" = true) (k10 : PySem.W.keepIn K (.ref f10) = true)
    (a11 : PySem.W.nsIn K mainGlobals "_law_odd" = some (some (.ref f11)))
    (l11 : K.lookup f11 = some ⟨oc11, od11, .func (PySem.W.fnOf "_law_odd" "_law_odd" (defArgs s__law_odd) (defBody s__law_odd) (defScope s__law_odd) .none kV11 dc11 pm11 an11 cd11 ct11), sl11⟩)
    (c11 : PySem.W.codeIn K cd11 "_law_odd" = true) (k11 : PySem.W.keepIn K (.ref f11) = true)
    (a12 : PySem.W.nsIn K mainGlobals "_law_taker" = some (some (.ref f12)))
    (l12 : K.lookup f12 = some ⟨oc12, od12, .func (PySem.W.fnOf "_law_taker" "_law_taker" (defArgs s__law_taker) (defBody s__law_taker) (defScope s__law_taker) .none kV12 dc12 pm12 an12 cd12 ct12), sl12⟩)
    (c12 : PySem.W.codeIn K cd12 "_law_taker" = true) (k12 : PySem.W.keepIn K (.ref f12) = true)
    (a13 : PySem.W.nsIn K mainGlobals "_law_drawn_row" = some (some (.ref f13)))
    (l13 : K.lookup f13 = some ⟨oc13, od13, .func (PySem.W.fnOf "_law_drawn_row" "_law_drawn_row" (defArgs s__law_drawn_row) (defBody s__law_drawn_row) (defScope s__law_drawn_row) .none kV13 dc13 pm13 an13 cd13 ct13), sl13⟩)
    (c13 : PySem.W.codeIn K cd13 "_law_drawn_row" = true) (k13 : PySem.W.keepIn K (.ref f13) = true)
    (a14 : PySem.W.nsIn K mainGlobals "_law_is_row" = some (some (.ref f14)))
    (l14 : K.lookup f14 = some ⟨oc14, od14, .func (PySem.W.fnOf "_law_is_row" "_law_is_row" (defArgs s__law_is_row) (defBody s__law_is_row) (defScope s__law_is_row) .none kV14 dc14 pm14 an14 cd14 ct14), sl14⟩)
    (c14 : PySem.W.codeIn K cd14 "_law_is_row" = true) (k14 : PySem.W.keepIn K (.ref f14) = true)
    (a15 : PySem.W.nsIn K mainGlobals "law" = some (some (.ref f15)))
    (l15 : K.lookup f15 = some ⟨oc15, od15, .func (PySem.W.fnOf "law" "law" (defArgs s_law) (defBody s_law) (defScope s_law) .none kV15 dc15 pm15 an15 cd15 ct15), sl15⟩)
    (c15 : PySem.W.codeIn K cd15 "law" = true) (k15 : PySem.W.keepIn K (.ref f15) = true)
    {t0 : Tok} (v0 : PySem.W.nsIn K mainGlobals "MOST_TAKERS" = some (some (.int 8 t0)))
    {t1 : Tok} (v1 : PySem.W.nsIn K mainGlobals "LEAST_EVERY" = some (some (.int 2 t1)))
    {t2 : Tok} (v2 : PySem.W.nsIn K mainGlobals "MOST_EVERY" = some (some (.int 1000 t2)))
    (z0 : PySem.W.nsIn K mainGlobals "all" = some none)
    (z1 : PySem.W.nsIn K mainGlobals "bool" = some none)
    (z2 : PySem.W.nsIn K mainGlobals "int" = some none)
    (z3 : PySem.W.nsIn K mainGlobals "isinstance" = some none)
    (z4 : PySem.W.nsIn K mainGlobals "len" = some none)
    (z5 : PySem.W.nsIn K mainGlobals "list" = some none)
    (z6 : PySem.W.nsIn K mainGlobals "max" = some none)
    (z7 : PySem.W.nsIn K mainGlobals "min" = some none)
    (z8 : PySem.W.nsIn K mainGlobals "range" = some none)
    (z9 : PySem.W.nsIn K mainGlobals "repr" = some none)
    (z10 : PySem.W.nsIn K mainGlobals "tuple" = some none)
    : ∃ fd : FuncData, (∀ (s : Shared) (v : Value), BindsTo s fd ⟨[v], []⟩ [("script", v)]) ∧ ∀ base : Heap, K.In base → base.Ns mainGlobals mg → FnOk l.prog w K mg base CX0 7 fa fd ["script"] (spLaw K) := by
  have e := hfa.symm.trans (PySem.W.mg_of X G a15)
  cases e
  let T : Top K mg := {
    a_is_whole := f1, fd_is_whole := _, F_is_whole := fun_mk (st := s_is_whole) l1 c1 k1,
    b_is_whole := (fun_mk (st := s_is_whole) l1 c1 k1).binds (ps := ["thing", "least", "most"]) fun _ _ _ _ _ _ us hl => match us, hl with | [_, _, _], _ => rfl,
    g_is_whole := PySem.W.mg_of X G a1,
    a_is_taker := f2, fd_is_taker := _, F_is_taker := fun_mk (st := s_is_taker) l2 c2 k2,
    b_is_taker := (fun_mk (st := s_is_taker) l2 c2 k2).binds (ps := ["thing"]) fun _ _ _ _ _ _ us hl => match us, hl with | [_], _ => rfl,
    g_is_taker := PySem.W.mg_of X G a2,
    a_is_row := f3, fd_is_row := _, F_is_row := fun_mk (st := s_is_row) l3 c3 k3,
    b_is_row := (fun_mk (st := s_is_row) l3 c3 k3).binds (ps := ["thing"]) fun _ _ _ _ _ _ us hl => match us, hl with | [_], _ => rfl,
    g_is_row := PySem.W.mg_of X G a3,
    a__law_cell_at := f4, fd__law_cell_at := _, F__law_cell_at := fun_mk (st := s__law_cell_at) l4 c4 k4,
    b__law_cell_at := (fun_mk (st := s__law_cell_at) l4 c4 k4).binds (ps := ["script", "k"]) fun _ _ _ _ _ _ us hl => match us, hl with | [_, _], _ => rfl,
    g__law_cell_at := PySem.W.mg_of X G a4,
    a__law_draws := f5, fd__law_draws := _, F__law_draws := fun_mk (st := s__law_draws) l5 c5 k5,
    b__law_draws := (fun_mk (st := s__law_draws) l5 c5 k5).binds (ps := ["cell", "many", "size"]) fun _ _ _ _ _ _ us hl => match us, hl with | [_, _, _], _ => rfl,
    g__law_draws := PySem.W.mg_of X G a5,
    a__law_spoilt := f6, fd__law_spoilt := _, F__law_spoilt := fun_mk (st := s__law_spoilt) l6 c6 k6,
    b__law_spoilt := (fun_mk (st := s__law_spoilt) l6 c6 k6).binds (ps := ["thing", "picks"]) fun _ _ _ _ _ _ us hl => match us, hl with | [_, _], _ => rfl,
    g__law_spoilt := PySem.W.mg_of X G a6,
    a__law_from := f7, fd__law_from := _, F__law_from := fun_mk (st := s__law_from) l7 c7 k7,
    b__law_from := (fun_mk (st := s__law_from) l7 c7 k7).binds (ps := ["thing", "least", "top"]) fun _ _ _ _ _ _ us hl => match us, hl with | [_, _, _], _ => rfl,
    g__law_from := PySem.W.mg_of X G a7,
    a__law_bag := f8, fd__law_bag := _, F__law_bag := fun_mk (st := s__law_bag) l8 c8 k8,
    b__law_bag := (fun_mk (st := s__law_bag) l8 c8 k8).binds (ps := ["script", "k"]) fun _ _ _ _ _ _ us hl => match us, hl with | [_, _], _ => rfl,
    g__law_bag := PySem.W.mg_of X G a8,
    a__law_bags := f9, fd__law_bags := _, F__law_bags := fun_mk (st := s__law_bags) l9 c9 k9,
    b__law_bags := (fun_mk (st := s__law_bags) l9 c9 k9).binds (ps := ["script", "limit"]) fun _ _ _ _ _ _ us hl => match us, hl with | [_, _], _ => rfl,
    g__law_bags := PySem.W.mg_of X G a9,
    a__law_take := f10, fd__law_take := _, F__law_take := fun_mk (st := s__law_take) l10 c10 k10,
    b__law_take := (fun_mk (st := s__law_take) l10 c10 k10).binds (ps := ["bag", "many"]) fun _ _ _ _ _ _ us hl => match us, hl with | [_, _], _ => rfl,
    g__law_take := PySem.W.mg_of X G a10,
    a__law_odd := f11, fd__law_odd := _, F__law_odd := fun_mk (st := s__law_odd) l11 c11 k11,
    b__law_odd := (fun_mk (st := s__law_odd) l11 c11 k11).binds (ps := ["picks"]) fun _ _ _ _ _ _ us hl => match us, hl with | [_], _ => rfl,
    g__law_odd := PySem.W.mg_of X G a11,
    a__law_taker := f12, fd__law_taker := _, F__law_taker := fun_mk (st := s__law_taker) l12 c12 k12,
    b__law_taker := (fun_mk (st := s__law_taker) l12 c12 k12).binds (ps := ["bag", "far"]) fun _ _ _ _ _ _ us hl => match us, hl with | [_, _], _ => rfl,
    g__law_taker := PySem.W.mg_of X G a12,
    a__law_drawn_row := f13, fd__law_drawn_row := _, F__law_drawn_row := fun_mk (st := s__law_drawn_row) l13 c13 k13,
    b__law_drawn_row := (fun_mk (st := s__law_drawn_row) l13 c13 k13).binds (ps := ["bag", "takers", "far"]) fun _ _ _ _ _ _ us hl => match us, hl with | [_, _, _], _ => rfl,
    g__law_drawn_row := PySem.W.mg_of X G a13,
    a__law_is_row := f14, fd__law_is_row := _, F__law_is_row := fun_mk (st := s__law_is_row) l14 c14 k14,
    b__law_is_row := (fun_mk (st := s__law_is_row) l14 c14 k14).binds (ps := ["thing"]) fun _ _ _ _ _ _ us hl => match us, hl with | [_], _ => rfl,
    g__law_is_row := PySem.W.mg_of X G a14,
    a_law := fa, fd_law := _, F_law := fun_mk (st := s_law) l15 c15 k15,
    b_law := (fun_mk (st := s_law) l15 c15 k15).binds (ps := ["script"]) fun _ _ _ _ _ _ us hl => match us, hl with | [_], _ => rfl,
    g_law := PySem.W.mg_of X G a15,
    t_MOST_TAKERS := t0, g_MOST_TAKERS := PySem.W.mg_of X G v0,
    t_LEAST_EVERY := t1, g_LEAST_EVERY := PySem.W.mg_of X G v1,
    t_MOST_EVERY := t2, g_MOST_EVERY := PySem.W.mg_of X G v2,
    z_all := PySem.W.mg_none_of X G z0,
    z_bool := PySem.W.mg_none_of X G z1,
    z_int := PySem.W.mg_none_of X G z2,
    z_isinstance := PySem.W.mg_none_of X G z3,
    z_len := PySem.W.mg_none_of X G z4,
    z_list := PySem.W.mg_none_of X G z5,
    z_max := PySem.W.mg_none_of X G z6,
    z_min := PySem.W.mg_none_of X G z7,
    z_range := PySem.W.mg_none_of X G z8,
    z_repr := PySem.W.mg_none_of X G z9,
    z_tuple := PySem.W.mg_none_of X G z10 }
  exact ⟨T.fd_law, fun s v => .of_eq rfl, fun base _ _ => ok_law T⟩
end Lk01
open PySem PySem.W PyProof.Rows
set_option maxHeartbeats 0 in
theorem PySem.Challenge.cw_takenth_k01_rows_known_holds : PySem.Challenge.rw_takenth_k01_rows_known.Holds := by
  w_on; o_law; k_head; (case hw => w_witness2)
  k_fill
  refine L2.walk_of (l := PySem.Challenge.rw_takenth_k01_rows_known) (n := 63) (k := 7) (x := "script") (CX := fun _ => L2.CX0) (sp := fun w => Lk01.spLaw _) rfl (by decide) rfl ⟨rfl, by decide, by decide⟩ (fun w h Y => PySem.W.kIn_of Y) ?F (fun _ _ a ns hl _ hS => ⟨a, ns, rfl, hS, hl, fun _ => rfl⟩) (fun _ _ _ _ _ h => h)
  case F =>
    intro w mg fa h KX G hmg
    refine' Lk01.all_mk KX G hmg ?a1 ?l1 ?c1 ?k1 ?a2 ?l2 ?c2 ?k2 ?a3 ?l3 ?c3 ?k3 ?a4 ?l4 ?c4 ?k4 ?a5 ?l5 ?c5 ?k5 ?a6 ?l6 ?c6 ?k6 ?a7 ?l7 ?c7 ?k7 ?a8 ?l8 ?c8 ?k8 ?a9 ?l9 ?c9 ?k9 ?a10 ?l10 ?c10 ?k10 ?a11 ?l11 ?c11 ?k11 ?a12 ?l12 ?c12 ?k12 ?a13 ?l13 ?c13 ?k13 ?a14 ?l14 ?c14 ?k14 ?a15 ?l15 ?c15 ?k15 ?v0 ?v1 ?v2 ?z0 ?z1 ?z2 ?z3 ?z4 ?z5 ?z6 ?z7 ?z8 ?z9 ?z10
    (case a1 => k_is); (case l1 => k_is); (case c1 => k_is); (case k1 => k_is); (case a2 => k_is); (case l2 => k_is); (case c2 => k_is); (case k2 => k_is); (case a3 => k_is); (case l3 => k_is); (case c3 => k_is); (case k3 => k_is); (case a4 => k_is); (case l4 => k_is); (case c4 => k_is); (case k4 => k_is); (case a5 => k_is); (case l5 => k_is); (case c5 => k_is); (case k5 => k_is); (case a6 => k_is); (case l6 => k_is); (case c6 => k_is); (case k6 => k_is); (case a7 => k_is); (case l7 => k_is); (case c7 => k_is); (case k7 => k_is); (case a8 => k_is); (case l8 => k_is); (case c8 => k_is); (case k8 => k_is); (case a9 => k_is); (case l9 => k_is); (case c9 => k_is); (case k9 => k_is); (case a10 => k_is); (case l10 => k_is); (case c10 => k_is); (case k10 => k_is); (case a11 => k_is); (case l11 => k_is); (case c11 => k_is); (case k11 => k_is); (case a12 => k_is); (case l12 => k_is); (case c12 => k_is); (case k12 => k_is); (case a13 => k_is); (case l13 => k_is); (case c13 => k_is); (case k13 => k_is); (case a14 => k_is); (case l14 => k_is); (case c14 => k_is); (case k14 => k_is); (case a15 => k_is); (case l15 => k_is); (case c15 => k_is); (case k15 => k_is); (case v0 => k_is); (case v1 => k_is); (case v2 => k_is); (case z0 => k_is); (case z1 => k_is); (case z2 => k_is); (case z3 => k_is); (case z4 => k_is); (case z5 => k_is); (case z6 => k_is); (case z7 => k_is); (case z8 => k_is); (case z9 => k_is); (case z10 => k_is)
