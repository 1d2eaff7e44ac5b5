import PyProof.Rows.All
import Wide.All
import OpenK.AllK
import Wide.FinOn
import HandS.ForMost
import HandS.IsInst
import HandS.TupAny
import HandS.Walk
import HandS.Rev
import KE.GoesMore
import HandS.Conv
import HandS.Style
import HandS.Wide
import HandS.More
import HandS.SortKw
import KE.DataMinMax
import KE.GoesEnumKw
import HandS.Codes
import HandS.OwnEq
import HandS.Strs
import HandS.TupMul
import HandS.TupLe
import HandS.Exc
import HandS.ExcOwn
import HandS.TryOnly
import HandS.WordsExc
import HandS.Lambda
import HandS.ExcCtx
import HandS.ExcIs
import HandS.Hot
import HandS.HotCalls
import HandS.EndTab
import KE.KNestM
import HandS.FStr
import PySem.Challenge.RW_takenth_k15_whole_a_belt_kept_deed_by_de
set_option Elab.async false
set_option linter.all false
set_option maxRecDepth 100000
set_option maxHeartbeats 4000000
namespace TK
/-- who takes piece n (from 1 on) -/
def whoF : List (Int × Int) → Int → Option Nat
  | [], _ => none
  | (e, c) :: r, n => if (c + n) % e = 0 then some 0 else (whoF r (n - (c + n) / e)).map (· + 1)
/-- how many each one takes of n, the left over last -/
def takenF : List (Int × Int) → Int → List Int
  | [], n => [n]
  | (e, c) :: r, n => (c + n) / e :: takenF r (n - (c + n) / e)
/-- what each has counted behind n pieces -/
def cntF : List (Int × Int) → Int → List Int
  | [], _ => []
  | (e, c) :: r, n => (c + n) % e :: cntF r (n - (c + n) / e)
/-- how many of n pieces come to place i -/
def comeF : List (Int × Int) → Nat → Int → Int
  | _, 0, n => n
  | [], _ + 1, n => n
  | (e, c) :: r, i + 1, n => comeF r i (n - (c + n) / e)
theorem come_zero (r : List (Int × Int)) (n : Int) : comeF r 0 n = n := by cases r <;> rfl
def okT (ec : Int × Int) : Prop := 2 ≤ ec.1 ∧ ec.1 ≤ 1000 ∧ 0 ≤ ec.2 ∧ ec.2 ≤ ec.1 - 1

theorem div_step0 {a e : Int} (he : 0 < e) (h : (a + 1) % e = 0) : (a + 1) / e = a / e + 1 := by
  have h1 := Int.mul_ediv_add_emod (a + 1) e
  have h2 := Int.mul_ediv_add_emod a e
  have h3 := Int.emod_nonneg a (Int.ne_of_gt he)
  have h4 := Int.emod_lt_of_pos a he
  rw [h] at h1
  have h5 : e * ((a + 1) / e) = e * (a / e) + (a % e + 1) := by omega
  have h6 : e * ((a + 1) / e - a / e) = a % e + 1 := by rw [Int.mul_sub]; omega
  have h7 : (a + 1) / e - a / e = 1 := by
    have p : 0 < (a + 1) / e - a / e := by
      rcases Int.lt_or_le 0 ((a + 1) / e - a / e) with h | h
      · exact h
      · have := Int.mul_nonpos_of_nonneg_of_nonpos (Int.le_of_lt he) h
        omega
    rcases Int.lt_or_le 1 ((a + 1) / e - a / e) with h | h
    · have : e * 2 ≤ e * ((a + 1) / e - a / e) := Int.mul_le_mul_of_nonneg_left (by omega) (Int.le_of_lt he)
      omega
    · omega
  omega
theorem div_stepN {a e : Int} (he : 0 < e) (h : (a + 1) % e ≠ 0) : (a + 1) / e = a / e := by
  have h1 := Int.mul_ediv_add_emod (a + 1) e
  have h2 := Int.mul_ediv_add_emod a e
  have h3 := Int.emod_nonneg a (Int.ne_of_gt he)
  have h4 := Int.emod_lt_of_pos a he
  have h3' := Int.emod_nonneg (a + 1) (Int.ne_of_gt he)
  have h4' := Int.emod_lt_of_pos (a + 1) he
  have h6 : e * ((a + 1) / e - a / e) = a % e + 1 - (a + 1) % e := by rw [Int.mul_sub]; omega
  have h7 : (a + 1) / e - a / e = 0 := by
    rcases Int.lt_or_le 0 ((a + 1) / e - a / e) with h | h
    · have : e * 1 ≤ e * ((a + 1) / e - a / e) := Int.mul_le_mul_of_nonneg_left (by omega) (Int.le_of_lt he)
      omega
    · rcases Int.lt_or_le ((a + 1) / e - a / e) 0 with h | h
      · have : e * ((a + 1) / e - a / e) ≤ e * (-1) := Int.mul_le_mul_of_nonneg_left (by omega) (Int.le_of_lt he)
        omega
      · omega
  omega
theorem mod_step (a e : Int) : (a % e + 1) % e = (a + 1) % e := by
  rw [Int.add_emod, Int.emod_emod_of_dvd _ (Int.dvd_refl e), ← Int.add_emod]

theorem len_takenF : ∀ (r : List (Int × Int)) (n : Int), (takenF r n).length = r.length + 1
  | [], _ => rfl
  | (e, c) :: r, n => by simp [takenF, len_takenF r]
theorem len_cntF : ∀ (r : List (Int × Int)) (n : Int), (cntF r n).length = r.length
  | [], _ => rfl
  | (e, c) :: r, n => by simp [cntF, len_cntF r]
theorem whoF_lt : ∀ (r : List (Int × Int)) (n : Int) (j : Nat), whoF r n = some j → j < r.length
  | [], _, _, h => by simp [whoF] at h
  | (e, c) :: r, n, j, h => by
    unfold whoF at h
    split at h
    · have := Option.some.inj h
      simp; omega
    · cases q : whoF r (n - (c + n) / e) with
      | none => rw [q] at h; simp at h
      | some k =>
        rw [q] at h
        have := whoF_lt r _ k q
        simp at h
        simp; omega
theorem come_succ : ∀ (r : List (Int × Int)) (n : Int) (i : Nat) (e c : Int), r[i]? = some (e, c) → comeF r (i + 1) n = comeF r i n - (c + comeF r i n) / e
  | [], _, _, _, _, h => by simp at h
  | (e, c) :: r, n, 0, e', c', h => by
    simp at h
    obtain ⟨rfl, rfl⟩ := h
    simp [comeF]
  | (e, c) :: r, n, i + 1, e', c', h => by
    have := come_succ r (n - (c + n) / e) i e' c' (by simpa using h)
    simpa [comeF] using this
theorem taken_get : ∀ (r : List (Int × Int)) (n : Int) (i : Nat) (e c : Int), r[i]? = some (e, c) → (takenF r n)[i]? = some ((c + comeF r i n) / e)
  | [], _, _, _, _, h => by simp at h
  | (e, c) :: r, n, 0, e', c', h => by
    simp at h
    obtain ⟨rfl, rfl⟩ := h
    simp [takenF, comeF]
  | (e, c) :: r, n, i + 1, e', c', h => by
    have := taken_get r (n - (c + n) / e) i e' c' (by simpa using h)
    simpa [takenF, comeF] using this
theorem taken_last : ∀ (r : List (Int × Int)) (n : Int), (takenF r n)[r.length]? = some (comeF r r.length n)
  | [], _ => by simp [takenF, comeF]
  | (e, c) :: r, n => by
    have := taken_last r (n - (c + n) / e)
    simpa [takenF, comeF] using this
/-- the place i is reached by piece n + 1 -/
def reach (r : List (Int × Int)) (n : Int) (i : Nat) : Prop := ∀ j, whoF r n = some j → i ≤ j
theorem come_step : ∀ (r : List (Int × Int)) (n : Int) (i : Nat), (∀ ec ∈ r, okT ec) → i ≤ r.length → reach r (n + 1) i → comeF r i (n + 1) = comeF r i n + 1
  | _, _, 0, _, _, _ => by simp [comeF]
  | [], _, i + 1, _, hi, _ => by simp at hi
  | (e, c) :: r, n, i + 1, ok, hi, h => by
    have he : (0 : Int) < e := by have := ok (e, c) (by simp); unfold okT at this; simp at this; omega
    have ea : c + (n + 1) = c + n + 1 := by omega
    by_cases q : (c + (n + 1)) % e = 0
    · have : i + 1 ≤ 0 := h 0 (by simp [whoF, q])
      omega
    · have e1 : (c + (n + 1)) / e = (c + n) / e := by rw [ea] at q ⊢; exact div_stepN he q
      unfold comeF
      rw [e1]
      have := come_step r (n - (c + n) / e) i (fun x hx => ok x (by simp [hx])) (by simp at hi; omega) (fun j hj => by
        have := h (j + 1) (by
          unfold whoF
          rw [if_neg q, e1, show n + 1 - (c + n) / e = n - (c + n) / e + 1 by omega, hj]
          rfl)
        omega)
      rw [← this]
      congr 1
      omega
theorem cnt_get : ∀ (r : List (Int × Int)) (n : Int) (i : Nat) (e c : Int), r[i]? = some (e, c) → (cntF r n)[i]? = some ((c + comeF r i n) % e)
  | [], _, _, _, _, h => by simp at h
  | (e, c) :: r, n, 0, e', c', h => by
    simp at h
    obtain ⟨rfl, rfl⟩ := h
    simp [cntF, comeF]
  | (e, c) :: r, n, i + 1, e', c', h => by
    have := cnt_get r (n - (c + n) / e) i e' c' (by simpa using h)
    simpa [cntF, comeF] using this
theorem who_at : ∀ (r : List (Int × Int)) (n : Int) (i : Nat) (e c : Int), r[i]? = some (e, c) → reach r n i → (whoF r n = some i ↔ (c + comeF r i n) % e = 0)
  | [], _, _, _, _, h, _ => by simp at h
  | (e, c) :: r, n, 0, e', c', h, hr => by
    simp at h
    obtain ⟨rfl, rfl⟩ := h
    simp [whoF, comeF]
  | (e, c) :: r, n, i + 1, e', c', h, hr => by
    have q : (c + n) % e ≠ 0 := fun q => by
      have := hr 0 (by simp [whoF, q])
      omega
    have := who_at r (n - (c + n) / e) i e' c' (by simpa using h) (fun j hj => by
      have := hr (j + 1) (by unfold whoF; rw [if_neg q, hj]; rfl)
      omega)
    unfold whoF comeF
    rw [if_neg q, ← this]
    cases whoF r (n - (c + n) / e) with
    | none => simp
    | some k => simp
theorem reach_succ {r : List (Int × Int)} {n : Int} {i : Nat} (h : reach r n i) (h2 : whoF r n ≠ some i) : reach r n (i + 1) := fun j hj => by
  have := h j hj
  rcases Nat.lt_or_ge i j with q | q
  · omega
  · have e : j = i := by omega
    subst e
    exact absurd hj h2
/-- behind the taker of piece n + 1 nothing is counted -/
theorem cnt_same : ∀ (r : List (Int × Int)) (n : Int) (i j : Nat), (∀ ec ∈ r, okT ec) → whoF r (n + 1) = some j → j < i → (cntF r (n + 1))[i]? = (cntF r n)[i]?
  | [], _, _, _, _, h, _ => by simp [whoF] at h
  | (e, c) :: r, n, 0, j, _, _, h => by omega
  | (e, c) :: r, n, i + 1, j, ok, h, hj => by
    have he : (0 : Int) < e := by have := ok (e, c) (by simp); unfold okT at this; simp at this; omega
    have ea : c + (n + 1) = c + n + 1 := by omega
    unfold whoF at h
    by_cases q : (c + (n + 1)) % e = 0
    · have e1 : (c + (n + 1)) / e = (c + n) / e + 1 := by rw [ea] at q ⊢; exact div_step0 he q
      unfold cntF
      rw [e1, show n + 1 - ((c + n) / e + 1) = n - (c + n) / e by omega]
      simp
    · have e1 : (c + (n + 1)) / e = (c + n) / e := by rw [ea] at q ⊢; exact div_stepN he q
      rw [if_neg q, e1, show n + 1 - (c + n) / e = n - (c + n) / e + 1 by omega] at h
      cases k : whoF r (n - (c + n) / e + 1) with
      | none => rw [k] at h; simp at h
      | some j' =>
        rw [k] at h
        simp at h
        have := cnt_same r (n - (c + n) / e) i j' (fun x hx => ok x (by simp [hx])) k (by omega)
        unfold cntF
        rw [e1, show n + 1 - (c + n) / e = n - (c + n) / e + 1 by omega]
        simpa using this
/-- the index that is counted up by who takes piece n: the last one where it is left over -/
def slot (r : List (Int × Int)) : Option Nat → Nat
  | none => r.length
  | some j => j
theorem taken_step : ∀ (r : List (Int × Int)) (n : Int) (i : Nat) (v : Int), (∀ ec ∈ r, okT ec) → (takenF r n)[i]? = some v →
    (takenF r (n + 1))[i]? = some (v + if i = slot r (whoF r (n + 1)) then 1 else 0)
  | [], n, i, v, _, h => by
    cases i with
    | zero => simp [takenF, whoF, slot] at h ⊢; omega
    | succ i => simp [takenF] at h
  | (e, c) :: r, n, i, v, ok, h => by
    have he : (0 : Int) < e := by have := ok (e, c) (by simp); unfold okT at this; simp at this; omega
    have ea : c + (n + 1) = c + n + 1 := by omega
    by_cases q : (c + (n + 1)) % e = 0
    · have e1 : (c + (n + 1)) / e = (c + n) / e + 1 := by rw [ea] at q ⊢; exact div_step0 he q
      unfold takenF at h ⊢
      rw [e1, show n + 1 - ((c + n) / e + 1) = n - (c + n) / e by omega]
      have hw : whoF ((e, c) :: r) (n + 1) = some 0 := by simp [whoF, q]
      rw [hw]
      cases i with
      | zero => simp [slot] at h ⊢; omega
      | succ i => simp [slot] at h ⊢; exact h
    · have e1 : (c + (n + 1)) / e = (c + n) / e := by rw [ea] at q ⊢; exact div_stepN he q
      have hw : whoF ((e, c) :: r) (n + 1) = (whoF r (n - (c + n) / e + 1)).map (· + 1) := by
        conv => lhs; unfold whoF
        rw [if_neg q, e1, show n + 1 - (c + n) / e = n - (c + n) / e + 1 by omega]
      have hs : slot ((e, c) :: r) (whoF ((e, c) :: r) (n + 1)) = slot r (whoF r (n - (c + n) / e + 1)) + 1 := by
        rw [hw]
        cases whoF r (n - (c + n) / e + 1) <;> simp [slot]
      rw [hs]
      unfold takenF at h ⊢
      rw [e1, show n + 1 - (c + n) / e = n - (c + n) / e + 1 by omega]
      cases i with
      | zero => simp at h ⊢; omega
      | succ i =>
        have := taken_step r (n - (c + n) / e) i v (fun x hx => ok x (by simp [hx])) (by simpa using h)
        simpa using this
theorem taken_zero : ∀ (r : List (Int × Int)), (∀ ec ∈ r, okT ec) → takenF r 0 = List.replicate (r.length + 1) 0
  | [], _ => rfl
  | (e, c) :: r, ok => by
    have h := ok (e, c) (by simp)
    unfold okT at h
    simp at h
    have e0 : (c + 0) / e = 0 := by rw [Int.add_zero]; exact Int.ediv_eq_zero_of_lt h.2.2.1 (by omega)
    unfold takenF
    rw [e0, show (0 : Int) - 0 = 0 by omega, taken_zero r fun x hx => ok x (by simp [hx])]
    rfl
theorem cnt_zero : ∀ (r : List (Int × Int)), (∀ ec ∈ r, okT ec) → cntF r 0 = r.map (·.2)
  | [], _ => rfl
  | (e, c) :: r, ok => by
    have h := ok (e, c) (by simp)
    unfold okT at h
    simp at h
    have e0 : (c + 0) / e = 0 := by rw [Int.add_zero]; exact Int.ediv_eq_zero_of_lt h.2.2.1 (by omega)
    unfold cntF
    rw [e0, show (0 : Int) - 0 = 0 by omega, cnt_zero r fun x hx => ok x (by simp [hx])]
    simp
    exact Int.emod_eq_of_lt h.2.2.1 (by omega)
/-- who takes the first m pieces -/
def seenF (r : List (Int × Int)) (m : Nat) : List (Option Nat) := (List.range m).map fun (k : Nat) => whoF r ((k : Int) + 1)
theorem seen_succ (r : List (Int × Int)) (m : Nat) : seenF r (m + 1) = seenF r m ++ [whoF r ((m : Int) + 1)] := by
  unfold seenF
  rw [List.range_succ, List.map_append]
  rfl
theorem len_seenF (r : List (Int × Int)) (m : Nat) : (seenF r m).length = m := by simp [seenF]
theorem slot_inj {r : List (Int × Int)} {n : Int} {i : Nat} {o : Option Nat} (ho : ∀ j, o = some j → j < r.length) : i = slot r (whoF r n) ∧ i = slot r o → whoF r n = o := by
  intro ⟨h1, h2⟩
  cases q : whoF r n with
  | none =>
    rw [q] at h1
    cases o with
    | none => rfl
    | some j =>
      have := ho j rfl
      simp [slot] at h1 h2
      omega
  | some k =>
    have := whoF_lt r n k q
    rw [q] at h1
    cases o with
    | none => simp [slot] at h1 h2; omega
    | some j => simp [slot] at h1 h2; congr 1; omega
/-- counted among the pieces seen: what takenF tells -/
theorem taken_count (r : List (Int × Int)) (ok : ∀ ec ∈ r, okT ec) (o : Option Nat) (ho : ∀ j, o = some j → j < r.length) :
    ∀ m : Nat, (takenF r (m : Int))[slot r o]? = some (((seenF r m).countP fun x => decide (x = o) : Nat) : Int)
  | 0 => by
    rw [show ((0 : Nat) : Int) = 0 from rfl, taken_zero r ok, List.getElem?_replicate]
    rw [if_pos]
    · simp [seenF]
    · cases o with
      | none => simp [slot]
      | some j => have := ho j rfl; simp [slot]; omega
  | m + 1 => by
    have ih := taken_count r ok o ho m
    have := taken_step r (m : Int) (slot r o) _ ok ih
    rw [show ((m + 1 : Nat) : Int) = (m : Int) + 1 by omega, this, seen_succ, List.countP_append]
    by_cases q : whoF r ((m : Int) + 1) = o
    · rw [if_pos (by rw [q])]
      simp [q]
    · rw [if_neg (fun z => q (slot_inj ho ⟨z, rfl⟩))]
      simp [q]
end TK

namespace TK
/-- which piece is the m-th that passes all of the row -/
def passF : List (Int × Int) → Int → Int
  | [], m => m
  | (e, c) :: r, m => passF r m + (c + passF r m - 1) / (e - 1)
theorem pass_one {e c m : Int} (he : 2 ≤ e) (p : Int) (hp : p = m + (c + m - 1) / (e - 1)) : (c + p) / e = p - m ∧ (c + p) % e ≠ 0 := by
  have d1 := Int.mul_ediv_add_emod (c + m - 1) (e - 1)
  have d2 := Int.emod_nonneg (c + m - 1) (show e - 1 ≠ 0 by omega)
  have d3 := Int.emod_lt_of_pos (c + m - 1) (show 0 < e - 1 by omega)
  have hq : (c + m - 1) / (e - 1) = p - m := by omega
  rw [hq] at d1
  have key : c + p = e * (p - m) + ((c + m - 1) % (e - 1) + 1) := by
    rw [Int.sub_mul, Int.one_mul] at d1
    omega
  have q1 : (c + p) / e = p - m := by
    rw [key, Int.add_comm, Int.add_mul_ediv_left _ _ (by omega), Int.ediv_eq_zero_of_lt (by omega) (by omega), Int.zero_add]
  refine ⟨q1, ?_⟩
  rw [key, Int.add_comm, Int.add_mul_emod_self_left, Int.emod_eq_of_lt (by omega) (by omega)]
  omega
theorem pass_back {e c n : Int} (he : 2 ≤ e) (h : (c + n) % e ≠ 0) : n - (c + n) / e + (c + (n - (c + n) / e) - 1) / (e - 1) = n := by
  have d1 := Int.mul_ediv_add_emod (c + n) e
  have d2 := Int.emod_nonneg (c + n) (show e ≠ 0 by omega)
  have d3 := Int.emod_lt_of_pos (c + n) (show 0 < e by omega)
  obtain ⟨q, hq⟩ : ∃ q, q = (c + n) / e := ⟨_, rfl⟩
  rw [← hq] at d1 ⊢
  have key : c + (n - q) - 1 = ((c + n) % e - 1) + (e - 1) * q := by
    rw [Int.sub_mul, Int.one_mul]
    omega
  rw [key, Int.add_mul_ediv_left _ _ (by omega), Int.ediv_eq_zero_of_lt (by omega) (by omega)]
  omega
theorem pass_ge : ∀ (r : List (Int × Int)) (m : Int), (∀ ec ∈ r, okT ec) → 1 ≤ m → m ≤ passF r m
  | [], m, _, _ => Int.le_refl m
  | (e, c) :: r, m, ok, hm => by
    have h := ok (e, c) (by simp)
    unfold okT at h
    simp at h
    have ih := pass_ge r m (fun x hx => ok x (by simp [hx])) hm
    have : 0 ≤ (c + passF r m - 1) / (e - 1) := Int.ediv_nonneg (by omega) (by omega)
    unfold passF
    omega
theorem pass_lt : ∀ (r : List (Int × Int)) (m n : Int), (∀ ec ∈ r, okT ec) → m < n → passF r m < passF r n
  | [], m, n, _, h => h
  | (e, c) :: r, m, n, ok, hm => by
    have h := ok (e, c) (by simp)
    unfold okT at h
    simp at h
    have ih := pass_lt r m n (fun x hx => ok x (by simp [hx])) hm
    have : (c + passF r m - 1) / (e - 1) ≤ (c + passF r n - 1) / (e - 1) := Int.ediv_le_ediv (by omega) (by omega)
    unfold passF
    omega
/-- the piece that comes to what stands behind pre as the x-th -/
theorem who_pass : ∀ (pre rest : List (Int × Int)) (x : Int), (∀ ec ∈ pre, okT ec) →
    whoF (pre ++ rest) (passF pre x) = (whoF rest x).map (· + pre.length) ∧ comeF (pre ++ rest) pre.length (passF pre x) = x
  | [], rest, x, _ => by
    constructor
    · cases h : whoF rest x <;> simp [passF, h]
    · simp [passF, come_zero]
  | (e, c) :: pre, rest, x, ok => by
    have h := ok (e, c) (by simp)
    unfold okT at h
    simp at h
    obtain ⟨ih1, ih2⟩ := who_pass pre rest x (fun y hy => ok y (by simp [hy]))
    obtain ⟨p1, p2⟩ := pass_one (c := c) (m := passF pre x) h.1 _ rfl
    have e1 : passF pre x + (c + passF pre x - 1) / (e - 1) - (c + (passF pre x + (c + passF pre x - 1) / (e - 1))) / e = passF pre x := by
      rw [p1]
      omega
    constructor
    · rw [List.cons_append]
      conv => lhs; unfold passF whoF
      rw [if_neg p2, e1, ih1]
      cases whoF rest x with
      | none => rfl
      | some j =>
        show some (j + pre.length + 1) = some (j + (pre.length + 1))
        rfl
    · rw [List.cons_append]
      unfold passF
      simp only [List.length_cons, comeF]
      rw [e1]
      exact ih2
theorem pass_come : ∀ (r : List (Int × Int)) (k : Nat) (n : Int), (∀ ec ∈ r, okT ec) → k ≤ r.length → reach r n k → passF (r.take k) (comeF r k n) = n
  | r, 0, n, _, _, _ => by simp [passF, come_zero]
  | [], k + 1, n, _, h, _ => by simp at h
  | (e, c) :: r, k + 1, n, ok, hk, hr => by
    have h := ok (e, c) (by simp)
    unfold okT at h
    simp at h
    have q : (c + n) % e ≠ 0 := fun q => by
      have := hr 0 (by simp [whoF, q])
      omega
    have ih := pass_come r k (n - (c + n) / e) (fun x hx => ok x (by simp [hx])) (by simp at hk; omega) (fun j hj => by
      have := hr (j + 1) (by unfold whoF; rw [if_neg q, hj]; rfl)
      omega)
    simp only [List.take_succ_cons, passF, comeF]
    rw [ih]
    exact pass_back h.1 q
/-- which piece is told -/
def pieceF (r : List (Int × Int)) (o : Option Nat) (n : Int) : Int := match o with
  | none => passF r n
  | some k => match r[k]? with
    | some (e, c) => passF (r.take k) (n * e - c)
    | none => 0
theorem split_at {r : List (Int × Int)} {k : Nat} {e c : Int} (h : r[k]? = some (e, c)) : r = r.take k ++ (e, c) :: r.drop (k + 1) := by
  obtain ⟨hk, he⟩ := List.getElem?_eq_some_iff.mp h
  rw [← he, ← List.drop_eq_getElem_cons hk, List.take_append_drop]
theorem take_ok {r : List (Int × Int)} (ok : ∀ ec ∈ r, okT ec) (k : Nat) : ∀ ec ∈ r.take k, okT ec := fun ec h => ok ec (List.mem_of_mem_take h)
/-- all that is asked of a told piece -/
theorem piece_facts (r : List (Int × Int)) (ok : ∀ ec ∈ r, okT ec) (o : Option Nat) (ho : ∀ j, o = some j → j < r.length) (n : Int) (hn : 1 ≤ n) :
    whoF r (pieceF r o n) = o ∧ (takenF r (pieceF r o n))[slot r o]? = some n ∧ 1 ≤ pieceF r o n := by
  cases o with
  | none =>
    obtain ⟨h1, h2⟩ := who_pass r [] n ok
    rw [List.append_nil] at h1 h2
    refine ⟨by simpa [pieceF, whoF] using h1, ?_, ?_⟩
    · show (takenF r (passF r n))[r.length]? = some n
      rw [taken_last, h2]
    · have := pass_ge r n ok hn
      show 1 ≤ passF r n
      omega
  | some k =>
    have hk := ho k rfl
    obtain ⟨⟨e, c⟩, hec⟩ : ∃ ec, r[k]? = some ec := ⟨_, List.getElem?_eq_getElem hk⟩
    have hok : okT (e, c) := ok _ (List.mem_of_getElem? hec)
    unfold okT at hok
    simp at hok
    have sp := split_at hec
    have lt : (r.take k).length = k := by rw [List.length_take]; omega
    have pe : pieceF r (some k) n = passF (r.take k) (n * e - c) := by
      unfold pieceF
      simp only [hec]
    obtain ⟨h1, h2⟩ := who_pass (r.take k) ((e, c) :: r.drop (k + 1)) (n * e - c) (take_ok ok k)
    rw [← sp, lt] at h1 h2
    have hx : c + (n * e - c) = n * e := by omega
    have m0 : (c + (n * e - c)) % e = 0 := by rw [hx]; exact Int.mul_emod_left n e
    have w1 : whoF ((e, c) :: r.drop (k + 1)) (n * e - c) = some 0 := by
      unfold whoF
      rw [if_pos m0]
    rw [w1] at h1
    refine ⟨?_, ?_, ?_⟩
    · rw [pe, h1]
      simp
    · rw [pe]
      show (takenF r _)[k]? = some n
      rw [taken_get r _ k e c hec, h2, hx, Int.mul_ediv_cancel _ (by omega)]
    · rw [pe]
      have : 1 * e ≤ n * e := Int.mul_le_mul_of_nonneg_right hn (by omega)
      have := pass_ge (r.take k) (n * e - c) (take_ok ok k) (by omega)
      omega
theorem piece_lt (r : List (Int × Int)) (ok : ∀ ec ∈ r, okT ec) (o : Option Nat) (ho : ∀ j, o = some j → j < r.length) (n : Int) : pieceF r o n < pieceF r o (n + 1) := by
  cases o with
  | none => exact pass_lt r _ _ ok (by omega)
  | some k =>
    have hk := ho k rfl
    obtain ⟨⟨e, c⟩, hec⟩ : ∃ ec, r[k]? = some ec := ⟨_, List.getElem?_eq_getElem hk⟩
    have hok : okT (e, c) := ok _ (List.mem_of_getElem? hec)
    unfold okT at hok
    simp at hok
    unfold pieceF
    simp only [hec]
    apply pass_lt _ _ _ (take_ok ok k)
    rw [Int.add_mul]
    omega
theorem slot_lt {r : List (Int × Int)} {o : Option Nat} (ho : ∀ j, o = some j → j < r.length) : slot r o < r.length + 1 := by
  cases o with
  | none => simp [slot]
  | some j => have := ho j rfl; simp [slot]; omega
/-- just ahead of a piece that o takes one fewer -/
theorem taken_ahead (r : List (Int × Int)) (ok : ∀ ec ∈ r, okT ec) (o : Option Nat) (ho : ∀ j, o = some j → j < r.length) (p n : Int) (hw : whoF r p = o) (ht : (takenF r p)[slot r o]? = some n) : (takenF r (p - 1))[slot r o]? = some (n - 1) := by
  have hl : slot r o < (takenF r (p - 1)).length := by rw [len_takenF]; exact slot_lt ho
  have h := taken_step r (p - 1) (slot r o) _ ok (List.getElem?_eq_getElem hl)
  rw [show p - 1 + 1 = p by omega, hw, if_pos rfl, ht] at h
  rw [List.getElem?_eq_getElem hl]
  have := Option.some.inj h
  congr 1
  omega
theorem sum_taken : ∀ (r : List (Int × Int)) (n : Int), (takenF r n).sum = n
  | [], n => by simp [takenF]
  | (e, c) :: r, n => by
    unfold takenF
    rw [List.sum_cons, sum_taken r]
    omega
theorem taken_nonneg : ∀ (r : List (Int × Int)) (n : Int), (∀ ec ∈ r, okT ec) → 0 ≤ n → ∀ x ∈ takenF r n, 0 ≤ x
  | [], n, _, hn => by simp [takenF]; exact hn
  | (e, c) :: r, n, ok, hn => by
    have h := ok (e, c) (by simp)
    unfold okT at h
    simp at h
    have d0 : 0 ≤ (c + n) / e := Int.ediv_nonneg (by omega) (by omega)
    have d1 : (c + n) / e ≤ n := by
      have : (c + n) / e < n + 1 := by
        apply Int.ediv_lt_of_lt_mul (by omega)
        have : n * 2 ≤ n * e := Int.mul_le_mul_of_nonneg_left (by omega) hn
        rw [Int.add_mul]
        omega
      omega
    intro x hx
    unfold takenF at hx
    rcases List.mem_cons.mp hx with e | hx
    · rw [e]; exact d0
    · exact taken_nonneg r _ (fun y hy => ok y (by simp [hy])) (by omega) x hx
theorem who_ok (r : List (Int × Int)) (n : Int) : ∀ j, whoF r n = some j → j < r.length := fun j h => whoF_lt r n j h
/-- the told piece of whom takes it is that piece -/
theorem piece_back (r : List (Int × Int)) (ok : ∀ ec ∈ r, okT ec) (n v : Int) (hv : (takenF r n)[slot r (whoF r n)]? = some v) : pieceF r (whoF r n) v = n := by
  cases hw : whoF r n with
  | none =>
    rw [hw] at hv
    have hv : (takenF r n)[r.length]? = some v := hv
    rw [taken_last] at hv
    have := Option.some.inj hv
    subst this
    have := pass_come r r.length n ok (Nat.le_refl _) (fun j hj => by rw [hw] at hj; cases hj)
    rw [List.take_length] at this
    exact this
  | some k =>
    have hk := whoF_lt r n k hw
    obtain ⟨⟨e, c⟩, hec⟩ : ∃ ec, r[k]? = some ec := ⟨_, List.getElem?_eq_getElem hk⟩
    have hok : okT (e, c) := ok _ (List.mem_of_getElem? hec)
    unfold okT at hok
    simp at hok
    have hre : reach r n k := fun j hj => by rw [hw] at hj; have := Option.some.inj hj; omega
    have wa := (who_at r n k e c hec hre).mp hw
    rw [hw] at hv
    have hv : (takenF r n)[k]? = some v := hv
    rw [taken_get r n k e c hec] at hv
    have := Option.some.inj hv
    subst this
    unfold pieceF
    simp only [hec]
    have d1 := Int.mul_ediv_add_emod (c + comeF r k n) e
    rw [wa] at d1
    rw [show (c + comeF r k n) / e * e - c = comeF r k n by rw [Int.mul_comm]; omega]
    exact pass_come r k n ok (by omega) hre
end TK

set_option maxRecDepth 100000
/-! enumerate over a tuple, as a rule of the layer -/
namespace TK
open PySem PySem.Spec PyProof.Rows L2

/-- the iterator that a tuple gives -/
def tupIt (t : Addr) : Obj := { cls := .type "tuple_iterator", data := .fields #[.ref t, .int 0 0] }
/-- a new enumerate over the iterator at a -/
def enumOf (a : Addr) : Obj := { cls := .type "enumerate", data := .fields #[.none, .bool false, .ref a, rawInt 0, .none, .none] }

set_option maxHeartbeats 2000000 in
theorem newEnumT (t : Addr) (vs : Array Value) (m : Nat) (dd : Option Addr) (ss : Array (Option Value)) :
    Meets (Builtin.«enumerate.__new__» ⟨[.type "enumerate", .ref t], []⟩) (fun _ R s =>
      s.heap.get? t = some { cls := .type "tuple", dict := dd, data := .seq vs m, slots := ss } ∧
      R (.ok (.ret (.ref (s.heap.push (tupIt t)).objs.size))) { s with heap := (s.heap.push (tupIt t)).push (enumOf s.heap.objs.size) }) :=
  .of_wp fun prog w A R s hyp => by
    obtain ⟨hp, g, d, tk, os⟩ := s
    obtain ⟨ht, hR⟩ := hyp
    have isSub := sub_enumerate
    have isT : Heap.IsTuple (Shared.heap ⟨hp, g, d, tk, os⟩) t vs := ⟨_, ht, rfl, m, rfl⟩
    wp_walk using AutoSeq1.wpAny_loadPart' ht
    refine wpAny_stack_any fun st => wpAny_pure ?_
    split
    · rename_i c _ _ _ _ _
      cases (c == Value.type "enumerate") <;> (wp_walk using AutoSeq1.wpAny_loadPart' ht, wpAny_pyIter_tuple isT; exact ⟨_, rfl, hR⟩)
    · wp_walk using AutoSeq1.wpAny_loadPart' ht, wpAny_pyIter_tuple isT
      exact ⟨_, rfl, hR⟩

section
variable {prog : Program} {w : World} {A : Around} {E : Value → Shared → Prop} {s : Shared}
theorem callEnumT {t : Addr} {vs : Array Value} {Q : Value → Shared → Prop} (ht : s.heap.IsTuple t vs)
    (k : ∀ h', IsEnum h' (s.heap.objs.size + 1) s.heap.objs.size 0 .none → h'.IsTupleIter s.heap.objs.size t 0 →
      (∀ b o, s.heap.get? b = some o → h'.get? b = some o) → Q (.ref (s.heap.objs.size + 1)) { s with heap := h' }) :
    wpAny (model prog w) A (call (.type "enumerate") [.ref t]) Q E s := by
  obtain ⟨⟨cl, dd, dt, ss⟩, e0, e1, m, e2⟩ := ht
  replace e1 : cl = .type "tuple" := e1
  replace e2 : dt = .seq vs m := e2
  subst e1 e2
  refine callType_new F.called_enumerate (by decide) (F.typeCall_enumerate_1 _) (F.newCall_enumerate_1 _)
    (fun obj => F.args_object_init_2 obj _) F.entry_enumerate_new (newEnumT t vs m dd ss) ⟨e0, ?_⟩
  have sz : (s.heap.push (tupIt t)).objs.size = s.heap.objs.size + 1 := Heap.size_push ..
  show _ ∧ _
  rw [sz]
  have he : IsEnum ((s.heap.push (tupIt t)).push (enumOf s.heap.objs.size)) (s.heap.objs.size + 1) s.heap.objs.size 0 .none := by
    have q := Heap.get?_push_size (s.heap.push (tupIt t)) (o := enumOf s.heap.objs.size) rfl
    rw [sz] at q
    exact q
  exact ⟨⟨_, he, rfl⟩, k _ he ⟨_, Heap.get?_push_of_some _ (Heap.get?_push_size _ rfl), rfl, rfl⟩ fun b o x => Heap.get?_push_of_some _ (Heap.get?_push_of_some _ x)⟩

theorem nextEnumT_end {e it t : Addr} {i : Nat} {vs : Array Value} {old : Value} {Q : Option Value → Shared → Prop} (hh : A.handled = none)
    (he : IsEnum s.heap e it i old) (hi : s.heap.IsTupleIter it t i) (ht : s.heap.IsTuple t vs) (hx : vs[i]? = none)
    (k : ∀ h', Heap.ExtBut it s.heap h' → Q none { s with heap := h' }) : wpAny (model prog w) A (pyNext (.ref e)) Q E s := by
  have ty : s.TypeIs (.ref e) "enumerate" := ⟨_, he, rfl⟩
  unfold pyNext
  refine wpAny_bind (wpAny_attempt (wpAny_callSpecial?_slot (name := Str.ofString "__next__") ty F.slot_enumerate_next
    (wpAny_call_entry F.slot_enumerate_next ty F.entry_enumerate_next ?_ (F.args_enumerate_next_1 _))))
  show wpAny _ _ (field (.ref e) 2 >>= _) _ _ s
  refine wpAny_bind (wpAny_field he rfl (x := .ref it) rfl ?_)
  refine wpAny_bind (wpAny_nextOf_tuple_end hh hi ht hx fun h1 x eb xo => ?_)
  obtain ⟨o, ho, hc⟩ := xo
  exact wpAny_bind (wpAny_isInstance (T := "StopIteration") (b := true) ⟨o, ho, hc⟩ isSubtype_stop (wpAny_pure (k _ eb)))
end

/-- the tuple at a, each item in a new pair -/
def ItEt (K : PySem.W.Frag) (a : Addr) : It where
  go := fun i H => ∃ (xs : List V) (x : V), SqT K H a xs ∧ xs[i]? = some x
  yld := fun i H v H' => ∃ T x, v = .ref T ∧ H T = none ∧ H' = upd H T (.tup [.int (i : Nat), x]) ∧ ∀ xs, SqT K H a xs → xs[i]? = some x
  stop := fun i H => ∃ xs : List V, SqT K H a xs ∧ xs.length ≤ i

theorem turn_enumT {P : Program} {w : World} {K : PySem.W.Frag} {elts : List Expr} {kk : Nat} {tpos : Pos} (a e it : Addr) :
    Turn P w K (.Tuple elts kk tpos) (ItEt K a) [e, it] e (fun i h => (∃ old, IsEnum h e it ((i : Nat) : Int) old) ∧ h.IsTupleIter it a i ∧ e ≠ it ∧ a ≠ it ∧ a ≠ e) where
  mem := by simp
  obj := fun i h st b hb => by
    obtain ⟨⟨old, he⟩, ⟨o, ho, hc, hd⟩, _⟩ := st
    rcases (show b = e ∨ b = it by simpa using hb) with z | z
    · subst z
      exact ⟨_, he, fun v q => nomatch q⟩
    · subst z
      exact ⟨o, ho, fun v q => by rw [hd] at q; cases q⟩
  keep := fun i h h' st k => by
    obtain ⟨⟨old, he⟩, ⟨o, ho, r⟩, hne⟩ := st
    exact ⟨⟨old, k e (by simp) _ he⟩, ⟨o, k it (by simp) o ho, r⟩, hne⟩
  item := by
    intro X hP hw hK hc i pins s σ H E I hf st hg
    subst hP hw hK
    obtain ⟨⟨old, he⟩, hit, n1, n2, n3⟩ := st
    obtain ⟨xs, x, hq, hx⟩ := hg
    obtain ⟨its, rv, p, hz⟩ := I.tuple hq
    obtain ⟨u, hu, ru⟩ := rv.get hx
    have le : e < s.heap.objs.size := Heap.lt_size he
    have li : it < s.heap.objs.size := by
      obtain ⟨_, q, _⟩ := hit
      exact Heap.lt_size q
    have hil : i < its.toArray.size := by
      rw [List.size_toArray]
      exact (List.getElem?_eq_some_iff.mp hu).1
    refine wpAny_pyNext_enum_itemD (Draws.tuple (A := X.A.in1) (show X.A.in1.handled = none from I.ok.hd hc) it a n2 its.toArray) he ⟨hit, p⟩ hil n1 (fun z => ?_) fun y h' tk hy ho hs' hT hsz hk => ?_
    · rcases (show e = it ∨ e = a by simpa using z) with z | z
      · exact n1 z
      · exact n3 z.symm
    have ey : y = u := by
      have q1 : its[i]? = some y := by simpa using hy
      exact Option.some.inj (q1.symm.trans hu)
    subst ey
    refine ⟨_, rfl, wpAny_letOwnedTupleGo_enum (s := { s with heap := h', toks := tk + 1 }) ho fun h2 he' sb => ?_⟩
    have hT2 : h2.get? s.heap.objs.size = some { cls := .type "tuple", data := .seq #[.int i tk, y] } := (sb.2 _ (Nat.ne_of_gt le)).trans hT
    have new : ObjOk X.prog X.w (upd H s.heap.objs.size (.tup [.int (i : Nat), x])) h2 s.heap.objs.size (.tup [.int (i : Nat), x]) :=
      ⟨by show 2 ≤ sizeLine; decide, [.int i tk, y], .cons ⟨_, rfl⟩ (.cons ru .nil), ⟨_, hT2, rfl, _, rfl⟩⟩
    have I1 : Inv X pins σ (upd H s.heap.objs.size (.tup [.int (i : Nat), x])) { s with heap := h2, toks := tk + 1 } :=
      I.turnedNew (ch := [e, it]) (fun b ob hb q => (sb.2 b fun z => hb (by simp [z])).trans (hk b ob (fun z => hb (by simp [z])) (fun z => hb (by simp [z])) q)) hf (Nat.le_refl _) new
    refine ⟨.ref s.heap.objs.size, _, I1, rfl, ⟨_, x, rfl, I.hok.fresh (Nat.le_refl _), rfl, fun ys hy => by rw [I.tuple_inj hy hq]; exact hx⟩, ⟨⟨y, ?_⟩, ?_, n1, n2, n3⟩, fun b hb => ?_⟩
    · rw [show ((i + 1 : Nat) : Int) = (i : Int) + 1 by omega]
      exact he'
    · obtain ⟨o, ho, r⟩ := hs'.1
      exact ⟨o, (sb.2 it (Ne.symm n1)).trans ho, r⟩
    · have lb : b < s.heap.objs.size := by
        rcases (show b = e ∨ b = it by simpa using hb) with z | z
        · rw [z]; exact le
        · rw [z]; exact li
      rw [upd_ne (Nat.ne_of_lt lb)]
      exact (hf b hb).1
  done := by
    intro X hP hw hK hc i pins s σ H E I hf st hg
    subst hP hw hK
    obtain ⟨⟨old, he⟩, hit, n1, n2, n3⟩ := st
    obtain ⟨xs, hq, hx⟩ := hg
    obtain ⟨its, rv, p, hz⟩ := I.tuple hq
    obtain ⟨f0, f1, f2, f3, f4, f5⟩ := hf it (by simp)
    have hl := rv.length
    exact nextEnumT_end (I.ok.hd hc) he hit p (by simp; omega) fun h' eb => ⟨rfl, I.turned (t' := s.toks) (fun b o hb q => eb b o hb q) f0 f1 f3 f4 f5⟩
  self := fun A i s Q E st h => by
    obtain ⟨⟨_, he⟩, _⟩ := st
    exact wpAny_pyIter_enum he h

def iEnumT (K : PySem.W.Frag) (ta : TA) : TI := fun σ H R => ta σ H fun vs H1 => ∃ a xs, vs = [.ref a] ∧ SqT K H1 a xs ∧ R (ItEt K a) H1
theorem pi_enumT {X : Cx} {e : Expr} {ta : TA} {p pos tpos : Pos} {elts : List Expr} {kk : Nat} (hg : Gl X "enumerate") (hm : X.mg "enumerate" = none) (ha : PA X [e] ta)
    (hs : starEach [e] X.env = [(false, eval e X.env)] := by rfl) : PI X (.Tuple elts kk tpos) (.Call (.Name "enumerate" p) [e] [] pos) (iEnumT X.K ta) := by
  refine ⟨fun pins s σ H R I h => ?_⟩
  refine Call_ (ld_blt I hg hm boot_enumerate (PyProof.Rows.callWith_type1 (thn (ha.run pos pins s σ H _ I h) fun us s1 ⟨vs, H1, I1, r1, q1⟩ => ?_) hs rfl))
  obtain ⟨a, xs, ex, hq, q⟩ := q1
  subst ex
  cases r1 with
  | cons r rr =>
    cases rr
    cases r
    obtain ⟨its, rv, pt, hz⟩ := I1.tuple hq
    have la : a < s1.heap.objs.size := pt.lt
    refine callEnumT pt fun h' he hit hk => wpAny_pyIter_enum he ?_
    have I2 : Inv X pins σ H1 { s1 with heap := h' } := I1.kept (t' := s1.toks) hk
    refine ⟨s1.heap.objs.size + 1, [s1.heap.objs.size + 1, s1.heap.objs.size], _, _, H1, rfl, I2, turn_enumT a (s1.heap.objs.size + 1) s1.heap.objs.size,
      ⟨⟨.none, he⟩, hit, Nat.succ_ne_self _, Nat.ne_of_lt la, Nat.ne_of_lt (Nat.lt_succ_of_lt la)⟩, fun b hb => ?_, q⟩
    have hle : s1.heap.objs.size ≤ b := by
      rcases (show b = s1.heap.objs.size + 1 ∨ b = s1.heap.objs.size by simpa using hb) with z | z
      · rw [z]; exact Nat.le_add_right _ _
      · rw [z]; exact Nat.le_refl _
    exact I1.fpOk hle (I1.hok.fresh hle)
end TK

set_option maxRecDepth 100000
/-! xs.count(y), flat things -/
namespace TK
open PySem PySem.Spec PyProof.Rows L2
theorem count_eqU {x : V} : ∀ {xs : List V} {us : List Value}, Vals xs us → xs.all flatV = true → us.countP (eqU x) = xs.countP fun y => eqV y x
  | _, _, .nil, _ => rfl
  | y :: xs, u :: us, .cons r t, f => by
    rw [List.all_cons, Bool.and_eq_true] at f
    rw [List.countP_cons, List.countP_cons, count_eqU t f.2, eqU_of r f.1]
section
variable {X : Cx}
def rCntF (K : PySem.W.Frag) : V → List V → Hp → VK → Prop := fun x xs H Q => ∃ (p : Addr) (ys : List V) (y : V), x = .ref p ∧ xs = [y] ∧ SqL K H p ys ∧ flatV y = true ∧ ys.all flatV = true ∧ Q (.int ((ys.countP fun z => eqV z y : Nat) : Int)) H
theorem mt_countF : MtR X "list.count" (rCntF X.K) := by
  intro pins s σ H x xs v us Q I rx rxs h
  obtain ⟨p, ys, y, rfl, rfl, hs, fy, fs, q⟩ := h
  cases rx
  obtain ⟨u, rfl, ru⟩ := rxs.one
  obtain ⟨its, rv, ⟨⟨cls, dd, data, sl⟩, n, ho, hc, hdn, hd⟩, hlen⟩ := I.list hs
  simp only at hc hd
  subst hc hd
  refine call_meets PySem.F.slot_list_count ⟨_, ho, rfl⟩ PySem.F.entry_list_count (PySem.F.args_list_count_2 _ _)
    (SeqAt.list_countAt p its.toArray n dd sl u (eqU y)) ⟨ho, fun z hz => mem_eqAt ru fy rv fs z (by simpa using hz), ?_⟩
  refine ⟨.int ((ys.countP fun z => eqV z y : Nat) : Int), H, I.tok _, ⟨s.toks, ?_⟩, q⟩
  have e : its.toArray.toList.countP (eqU y) = ys.countP fun z => eqV z y := count_eqU rv fs
  rw [← e]
end
end TK

set_option maxRecDepth 100000
/-! heaps: rows, bags -/
namespace TK
open PySem PySem.Spec PyProof.Rows L2

theorem same_new {H : Hp} {p : Addr} {o : HO} (h : H p = none) : Same H (upd H p o) := fun b x e => by
  rw [upd_ne (ne_of_none e h)]
  exact e
/-- a new object's own changes leave what stood -/
theorem same_upd_new {H H' : Hp} {p : Addr} {o : HO} (h : H p = none) (s : Same H H') : Same H (upd H' p o) := fun b x e => by
  rw [upd_ne (ne_of_none e h)]
  exact s b x e
def ofO : Option Nat → V
  | none => .non
  | some k => .int (k : Nat)
theorem ofO_inj : ∀ {a b : Option Nat}, ofO a = ofO b → a = b
  | none, none, _ => rfl
  | none, some _, h => nomatch h
  | some _, none, h => nomatch h
  | some a, some b, h => by
    have := V.int.inj h
    congr 1
    omega
theorem scal_ofO : ∀ (a b : Option Nat), scal (ofO a) (ofO b) = true
  | none, none => rfl
  | none, some _ => rfl
  | some _, none => rfl
  | some _, some _ => rfl
theorem flat_ofO : ∀ (a : Option Nat), flatV (ofO a) = true
  | none => rfl
  | some _ => rfl
theorem eqV_ofO (a b : Option Nat) : eqV (ofO a) (ofO b) = decide (a = b) := by
  cases a with
  | none => cases b <;> rfl
  | some x =>
    cases b with
    | none => rfl
    | some y =>
      show ((x : Int) == (y : Int)) = decide (some x = some y)
      rw [Bool.eq_iff_iff, beq_iff_eq, decide_eq_true_iff]
      constructor
      · intro h; congr 1; omega
      · intro h; have := Option.some.inj h; omega

/-- a row: a tuple of pairs -/
def RowAt (H : Hp) (p : Addr) (r : List (Int × Int)) : Prop :=
  ∃ ts : List Addr, H p = some (.tup (ts.map V.ref)) ∧ ts.length = r.length ∧ ∀ (i : Nat) (t : Addr) (ec : Int × Int), ts[i]? = some t → r[i]? = some ec → H t = some (.tup [.int ec.1, .int ec.2])
/-- every tuple stands as it stood -/
def TupS (H H' : Hp) : Prop := ∀ a xs, H a = some (.tup xs) → H' a = some (.tup xs)
theorem tupS_of {H H' : Hp} (s : Same H H') : TupS H H' := fun a xs h => s a _ h
theorem TupS.trans {H H1 H2 : Hp} (a : TupS H H1) (b : TupS H1 H2) : TupS H H2 := fun c o h => b c o (a c o h)
theorem RowAt.keep {H H' : Hp} {p : Addr} {r : List (Int × Int)} (h : RowAt H p r) (k : TupS H H') : RowAt H' p r := by
  obtain ⟨ts, h1, h2, h3⟩ := h
  exact ⟨ts, k _ _ h1, h2, fun i t ec a b => k _ _ (h3 i t ec a b)⟩

/-- a bag of draws -/
def Bag (H : Hp) (b : Addr) : Prop :=
  ∃ (d : Addr) (ds : List Int) (c : Int), H b = some (.lst [.ref d, .int c]) ∧ H d = some (.lst (ds.map V.int)) ∧ ds.length = 400 ∧ (∀ x ∈ ds, 0 ≤ x ∧ x < 1000) ∧ 0 ≤ c
/-- all but the object at b stands as it stood -/
def Kb (b : Addr) (H H' : Hp) : Prop := ∀ a o, a ≠ b → H a = some o → H' a = some o
theorem Kb.refl (b : Addr) (H : Hp) : Kb b H H := fun _ _ _ h => h
theorem Kb.trans {b : Addr} {H H1 H2 : Hp} (x : Kb b H H1) (y : Kb b H1 H2) : Kb b H H2 := fun a o n h => y a o n (x a o n h)
theorem Kb.of {b : Addr} {H H' : Hp} (s : Same H H') : Kb b H H' := fun a o _ h => s a o h
theorem Kb.tup {b : Addr} {H H' : Hp} (k : Kb b H H') (hb : Bag H b) : TupS H H' := fun a xs h => by
  obtain ⟨d, ds, c, h1, _⟩ := hb
  exact k a _ (ne_of h h1 (by intro z; cases z)) h
theorem Bag.same {b : Addr} {H H' : Hp} (hb : Bag H b) (s : Same H H') : Bag H' b := by
  obtain ⟨d, ds, c, h1, h2, h3⟩ := hb
  exact ⟨d, ds, c, s _ _ h1, s _ _ h2, h3⟩
theorem Bag.keep {b b' : Addr} {H H' : Hp} (hb : Bag H b) (k : Kb b H H') (hn : Bag H' b) (hb' : Bag H b') : Bag H' b' := by
  by_cases e : b' = b
  · rw [e]; exact hn
  · obtain ⟨d, ds, c, h1, h2, h3, h4, h5⟩ := hb'
    obtain ⟨d0, ds0, c0, g1, _⟩ := hb
    have nd : d ≠ b := ne_of h2 g1 (by
      intro z
      have z1 : ds.map V.int = [.ref d0, .int c0] := HO.lst.inj z
      have z2 := congrArg List.length z1
      rw [List.length_map, h3] at z2
      simp at z2)
    exact ⟨d, ds, c, k _ _ e h1, k _ _ nd h2, h3, h4, h5⟩
theorem Kb.free {b l : Addr} {H H' : Hp} (k : Kb b H H') (hn : Bag H' b) (h : H' l = none) : H l = none := by
  cases q : H l with
  | none => rfl
  | some o =>
    by_cases e : l = b
    · obtain ⟨d, ds, c, h1, _⟩ := hn
      rw [e, h1] at h
      cases h
    · rw [k l o e q] at h
      cases h
/-- a list whose first is no reference is no bag -/
theorem ne_bag {H : Hp} {a b : Addr} {xs : List V} (h : H a = some (.lst xs)) (hb : Bag H b) (hx : ∀ d, xs[0]? ≠ some (.ref d)) : a ≠ b := by
  obtain ⟨d, ds, c, h1, _⟩ := hb
  refine ne_of h h1 fun z => ?_
  have z1 : xs = [.ref d, .int c] := HO.lst.inj z
  exact hx d (by rw [z1]; rfl)
theorem ne_bag2 {H : Hp} {a b : Addr} {xs : List V} (h : H a = some (.lst xs)) (hb : Bag H b) (hx : ∀ d, xs[1]? ≠ some (.int d)) : a ≠ b := by
  obtain ⟨d, ds, c, h1, _⟩ := hb
  refine ne_of h h1 fun z => ?_
  have z1 : xs = [.ref d, .int c] := HO.lst.inj z
  exact hx c (by rw [z1]; rfl)
theorem sq_of {K : PySem.W.Frag} {H : Hp} {a : Addr} {xs : List V} (h : H a = some (.lst xs)) : SqL K H a xs := .inl (.inl h)
theorem st_of {K : PySem.W.Frag} {H : Hp} {a : Addr} {xs : List V} (h : H a = some (.tup xs)) : SqT K H a xs := .inl (.inl h)
/-- the script stands, whatever a bag does -/
theorem Kb.seq {K : PySem.W.Frag} {b a : Addr} {H H' : Hp} {ns : List Int} (k : Kb b H H') (hb : Bag H b) (h : SqL K H a (ns.map V.int)) : SqL K H' a (ns.map V.int) := by
  rcases h with (h | ⟨o, h⟩) | h
  · exact .inl (.inl (k _ _ (ne_bag h hb (by intro d; rw [List.getElem?_map]; cases ns[0]? <;> simp)) h))
  · obtain ⟨d, ds, c, h1, _⟩ := hb
    exact .inl (.inr ⟨o, k _ _ (ne_of h h1 (by intro z; cases z)) h⟩)
  · exact .inr h
theorem Bag.upd_refs {b D : Addr} {H : Hp} {bs : List Addr} {o : HO} (hb : Bag H b) (h : H D = some (.lst (bs.map V.ref))) : Bag (upd H D o) b := by
  obtain ⟨d, ds, c, h1, h2, h3, h4⟩ := hb
  have n1 : b ≠ D := ne_of h1 h (by
    intro z
    have z1 : [V.ref d, V.int c] = bs.map V.ref := HO.lst.inj z
    have z2 : (bs.map V.ref)[1]? = some (.int c) := by rw [← z1]; rfl
    rw [List.getElem?_map] at z2
    cases q : bs[1]? <;> rw [q] at z2 <;> cases z2)
  have n2 : d ≠ D := ne_of h2 h (by
    intro z
    have z1 : ds.map V.int = bs.map V.ref := HO.lst.inj z
    have z2 : (ds.map V.int)[0]? = (bs.map V.ref)[0]? := by rw [z1]
    rw [List.getElem?_map, List.getElem?_map, List.getElem?_eq_getElem (by omega)] at z2
    cases q : bs[0]? <;> rw [q] at z2 <;> cases z2)
  exact ⟨d, ds, c, by rw [upd_ne n1]; exact h1, by rw [upd_ne n2]; exact h2, h3, h4⟩
theorem yesT {σ : L2.St} {H : Hp} {A B : Hp → Prop} (h : A H) : tYes σ H (fun b H3 => if b = true then A H3 else B H3) := by
  show if true = true then A H else B H
  rw [if_pos rfl]
  exact h
/-- the walk of enumerate over a tuple -/
theorem walk_enumT {K : PySem.W.Frag} {a : Addr} {xs : List V} : Walk (ItEt K a) xs.length (fun H => SqT K H a xs) (YPair (fun i => some (.int (i : Nat))) (fun i => xs[i]?)) := by
  refine ⟨fun i H hi h => ⟨xs, xs[i], h, List.getElem?_eq_getElem hi⟩, fun H h => ⟨xs, h, Nat.le_refl _⟩, fun i H v H' hi h y => ?_⟩
  obtain ⟨T, x, e1, e2, e3, e4⟩ := y
  exact ⟨T, _, x, e1, e2, e3, rfl, e4 xs h⟩
end TK

set_option maxRecDepth 100000
/-! lists compared, cut, set -/
namespace TK
open PySem PySem.Spec PyProof.Rows L2
theorem lay_ints : ∀ ns : List Int, PyData.canLayAll0 (ns.map PyData.int) = true
  | [] => rfl
  | n :: r => by
    show (PyData.canLay0 (.int n) && PyData.canLayAll0 (r.map PyData.int)) = true
    rw [lay_ints r]
    rfl
theorem deep_ints : ∀ ns : List Int, PyData.depthAll (ns.map PyData.int) = 0
  | [] => rfl
  | n :: r => by
    show max (PyData.depth (.int n)) (PyData.depthAll (r.map PyData.int)) = 0
    rw [deep_ints r]
    rfl
theorem shp_ints (ns : List Int) : SeqAt.shaped (.list (ns.map PyData.int)) = true := by
  unfold SeqAt.shaped
  rw [show PyData.canLay0 (.list (ns.map PyData.int)) = PyData.canLayAll0 (ns.map PyData.int) from rfl, lay_ints,
    show PyData.depth (.list (ns.map PyData.int)) = PyData.depthAll (ns.map PyData.int) + 1 from rfl, deep_ints]
  decide
theorem all_ints {K : PySem.W.Frag} {H : Hp} : ∀ ns : List Int, DpAll K H (ns.map V.int) (ns.map PyData.int)
  | [] => .nil
  | n :: r => .cons (.int n) (all_ints r)
theorem dp_ints {K : PySem.W.Frag} {H : Hp} {a : Addr} {ns : List Int} (h : SqL K H a (ns.map V.int)) : Dp K H (.ref a) (.list (ns.map PyData.int)) := .lst h (all_ints ns)
theorem eqv_ints : ∀ (ns ms : List Int), PyData.eqvAll (ns.map PyData.int) (ms.map PyData.int) = decide (ns = ms)
  | [], [] => rfl
  | [], _ :: _ => rfl
  | _ :: _, [] => rfl
  | n :: r, m :: q => by
    show ((n == m) && PyData.eqvAll (r.map PyData.int) (q.map PyData.int)) = _
    rw [eqv_ints r q, Bool.eq_iff_iff]
    simp
theorem eqv_list (ns ms : List Int) : PyData.eqv (.list (ns.map PyData.int)) (.list (ms.map PyData.int)) = decide (ns = ms) := by
  rw [PyData.eqv]
  exact eqv_ints ns ms
/-- two equal lists of ints, != -/
theorem ne_ints {K : PySem.W.Frag} {H : Hp} {a b : Addr} {ns : List Int} {Q : VK} (ha : SqL K H a (ns.map V.int)) (hb : SqL K H b (ns.map V.int)) (q : Q (.bl false) H) : rNeD K (.ref a) (.ref b) H Q := by
  refine ⟨_, _, dp_ints ha, dp_ints hb, shp_ints ns, shp_ints ns, ?_⟩
  rw [eqv_list, decide_eq_true rfl]
  exact q
theorem eq_ints {K : PySem.W.Frag} {H : Hp} {a b : Addr} {ns : List Int} {Q : VK} (ha : SqL K H a (ns.map V.int)) (hb : SqL K H b (ns.map V.int)) (q : Q (.bl true) H) : rEqD K (.ref a) (.ref b) H Q := by
  refine ⟨_, _, dp_ints ha, dp_ints hb, shp_ints ns, shp_ints ns, ?_⟩
  rw [eqv_list, decide_eq_true rfl]
  exact q
theorem cut_to {xs : List V} {m : Int} {k : Nat} (h : m = (k : Int)) (hk : k ≤ xs.length) : cutV xs none (some m) = xs.take k := by
  subst h
  unfold cutV
  rw [HT.sIx_none, HT.sIx_nat, List.drop_zero, Nat.sub_zero, Nat.min_eq_left hk]
theorem cut_init (xs : List V) : cutV xs none (some (-1)) = xs.dropLast := by
  unfold cutV
  rw [HT.sIx_none, List.drop_zero, Nat.sub_zero, List.dropLast_eq_take]
  congr 1
  show (if (-1 : Int) < 0 then ((-1 : Int) + (xs.length : Int)).toNat else min (-1 : Int).toNat xs.length) = xs.length - 1
  rw [if_pos (by decide)]
  omega
theorem mix_get {α : Type} {A B : List α} {i : Nat} (hA : i ≤ A.length) : (A.take i ++ B.drop i)[i]? = B[i]? := by
  have h : (A.take i).length = i := by rw [List.length_take]; omega
  rw [List.getElem?_append_right (by omega), h, Nat.sub_self, List.getElem?_drop, Nat.add_zero]
theorem mix_set {α : Type} {A B : List α} {i : Nat} {x : α} (hx : A[i]? = some x) (hl : A.length = B.length) : (A.take i ++ B.drop i).set i x = A.take (i + 1) ++ B.drop (i + 1) := by
  have hi : i < A.length := (List.getElem?_eq_some_iff.mp hx).1
  have h : (A.take i).length = i := by rw [List.length_take]; omega
  rw [List.set_append_right i x (by omega), h, Nat.sub_self, List.take_add_one, hx, List.append_assoc]
  congr 1
  rw [List.drop_eq_getElem_cons (show i < B.length by omega)]
  rfl
theorem mix_same {α : Type} {A B : List α} {i : Nat} (hx : A[i]? = B[i]?) (hi : i < A.length) (hl : A.length = B.length) : A.take i ++ B.drop i = A.take (i + 1) ++ B.drop (i + 1) := by
  rw [List.take_add_one, List.append_assoc, hx, List.getElem?_eq_getElem (show i < B.length by omega), List.drop_eq_getElem_cons (show i < B.length by omega)]
  rfl
theorem map_set (L : List Int) (i : Nat) (x : Int) : (L.map V.int).set i (.int x) = (L.set i x).map V.int := by
  rw [List.map_set]
theorem ixN_nat {n i : Nat} {z : Int} (h : z = (i : Int)) (hi : i < n) : ixN n z = some i := by
  subst h
  unfold ixN
  rw [if_pos (by omega), if_pos (by omega), Int.toNat_natCast]
theorem Bag.upd_ints {b D : Addr} {H : Hp} {ms : List Int} {o : HO} (hb : Bag H b) (h : H D = some (.lst (ms.map V.int))) (hl : ms.length < 400) : Bag (upd H D o) b := by
  obtain ⟨d, ds, c, h1, h2, h3, h4⟩ := hb
  have n1 : b ≠ D := ne_of h1 h (by
    intro z
    have z1 : [V.ref d, V.int c] = ms.map V.int := HO.lst.inj z
    have z2 : (ms.map V.int)[0]? = some (.ref d) := by rw [← z1]; rfl
    rw [List.getElem?_map] at z2
    cases q : ms[0]? <;> rw [q] at z2 <;> cases z2)
  have n2 : d ≠ D := ne_of h2 h (by
    intro z
    have z1 : ds.map V.int = ms.map V.int := HO.lst.inj z
    have z2 := congrArg List.length z1
    rw [List.length_map, List.length_map] at z2
    omega)
  exact ⟨d, ds, c, by rw [upd_ne n1]; exact h1, by rw [upd_ne n2]; exact h2, h3, h4⟩
theorem tIf_at {σ : L2.St} {H : Hp} {Q : VK} {tc : TT} {ta tb : TE} {v : V} (h : Q v H)
    (hc : ∃ b : Bool, (∀ R : Bool → Hp → Prop, R b H → tc σ H R) ∧ (b = true → ∀ R : VK, R v H → ta σ H R) ∧ (b = false → ∀ R : VK, R v H → tb σ H R)) : tIf tc ta tb σ H Q := by
  obtain ⟨b, h1, h2, h3⟩ := hc
  refine h1 _ ?_
  cases b with
  | true =>
    show if true = true then ta σ H Q else tb σ H Q
    rw [if_pos rfl]
    exact h2 rfl Q h
  | false =>
    show if false = true then ta σ H Q else tb σ H Q
    rw [if_neg Bool.false_ne_true]
    exact h3 rfl Q h
theorem lst_get {ns : List Int} {i : Nat} {v : Int} (h : ns[i]? = some v) : atI (ns.map V.int) (i : Int) = some (.int v) := at_of rfl (by rw [List.getElem?_map, h]; rfl)
theorem row0 {H : Hp} {t : Addr} (h : H t = some (.tup [])) : RowAt H t [] := ⟨[], h, rfl, fun i t ec h => nomatch h⟩
theorem row1 {H : Hp} {t t1 : Addr} {e c : Int} (h : H t = some (.tup [.ref t1])) (h1 : H t1 = some (.tup [.int e, .int c])) : RowAt H t [(e, c)] :=
  ⟨[t1], h, rfl, fun i t ec a b => by
    cases i with
    | zero => cases a; cases b; exact h1
    | succ i => simp at a⟩
theorem row2 {H : Hp} {t t1 t2 : Addr} {e c e' c' : Int} (h : H t = some (.tup [.ref t1, .ref t2])) (h1 : H t1 = some (.tup [.int e, .int c])) (h2 : H t2 = some (.tup [.int e', .int c'])) : RowAt H t [(e, c), (e', c')] :=
  ⟨[t1, t2], h, rfl, fun i t ec a b => by
    cases i with
    | zero => cases a; cases b; exact h1
    | succ i =>
      cases i with
      | zero => cases a; cases b; exact h2
      | succ i => simp at a⟩
/-- how far a piece has come -/
def TkSt (r : List (Int × Int)) (n : Int) (i : Nat) (o : Option Nat) : Prop := (o = none ∧ reach r n i) ∨ ∃ j, o = some j ∧ j < i ∧ whoF r n = some j
theorem TkSt.done {r : List (Int × Int)} {n : Int} {o : Option Nat} (h : TkSt r n r.length o) : o = whoF r n := by
  rcases h with ⟨rfl, h⟩ | ⟨j, rfl, _, h⟩
  · cases k : whoF r n with
    | none => rfl
    | some j =>
      have := whoF_lt r n j k
      have := h j k
      omega
  · exact h.symm
/-- the row's numbers, counted among what is seen -/
def numF (r : List (Int × Int)) (os : List (Option Nat)) : List Int :=
  (List.range r.length).map (fun (j : Nat) => ((os.countP fun x => decide (x = some j) : Nat) : Int)) ++ [((os.countP fun x => decide (x = none) : Nat) : Int)]
theorem num_taken (r : List (Int × Int)) (ok : ∀ ec ∈ r, okT ec) (m : Nat) : numF r (seenF r m) = takenF r (m : Int) := by
  apply List.ext_getElem?
  intro i
  unfold numF
  rcases Nat.lt_trichotomy i r.length with h | h | h
  · rw [List.getElem?_append_left (by simpa using h), List.getElem?_map, List.getElem?_range h]
    have := taken_count r ok (some i) (fun j hj => by cases hj; exact h) m
    exact this.symm
  · rw [List.getElem?_append_right (by simp; omega)]
    have := taken_count r ok none (fun j hj => nomatch hj) m
    simp only [List.length_map, List.length_range, h, Nat.sub_self, List.getElem?_cons_zero]
    exact this.symm
  · rw [List.getElem?_eq_none (by simp; omega), List.getElem?_eq_none (by rw [len_takenF]; omega)]
end TK

namespace TK
/-- lowest terms -/
def low (t b : Nat) : Nat × Nat := (t / Nat.gcd t b, b / Nat.gcd t b)
def partsN : List Nat → Nat → Nat → List (Nat × Nat)
  | [], t, b => [low t b]
  | e :: r, t, b => low t (b * e) :: partsN r (t * (e - 1)) (b * e)
def evs (r : List (Int × Int)) : List Nat := r.map fun ec => ec.1.toNat
def goodN : List Nat → Nat → Nat → Nat → Prop
  | [], _, _, _ => True
  | e :: es, t, b, n => (low t (b * e)).2 ∣ n ∧ goodN es (t * (e - 1)) (b * e) n
def lcmF (l q : Nat) : Nat := l / Nat.gcd l q * q
def roundN (ps : List (Nat × Nat)) (l : Nat) : Nat := ps.foldl (fun l q => lcmF l q.2) l

theorem low_mul (t b : Nat) : (low t b).1 * Nat.gcd t b = t ∧ (low t b).2 * Nat.gcd t b = b :=
  ⟨Nat.div_mul_cancel (Nat.gcd_dvd_left t b), Nat.div_mul_cancel (Nat.gcd_dvd_right t b)⟩
theorem low_pos {t b : Nat} (hb : 0 < b) : 0 < (low t b).2 := by
  have h := (low_mul t b).2
  rcases Nat.eq_zero_or_pos (low t b).2 with z | z
  · rw [z, Nat.zero_mul] at h
    omega
  · exact z
theorem low_cop {t b : Nat} (hb : 0 < b) : Nat.Coprime (low t b).1 (low t b).2 := Nat.coprime_div_gcd_div_gcd (Nat.gcd_pos_of_pos_right t hb)
/-- b divides n * t just where the bottom divides n -/
theorem low_dvd {t b n : Nat} (hb : 0 < b) : b ∣ n * t ↔ (low t b).2 ∣ n := by
  have hg : 0 < Nat.gcd t b := Nat.gcd_pos_of_pos_right t hb
  obtain ⟨h1, h2⟩ := low_mul t b
  constructor
  · intro h
    have h3 : (low t b).2 * Nat.gcd t b ∣ n * (low t b).1 * Nat.gcd t b := by
      rw [h2, Nat.mul_assoc, h1]
      exact h
    have h4 := Nat.dvd_of_mul_dvd_mul_right hg h3
    exact (low_cop hb).symm.dvd_of_dvd_mul_right h4
  · rintro ⟨k, rfl⟩
    refine ⟨k * (low t b).1, ?_⟩
    calc (low t b).2 * k * t = (low t b).2 * k * ((low t b).1 * Nat.gcd t b) := by rw [h1]
      _ = (low t b).2 * Nat.gcd t b * (k * (low t b).1) := by
        rw [Nat.mul_assoc, Nat.mul_assoc, ← Nat.mul_assoc k, Nat.mul_comm (k * (low t b).1)]
      _ = b * (k * (low t b).1) := by rw [h2]
theorem low_share {t b n y : Nat} (hb : 0 < b) (h : y * b = n * t) : y = n / (low t b).2 * (low t b).1 := by
  have hd : (low t b).2 ∣ n := (low_dvd hb).mp ⟨y, by rw [← h, Nat.mul_comm]⟩
  have hp := low_pos (t := t) hb
  have hg : 0 < Nat.gcd t b := Nat.gcd_pos_of_pos_right t hb
  obtain ⟨h1, h2⟩ := low_mul t b
  obtain ⟨k, rfl⟩ := hd
  rw [Nat.mul_div_cancel_left _ hp]
  have h3 : y * ((low t b).2 * Nat.gcd t b) = (low t b).2 * k * ((low t b).1 * Nat.gcd t b) := by rw [h1, h2]; exact h
  have h4 : (low t b).2 * Nat.gcd t b * y = (low t b).2 * Nat.gcd t b * (k * (low t b).1) := by
    rw [Nat.mul_comm _ y, h3, Nat.mul_assoc, Nat.mul_assoc, ← Nat.mul_assoc k, Nat.mul_comm (k * (low t b).1)]
  exact Nat.eq_of_mul_eq_mul_left (Nat.mul_pos hp hg) h4
/-- two fractions in lowest terms are one where they are worth the same -/
theorem low_eq {t b t' b' : Nat} (hb : 0 < b) (hb' : 0 < b') (h : t * b' = t' * b) : low t b = low t' b' := by
  have hg : 0 < Nat.gcd t b := Nat.gcd_pos_of_pos_right t hb
  have hg' : 0 < Nat.gcd t' b' := Nat.gcd_pos_of_pos_right t' hb'
  obtain ⟨h1, h2⟩ := low_mul t b
  obtain ⟨h3, h4⟩ := low_mul t' b'
  have c1 := low_cop (t := t) hb
  have c2 := low_cop (t := t') hb'
  have key : (low t b).1 * (low t' b').2 = (low t' b').1 * (low t b).2 := by
    have e : Nat.gcd t b * Nat.gcd t' b' * ((low t b).1 * (low t' b').2) = Nat.gcd t b * Nat.gcd t' b' * ((low t' b').1 * (low t b).2) := by
      calc Nat.gcd t b * Nat.gcd t' b' * ((low t b).1 * (low t' b').2) = ((low t b).1 * Nat.gcd t b) * ((low t' b').2 * Nat.gcd t' b') := by ac_rfl
        _ = t * b' := by rw [h1, h4]
        _ = t' * b := h
        _ = ((low t' b').1 * Nat.gcd t' b') * ((low t b).2 * Nat.gcd t b) := by rw [h2, h3]
        _ = _ := by ac_rfl
    exact Nat.eq_of_mul_eq_mul_left (Nat.mul_pos hg hg') e
  have d1 : (low t b).2 ∣ (low t' b').2 := c1.symm.dvd_of_dvd_mul_left ⟨(low t' b').1, by rw [key, Nat.mul_comm]⟩
  have d2 : (low t' b').2 ∣ (low t b).2 := c2.symm.dvd_of_dvd_mul_left ⟨(low t b).1, by rw [← key, Nat.mul_comm]⟩
  have e2 := Nat.dvd_antisymm d1 d2
  have e1 : (low t b).1 = (low t' b').1 := by
    rw [e2] at key
    exact Nat.eq_of_mul_eq_mul_right (low_pos hb') key
  exact Prod.ext e1 e2
theorem low_val {t b : Nat} (hb : 0 < b) : (low t b).1 * b = t * (low t b).2 := by
  obtain ⟨h1, h2⟩ := low_mul t b
  calc (low t b).1 * b = (low t b).1 * ((low t b).2 * Nat.gcd t b) := by rw [h2]
    _ = ((low t b).1 * Nat.gcd t b) * (low t b).2 := by ac_rfl
    _ = t * (low t b).2 := by rw [h1]

theorem lcmF_eq (l q : Nat) : lcmF l q = Nat.lcm l q := by
  unfold lcmF Nat.lcm
  exact Nat.div_mul_right_comm (Nat.gcd_dvd_left l q) q
theorem round_dvd : ∀ (ps : List (Nat × Nat)) (l n : Nat), roundN ps l ∣ n ↔ l ∣ n ∧ ∀ q ∈ ps, q.2 ∣ n
  | [], l, n => by simp [roundN]
  | q :: ps, l, n => by
    have ih := round_dvd ps (lcmF l q.2) n
    show roundN ps (lcmF l q.2) ∣ n ↔ _
    rw [ih, lcmF_eq]
    constructor
    · rintro ⟨h1, h2⟩
      refine ⟨Nat.dvd_trans (Nat.dvd_lcm_left _ _) h1, fun x hx => ?_⟩
      rcases List.mem_cons.mp hx with z | z
      · rw [z]; exact Nat.dvd_trans (Nat.dvd_lcm_right _ _) h1
      · exact h2 x z
    · rintro ⟨h1, h2⟩
      exact ⟨Nat.lcm_dvd h1 (h2 q (by simp)), fun x hx => h2 x (by simp [hx])⟩
theorem partsN_pos : ∀ (es : List Nat) (t b : Nat), (∀ e ∈ es, 2 ≤ e) → 0 < b → ∀ q ∈ partsN es t b, 0 < q.2
  | [], t, b, _, hb => by simp [partsN]; exact low_pos hb
  | e :: es, t, b, he, hb => by
    intro q hq
    have h2 := he e (by simp)
    have hbe : 0 < b * e := Nat.mul_pos hb (by omega)
    unfold partsN at hq
    rcases List.mem_cons.mp hq with z | z
    · rw [z]; exact low_pos hbe
    · exact partsN_pos es _ _ (fun x hx => he x (by simp [hx])) hbe q z
theorem partsN_len : ∀ (es : List Nat) (t b : Nat), (partsN es t b).length = es.length + 1
  | [], _, _ => rfl
  | e :: es, t, b => by simp [partsN, partsN_len es]

theorem head_same {c x e : Nat} (hc : c < e) : (c + x) % e = c ↔ e ∣ x := by
  constructor
  · intro h
    have h1 := Nat.div_add_mod (c + x) e
    rw [h] at h1
    exact ⟨(c + x) / e, by omega⟩
  · rintro ⟨k, rfl⟩
    rw [Nat.add_mul_mod_self_left, Nat.mod_eq_of_lt hc]
theorem head_div {c y e : Nat} (hc : c < e) : (c + e * y) / e = y := by
  rw [Nat.add_mul_div_left _ _ (by omega), Nat.div_eq_of_lt hc, Nat.zero_add]
theorem scale {x b n t e y : Nat} (he : 1 ≤ e) (h : x * b = n * t) (hx : x = e * y) : (x - y) * (b * e) = n * (t * (e - 1)) := by
  have e1 : x - y = (e - 1) * y := by
    rw [hx, Nat.sub_mul, Nat.one_mul]
  rw [e1]
  calc (e - 1) * y * (b * e) = (e * y) * b * (e - 1) := by ac_rfl
    _ = x * b * (e - 1) := by rw [hx]
    _ = n * t * (e - 1) := by rw [h]
    _ = n * (t * (e - 1)) := by rw [Nat.mul_assoc]
/-- the state comes round just where all bottoms divide -/
theorem state_iff : ∀ (r : List (Int × Int)) (t b n x : Nat), (∀ ec ∈ r, okT ec) → 0 < b → x * b = n * t → (cntF r (x : Int) = r.map (·.2) ↔ goodN (evs r) t b n)
  | [], _, _, _, _, _, _, _ => by simp [cntF, evs, goodN]
  | (e, c) :: r, t, b, n, x, ok, hb, h => by
    have h0 := ok (e, c) (by simp)
    unfold okT at h0
    simp at h0
    obtain ⟨e', rfl⟩ := Int.eq_ofNat_of_zero_le (show 0 ≤ e by omega)
    obtain ⟨c', rfl⟩ := Int.eq_ofNat_of_zero_le h0.2.2.1
    have hc : c' < e' := by omega
    have hbe : 0 < b * e' := Nat.mul_pos hb (by omega)
    have ev : evs (((e' : Int), (c' : Int)) :: r) = e' :: evs r := by simp [evs]
    have hd : e' ∣ x ↔ (low t (b * e')).2 ∣ n := by
      rw [← low_dvd hbe]
      constructor
      · rintro ⟨y, rfl⟩
        exact ⟨y, by rw [← h]; ac_rfl⟩
      · rintro ⟨y, hy⟩
        refine ⟨y, Nat.eq_of_mul_eq_mul_right hb ?_⟩
        rw [h, hy]
        ac_rfl
    rw [ev]
    simp only [cntF, List.map_cons, goodN]
    have hm : ((c' : Int) + (x : Int)) % (e' : Int) = (((c' + x) % e' : Nat) : Int) := rfl
    have hq : ((c' : Int) + (x : Int)) / (e' : Int) = (((c' + x) / e' : Nat) : Int) := rfl
    rw [hm, hq, List.cons.injEq]
    by_cases hx : e' ∣ x
    · obtain ⟨y, hy⟩ := hx
      have hy2 : (c' + x) / e' = y := by rw [hy]; exact head_div hc
      have ylt : y ≤ x := by rw [hy]; exact Nat.le_mul_of_pos_left y (by omega)
      have ih := state_iff r (t * (e' - 1)) (b * e') n (x - y) (fun z hz => ok z (by simp [hz])) hbe (scale (by omega) h hy)
      rw [hy2, show (x : Int) - (y : Int) = ((x - y : Nat) : Int) by omega, ih]
      have a1 : (((c' + x) % e' : Nat) : Int) = (c' : Int) := by
        rw [(head_same hc).mpr ⟨y, hy⟩]
      constructor
      · rintro ⟨_, h2⟩
        exact ⟨hd.mp ⟨y, hy⟩, h2⟩
      · rintro ⟨_, h2⟩
        exact ⟨a1, h2⟩
    · constructor
      · rintro ⟨h1, _⟩
        exact absurd ((head_same hc).mp (by omega)) hx
      · rintro ⟨h1, _⟩
        exact absurd (hd.mpr h1) hx
/-- what is taken of a round, or of some of them -/
theorem taken_round : ∀ (r : List (Int × Int)) (t b n x : Nat), (∀ ec ∈ r, okT ec) → 0 < b → x * b = n * t → goodN (evs r) t b n →
    takenF r (x : Int) = (partsN (evs r) t b).map (fun q => ((n / q.2 * q.1 : Nat) : Int)) ∧ ∀ q ∈ partsN (evs r) t b, q.2 ∣ n
  | [], t, b, n, x, _, hb, h, _ => by
    constructor
    · simp only [takenF, evs, List.map_nil, partsN, List.map_cons]
      congr 2
      exact low_share hb h
    · intro q hq
      simp only [evs, List.map_nil, partsN, List.mem_singleton] at hq
      rw [hq]
      exact (low_dvd hb).mp ⟨x, by rw [← h, Nat.mul_comm]⟩
  | (e, c) :: r, t, b, n, x, ok, hb, h, hg => by
    have h0 := ok (e, c) (by simp)
    unfold okT at h0
    simp at h0
    obtain ⟨e', rfl⟩ := Int.eq_ofNat_of_zero_le (show 0 ≤ e by omega)
    obtain ⟨c', rfl⟩ := Int.eq_ofNat_of_zero_le h0.2.2.1
    have hc : c' < e' := by omega
    have hbe : 0 < b * e' := Nat.mul_pos hb (by omega)
    have ev : evs (((e' : Int), (c' : Int)) :: r) = e' :: evs r := by simp [evs]
    rw [ev] at hg ⊢
    obtain ⟨hg1, hg2⟩ := hg
    have hx : e' ∣ x := by
      obtain ⟨y, hy⟩ := (low_dvd (t := t) hbe).mpr hg1
      refine ⟨y, Nat.eq_of_mul_eq_mul_right hb ?_⟩
      rw [h, hy]
      ac_rfl
    obtain ⟨y, hy⟩ := hx
    have hy2 : (c' + x) / e' = y := by rw [hy]; exact head_div hc
    have ylt : y ≤ x := by rw [hy]; exact Nat.le_mul_of_pos_left y (by omega)
    obtain ⟨ih1, ih2⟩ := taken_round r (t * (e' - 1)) (b * e') n (x - y) (fun z hz => ok z (by simp [hz])) hbe (scale (by omega) h hy) hg2
    have hq : ((c' : Int) + (x : Int)) / (e' : Int) = (y : Int) := by
      rw [← hy2]
      rfl
    constructor
    · simp only [takenF, partsN, List.map_cons]
      rw [hq, show (x : Int) - (y : Int) = ((x - y : Nat) : Int) by omega, ih1]
      congr 2
      exact low_share hbe (by rw [← h, hy]; ac_rfl)
    · intro q hm
      unfold partsN at hm
      rcases List.mem_cons.mp hm with z | z
      · rw [z]; exact hg1
      · exact ih2 q z
theorem good_of : ∀ (es : List Nat) (t b n : Nat), (∀ q ∈ partsN es t b, q.2 ∣ n) → goodN es t b n
  | [], _, _, _, _ => trivial
  | e :: es, t, b, n, h => ⟨h _ (by simp [partsN]), good_of es _ _ n fun q hq => h q (by simp [partsN, hq])⟩
/-- the round of a row -/
def rnd (r : List (Int × Int)) : Nat := roundN (partsN (evs r) 1 1) 1
theorem rnd_iff (r : List (Int × Int)) (ok : ∀ ec ∈ r, okT ec) (n : Nat) : cntF r (n : Int) = r.map (·.2) ↔ rnd r ∣ n := by
  rw [state_iff r 1 1 n n ok (by omega) rfl]
  unfold rnd
  rw [round_dvd]
  constructor
  · intro h
    exact ⟨Nat.one_dvd n, (taken_round r 1 1 n n ok (by omega) rfl h).2⟩
  · rintro ⟨_, h⟩
    exact good_of _ _ _ _ h
theorem rnd_taken (r : List (Int × Int)) (ok : ∀ ec ∈ r, okT ec) (n : Nat) (h : rnd r ∣ n) : takenF r (n : Int) = (partsN (evs r) 1 1).map (fun q => ((n / q.2 * q.1 : Nat) : Int)) ∧ ∀ q ∈ partsN (evs r) 1 1, q.2 ∣ n :=
  taken_round r 1 1 n n ok (by omega) rfl ((state_iff r 1 1 n n ok (by omega) rfl).mp ((rnd_iff r ok n).mpr h))
/-- bottoms divide the product of all -/
def prodN : List Nat → Nat
  | [] => 1
  | e :: es => e * prodN es
theorem low_bot (t b : Nat) : (low t b).2 ∣ b := ⟨Nat.gcd t b, (low_mul t b).2.symm⟩
theorem parts_prod : ∀ (es : List Nat) (t b : Nat), ∀ q ∈ partsN es t b, q.2 ∣ b * prodN es
  | [], t, b => by
    intro q hq
    simp only [partsN, List.mem_singleton] at hq
    rw [hq]
    simp only [prodN, Nat.mul_one]
    exact low_bot t b
  | e :: es, t, b => by
    intro q hq
    unfold partsN at hq
    have e1 : b * prodN (e :: es) = b * e * prodN es := by simp only [prodN]; ac_rfl
    rw [e1]
    rcases List.mem_cons.mp hq with z | z
    · rw [z]; exact Nat.dvd_trans (low_bot t (b * e)) (Nat.dvd_mul_right _ _)
    · exact parts_prod es _ _ q z
theorem prod_le : ∀ (es : List Nat) (m k : Nat), (∀ e ∈ es, e ≤ m) → 1 ≤ m → es.length ≤ k → prodN es ≤ m ^ k
  | [], m, k, _, hm, _ => Nat.one_le_pow _ _ hm
  | e :: es, m, 0, _, _, h => by simp at h
  | e :: es, m, k + 1, he, hm, h => by
    have ih := prod_le es m k (fun x hx => he x (by simp [hx])) hm (by simp at h; omega)
    have := he e (by simp)
    simp only [prodN]
    rw [Nat.pow_succ, Nat.mul_comm]
    exact Nat.mul_le_mul ih this
theorem prod_pos : ∀ (es : List Nat), (∀ e ∈ es, 2 ≤ e) → 0 < prodN es
  | [], _ => by simp [prodN]
  | e :: es, h => Nat.mul_pos (by have := h e (by simp); omega) (prod_pos es fun x hx => h x (by simp [hx]))
theorem evs_ge {r : List (Int × Int)} (ok : ∀ ec ∈ r, okT ec) : ∀ e ∈ evs r, 2 ≤ e := fun e he => by
  obtain ⟨ec, h1, rfl⟩ := List.mem_map.mp he
  have := (ok ec h1).1
  omega
theorem evs_le {r : List (Int × Int)} {m : Nat} (h : ∀ ec ∈ r, ec.1 ≤ (m : Int)) : ∀ e ∈ evs r, e ≤ m := fun e he => by
  obtain ⟨ec, h1, rfl⟩ := List.mem_map.mp he
  have := h ec h1
  omega
theorem rnd_le (r : List (Int × Int)) (ok : ∀ ec ∈ r, okT ec) (m k : Nat) (hm : ∀ ec ∈ r, ec.1 ≤ (m : Int)) (h1 : 1 ≤ m) (hk : r.length ≤ k) : rnd r ≤ m ^ k ∧ 0 < rnd r := by
  have hp := prod_pos (evs r) (evs_ge ok)
  have hd : rnd r ∣ prodN (evs r) := by
    unfold rnd
    rw [round_dvd]
    refine ⟨Nat.one_dvd _, fun q hq => ?_⟩
    have := parts_prod (evs r) 1 1 q hq
    rwa [Nat.one_mul] at this
  have h2 := Nat.le_of_dvd hp hd
  have h3 := prod_le (evs r) m k (evs_le hm) h1 (by simp [evs]; exact hk)
  exact ⟨by omega, Nat.pos_of_dvd_of_pos hd hp⟩
/-- a share of a round, told in lowest terms -/
theorem share_low {n : Nat} {q : Nat × Nat} (hn : 0 < n) (hq : q.2 ∣ n) (h2 : 0 < q.2) (hc : Nat.Coprime q.1 q.2) : low (n / q.2 * q.1) n = q := by
  have e1 : low q.1 q.2 = q := by
    unfold low
    rw [show Nat.gcd q.1 q.2 = 1 from hc, Nat.div_one, Nat.div_one]
  rw [← e1]
  have e2 : low (n / (low q.1 q.2).2 * (low q.1 q.2).1) n = low q.1 q.2 := by
    rw [e1]
    refine (low_eq hn h2 ?_).trans e1
    obtain ⟨k, rfl⟩ := hq
    rw [Nat.mul_div_cancel_left _ h2]
    ac_rfl
  exact e2
theorem parts_cop : ∀ (es : List Nat) (t b : Nat), (∀ e ∈ es, 2 ≤ e) → 0 < b → ∀ q ∈ partsN es t b, Nat.Coprime q.1 q.2
  | [], t, b, _, hb => by simp [partsN]; exact low_cop hb
  | e :: es, t, b, he, hb => by
    intro q hq
    have h2 := he e (by simp)
    have hbe : 0 < b * e := Nat.mul_pos hb (by omega)
    unfold partsN at hq
    rcases List.mem_cons.mp hq with z | z
    · rw [z]; exact low_cop hbe
    · exact parts_cop es _ _ (fun x hx => he x (by simp [hx])) hbe q z
end TK

set_option maxRecDepth 100000
/-! lists of pairs of whole numbers -/
namespace TK
open PySem PySem.Spec PyProof.Rows L2
abbrev prV (f : Nat × Nat) : HO := .tup [.int (f.1 : Nat), .int (f.2 : Nat)]
def PrsL (H : Hp) (q : Addr) (ps : List (Nat × Nat)) : Prop :=
  ∃ ts : List Addr, H q = some (.lst (ts.map V.ref)) ∧ ts.length = ps.length ∧ ∀ (i : Nat) (t : Addr) (f : Nat × Nat), ts[i]? = some t → ps[i]? = some f → H t = some (prV f)
theorem PrsL.same {H H' : Hp} {q : Addr} {ps : List (Nat × Nat)} (h : PrsL H q ps) (s : Same H H') : PrsL H' q ps := by
  obtain ⟨ts, h1, h2, h3⟩ := h
  exact ⟨ts, s _ _ h1, h2, fun i t f a b => s _ _ (h3 i t f a b)⟩
theorem PrsL.nil {H : Hp} {q : Addr} (h : H q = some (.lst [])) : PrsL H q [] := ⟨[], h, rfl, fun i t f h => nomatch h⟩
/-- one more pair -/
theorem PrsL.push {H : Hp} {q t : Addr} {ps : List (Nat × Nat)} {f : Nat × Nat} {ts : List Addr} (h1 : H q = some (.lst (ts.map V.ref))) (h2 : ts.length = ps.length)
    (h3 : ∀ (i : Nat) (t : Addr) (f : Nat × Nat), ts[i]? = some t → ps[i]? = some f → H t = some (prV f)) (ht : H t = some (prV f)) : PrsL (upd H q (.lst (ts.map V.ref ++ [.ref t]))) q (ps ++ [f]) := by
  refine ⟨ts ++ [t], by rw [upd_same, List.map_append]; rfl, by rw [List.length_append, List.length_append, h2]; rfl, fun i u g a b => ?_⟩
  have hu : H u = some (prV g) := by
    by_cases hi : i < ts.length
    · rw [List.getElem?_append_left hi] at a
      rw [List.getElem?_append_left (by omega)] at b
      exact h3 i u g a b
    · have hi2 : i = ts.length := by
        have := (List.getElem?_eq_some_iff.mp a).1
        rw [List.length_append] at this
        simp at this
        omega
      subst hi2
      rw [List.getElem?_append_right (Nat.le_refl _), Nat.sub_self] at a
      rw [List.getElem?_append_right (by omega), h2, Nat.sub_self] at b
      cases a
      cases b
      exact ht
  rw [upd_ne (ne_of hu h1 (by intro z; cases z))]
  exact hu
def prD (f : Nat × Nat) : PyData := .tuple [.int (f.1 : Nat), .int (f.2 : Nat)]
theorem dp_pr {K : PySem.W.Frag} {H : Hp} {t : Addr} {f : Nat × Nat} (h : H t = some (prV f)) : Dp K H (.ref t) (prD f) := .tup (st_of h) (.cons (.int _) (.cons (.int _) .nil))
theorem all_prs {K : PySem.W.Frag} {H : Hp} : ∀ (ts : List Addr) (ps : List (Nat × Nat)), ts.length = ps.length → (∀ (i : Nat) (t : Addr) (f : Nat × Nat), ts[i]? = some t → ps[i]? = some f → H t = some (prV f)) → DpAll K H (ts.map V.ref) (ps.map prD)
  | [], [], _, _ => .nil
  | [], _ :: _, h, _ => by cases h
  | _ :: _, [], h, _ => by cases h
  | t :: ts, f :: ps, h, h3 => .cons (dp_pr (h3 0 t f rfl rfl)) (all_prs ts ps (Nat.succ.inj h) fun i u g a b => h3 (i + 1) u g (by simpa using a) (by simpa using b))
theorem dp_prs {K : PySem.W.Frag} {H : Hp} {q : Addr} {ps : List (Nat × Nat)} (h : PrsL H q ps) : Dp K H (.ref q) (.list (ps.map prD)) := by
  obtain ⟨ts, h1, h2, h3⟩ := h
  exact .lst (sq_of h1) (all_prs ts ps h2 h3)
theorem lay_prs : ∀ ps : List (Nat × Nat), PyData.canLayAll0 (ps.map prD) = true
  | [] => rfl
  | f :: r => by
    show (PyData.canLay0 (prD f) && PyData.canLayAll0 (r.map prD)) = true
    rw [lay_prs r]
    rfl
theorem deep_prs : ∀ ps : List (Nat × Nat), PyData.depthAll (ps.map prD) ≤ 1
  | [] => by show 0 ≤ 1; omega
  | f :: r => by
    have ih := deep_prs r
    show max (PyData.depth (prD f)) (PyData.depthAll (r.map prD)) ≤ 1
    have : PyData.depth (prD f) = 1 := rfl
    omega
theorem shp_prs (ps : List (Nat × Nat)) : SeqAt.shaped (.list (ps.map prD)) = true := by
  unfold SeqAt.shaped
  have h1 : PyData.canLay0 (.list (ps.map prD)) = true := lay_prs ps
  have h2 : PyData.depth (.list (ps.map prD)) ≤ 64 := by
    show PyData.depthAll (ps.map prD) + 1 ≤ 64
    have := deep_prs ps
    omega
  rw [h1, decide_eq_true h2]
  rfl
theorem eqv_pr (f g : Nat × Nat) : PyData.eqv (prD f) (prD g) = decide (f = g) := by
  unfold prD
  rw [PyData.eqv, Bool.eq_iff_iff]
  simp [PyData.eqvAll, PyData.eqv, Prod.ext_iff]
  omega
theorem eqv_prs : ∀ (ps qs : List (Nat × Nat)), PyData.eqvAll (ps.map prD) (qs.map prD) = decide (ps = qs)
  | [], [] => rfl
  | [], _ :: _ => rfl
  | _ :: _, [] => rfl
  | f :: r, g :: q => by
    show (PyData.eqv (prD f) (prD g) && PyData.eqvAll (r.map prD) (q.map prD)) = _
    rw [eqv_prs r q, eqv_pr, Bool.eq_iff_iff]
    simp
theorem ne_prs {K : PySem.W.Frag} {H : Hp} {a b : Addr} {ps : List (Nat × Nat)} {Q : VK} (ha : PrsL H a ps) (hb : PrsL H b ps) (q : Q (.bl false) H) : rNeD K (.ref a) (.ref b) H Q := by
  refine ⟨_, _, dp_prs ha, dp_prs hb, shp_prs ps, shp_prs ps, ?_⟩
  rw [PyData.eqv, eqv_prs, decide_eq_true rfl]
  exact q
theorem eq_prs {K : PySem.W.Frag} {H : Hp} {a b : Addr} {ps : List (Nat × Nat)} {Q : VK} (ha : PrsL H a ps) (hb : PrsL H b ps) (q : Q (.bl true) H) : rEqD K (.ref a) (.ref b) H Q := by
  refine ⟨_, _, dp_prs ha, dp_prs hb, shp_prs ps, shp_prs ps, ?_⟩
  rw [PyData.eqv, eqv_prs, decide_eq_true rfl]
  exact q
theorem shp_pr (f : Nat × Nat) : SeqAt.shaped (prD f) = true := rfl
theorem ne_pr {K : PySem.W.Frag} {H : Hp} {a b : Addr} {f : Nat × Nat} {Q : VK} (ha : H a = some (prV f)) (hb : H b = some (prV f)) (q : Q (.bl false) H) : rNeD K (.ref a) (.ref b) H Q := by
  refine ⟨_, _, dp_pr ha, dp_pr hb, shp_pr f, shp_pr f, ?_⟩
  rw [eqv_pr, decide_eq_true rfl]
  exact q
theorem evs_get {r : List (Int × Int)} {i : Nat} {e c : Int} (h : r[i]? = some (e, c)) : (evs r)[i]? = some e.toNat := by
  unfold evs
  rw [List.getElem?_map, h]
  rfl
theorem pw {i : Nat} (h : i ≤ 8) : 1000 ^ i ≤ 1000000000000000000000000 := Nat.le_trans (Nat.pow_le_pow_right (by decide) h) (by decide)
theorem wlt {n : Nat} (h : n ≤ 1000000000000000000000000) : ((n : Nat) : Int).natAbs < 2 ^ 100 := by
  rw [Int.natAbs_natCast]
  exact Nat.lt_of_le_of_lt h (by decide)
theorem gcd_step (x y : Nat) : Nat.gcd y (x % y) = Nat.gcd x y := by
  rw [Nat.gcd_comm y, ← Nat.gcd_rec, Nat.gcd_comm]
end TK

namespace TK
def prodM : List Nat → Nat
  | [] => 1
  | e :: es => (e - 1) * prodM es
theorem parts_app : ∀ (a c : List Nat) (t b : Nat), partsN (a ++ c) t b = (partsN a t b).dropLast ++ partsN c (t * prodM a) (b * prodN a)
  | [], c, t, b => by simp [partsN, prodM, prodN]
  | e :: a, c, t, b => by
    have ih := parts_app a c (t * (e - 1)) (b * e)
    have hne : partsN a (t * (e - 1)) (b * e) ≠ [] := by
      intro z
      have := congrArg List.length z
      rw [partsN_len] at this
      simp at this
    show low t (b * e) :: partsN (a ++ c) (t * (e - 1)) (b * e) = (low t (b * e) :: partsN a (t * (e - 1)) (b * e)).dropLast ++ _
    rw [ih, List.dropLast_cons_of_ne_nil hne, List.cons_append]
    congr 3
    · simp only [prodM]; ac_rfl
    · simp only [prodN]; ac_rfl
theorem len_init (a : List Nat) (t b : Nat) : (partsN a t b).dropLast.length = a.length := by
  rw [List.length_dropLast, partsN_len]
  rfl
theorem parts_last : ∀ (a : List Nat) (t b : Nat), partsN a t b = (partsN a t b).dropLast ++ [low (t * prodM a) (b * prodN a)] := fun a t b => by
  have := parts_app a [] t b
  rw [List.append_nil] at this
  exact this
theorem prodM_le : ∀ (es : List Nat), prodM es ≤ prodN es
  | [] => Nat.le_refl _
  | e :: es => Nat.mul_le_mul (Nat.sub_le _ _) (prodM_le es)
theorem prodN_perm {a b : List Nat} (h : a.Perm b) : prodN a = prodN b := by
  induction h with
  | nil => rfl
  | cons x _ ih => simp only [prodN]; rw [ih]
  | swap x y l => simp only [prodN]; ac_rfl
  | trans _ _ h1 h2 => exact h1.trans h2
theorem prodM_perm {a b : List Nat} (h : a.Perm b) : prodM a = prodM b := by
  induction h with
  | nil => rfl
  | cons x _ ih => simp only [prodM]; rw [ih]
  | swap x y l => simp only [prodM]; ac_rfl
  | trans _ _ h1 h2 => exact h1.trans h2
def plusN (f g : Nat × Nat) : Nat × Nat := low (f.1 * g.2 + g.1 * f.2) (f.2 * g.2)
theorem plus_eq {t b t' b' t2 b2 : Nat} (hb : 0 < b) (hb' : 0 < b') (hb2 : 0 < b2) (h : (t * b' + t' * b) * b2 = t2 * (b * b')) : plusN (low t b) (low t' b') = low t2 b2 := by
  have p1 := low_pos (t := t) hb
  have p2 := low_pos (t := t') hb'
  have v1 := low_val (t := t) hb
  have v2 := low_val (t := t') hb'
  obtain ⟨x, hx⟩ : ∃ x, low t b = x := ⟨_, rfl⟩
  obtain ⟨y, hy⟩ : ∃ y, low t' b' = y := ⟨_, rfl⟩
  rw [hx] at p1 v1 ⊢
  rw [hy] at p2 v2 ⊢
  unfold plusN
  refine low_eq (Nat.mul_pos p1 p2) hb2 ?_
  have hbb : 0 < b * b' := Nat.mul_pos hb hb'
  apply Nat.eq_of_mul_eq_mul_left hbb
  have e1 : b * b' * (x.1 * y.2 + y.1 * x.2) = (x.1 * b) * (b' * y.2) + (y.1 * b') * (b * x.2) := by
    rw [Nat.mul_add]
    congr 1 <;> ac_rfl
  calc b * b' * ((x.1 * y.2 + y.1 * x.2) * b2) = b * b' * (x.1 * y.2 + y.1 * x.2) * b2 := by ac_rfl
    _ = ((x.1 * b) * (b' * y.2) + (y.1 * b') * (b * x.2)) * b2 := by rw [e1]
    _ = ((t * x.2) * (b' * y.2) + (t' * y.2) * (b * x.2)) * b2 := by rw [v1, v2]
    _ = (x.2 * y.2) * ((t * b' + t' * b) * b2) := by
      rw [Nat.add_mul, Nat.add_mul, Nat.mul_add]
      congr 1 <;> ac_rfl
    _ = (x.2 * y.2) * (t2 * (b * b')) := by rw [h]
    _ = b * b' * (t2 * (x.2 * y.2)) := by ac_rfl
/-- the sum so far, and one more -/
theorem plus_more {t b e : Nat} (hb : 0 < b) (he : 2 ≤ e) (ht : t ≤ b) : plusN (low (b - t) b) (low t (b * e)) = low (b * e - t * (e - 1)) (b * e) := by
  have hbe : 0 < b * e := Nat.mul_pos hb (by omega)
  refine plus_eq hb hbe hbe ?_
  have e0 : t * (e - 1) ≤ b * e := Nat.mul_le_mul ht (Nat.sub_le _ _)
  have e1 : (b - t) * e + t = b * e - t * (e - 1) := by
    have k1 : t * (e - 1) + t = t * e := by
      rw [← Nat.mul_succ]
      congr 1
      omega
    have k2 : t * e ≤ b * e := Nat.mul_le_mul_right e ht
    rw [Nat.sub_mul]
    omega
  calc ((b - t) * (b * e) + t * b) * (b * e) = ((b - t) * e + t) * b * (b * e) := by
        rw [Nat.add_mul ((b - t) * e) t b]
        congr 2
        ac_rfl
    _ = (b * e - t * (e - 1)) * b * (b * e) := by rw [e1]
    _ = (b * e - t * (e - 1)) * (b * (b * e)) := by rw [Nat.mul_assoc]
theorem plus_end {t b : Nat} (hb : 0 < b) (ht : t ≤ b) : plusN (low (b - t) b) (low t b) = (1, 1) := by
  have : plusN (low (b - t) b) (low t b) = low 1 1 := by
    refine plus_eq hb hb (by decide) ?_
    rw [Nat.mul_one, Nat.one_mul, ← Nat.add_mul, Nat.sub_add_cancel ht]
  rw [this]
  decide +kernel
/-- neighbours who change places -/
theorem swap_sum {t b x y : Nat} (hb : 0 < b) (hx : 2 ≤ x) (hy : 2 ≤ y) : plusN (low t (b * y)) (low (t * (y - 1)) (b * y * x)) = plusN (low t (b * x)) (low (t * (x - 1)) (b * x * y)) := by
  have key : ∀ x y : Nat, 2 ≤ x → 2 ≤ y → plusN (low t (b * x)) (low (t * (x - 1)) (b * x * y)) = low (t * (x + y - 1)) (b * x * y) := fun x y hx hy => by
    have hbx : 0 < b * x := Nat.mul_pos hb (by omega)
    have hbxy : 0 < b * x * y := Nat.mul_pos hbx (by omega)
    refine plus_eq hbx hbxy hbxy ?_
    have e1 : t * y + t * (x - 1) = t * (x + y - 1) := by
      rw [← Nat.mul_add]
      congr 1
      omega
    calc (t * (b * x * y) + t * (x - 1) * (b * x)) * (b * x * y) = (t * y + t * (x - 1)) * (b * x) * (b * x * y) := by
          rw [Nat.add_mul (t * y)]
          congr 2
          ac_rfl
      _ = t * (x + y - 1) * (b * x) * (b * x * y) := by rw [e1]
      _ = t * (x + y - 1) * (b * x * (b * x * y)) := by rw [Nat.mul_assoc]
  rw [key x y hx hy, key y x hy hx]
  congr 1
  · congr 1
    omega
  · ac_rfl
theorem swap_less {t b x y : Nat} (hb : 0 < b) (hx : 2 ≤ x) (hy : 2 ≤ y) :
    (low (t * (x - 1)) (b * x * y)).1 * (low t (b * y)).2 ≤ (low t (b * y)).1 * (low (t * (x - 1)) (b * x * y)).2 := by
  have hby : 0 < b * y := Nat.mul_pos hb (by omega)
  have hbxy : 0 < b * x * y := Nat.mul_pos (Nat.mul_pos hb (by omega)) (by omega)
  have v1 := low_val (t := t) hby
  have v2 := low_val (t := t * (x - 1)) hbxy
  generalize low t (b * y) = f at v1 ⊢
  generalize low (t * (x - 1)) (b * x * y) = g at v2 ⊢
  have hp : 0 < (b * y) * (b * x * y) := Nat.mul_pos hby hbxy
  refine Nat.le_of_mul_le_mul_left ?_ hp
  calc (b * y) * (b * x * y) * (g.1 * f.2) = (g.1 * (b * x * y)) * (f.2 * (b * y)) := by ac_rfl
    _ = t * (x - 1) * g.2 * (f.2 * (b * y)) := by rw [v2]
    _ = (t * g.2 * f.2 * b * y) * (x - 1) := by ac_rfl
    _ ≤ (t * g.2 * f.2 * b * y) * x := Nat.mul_le_mul_left _ (Nat.sub_le _ _)
    _ = (t * f.2) * (g.2 * (b * x * y)) := by ac_rfl
    _ = (f.1 * (b * y)) * (g.2 * (b * x * y)) := by rw [v1]
    _ = (b * y) * (b * x * y) * (f.1 * g.2) := by ac_rfl
/-- every fraction is small -/
theorem parts_small : ∀ (es : List Nat) (t b M : Nat), (∀ e ∈ es, 2 ≤ e) → 0 < b → t ≤ b → b * prodN es ≤ M → ∀ q ∈ partsN es t b, q.1 ≤ M ∧ q.2 ≤ M
  | [], t, b, M, _, hb, ht, hM => by
    intro q hq
    simp only [partsN, List.mem_singleton] at hq
    subst hq
    simp only [prodN, Nat.mul_one] at hM
    have h1 : (low t b).1 ≤ t := Nat.div_le_self _ _
    have h2 : (low t b).2 ≤ b := Nat.div_le_self _ _
    omega
  | e :: es, t, b, M, he, hb, ht, hM => by
    intro q hq
    have h2 := he e (by simp)
    have hbe : 0 < b * e := Nat.mul_pos hb (by omega)
    have hM' : b * e * prodN es ≤ M := by rw [Nat.mul_assoc]; exact hM
    have hp : 0 < prodN es := prod_pos es fun x hx => he x (by simp [hx])
    have hle : b * e ≤ M := Nat.le_trans (Nat.le_mul_of_pos_right _ hp) hM'
    have hb2 : b ≤ b * e := Nat.le_mul_of_pos_right b (by omega)
    unfold partsN at hq
    rcases List.mem_cons.mp hq with z | z
    · subst z
      have k1 : (low t (b * e)).1 ≤ t := Nat.div_le_self _ _
      have k2 : (low t (b * e)).2 ≤ b * e := Nat.div_le_self _ _
      omega
    · exact parts_small es _ _ M (fun x hx => he x (by simp [hx])) hbe (Nat.mul_le_mul ht (Nat.sub_le _ _)) hM' q z
end TK

set_option maxRecDepth 100000
/-! tuples joined and cut; rows and lists of pairs cut -/
namespace TK
open PySem PySem.Spec PyProof.Rows L2
theorem cat_use {K : PySem.W.Frag} {H : Hp} {a b : Addr} {xs ys : List V} {Q : VK} (ha : H a = some (.tup xs)) (hb : H b = some (.tup ys)) (hl : xs.length + ys.length ≤ sizeLine)
    (q : ∀ p H', Same H H' → H' p = some (.tup (xs ++ ys)) → Q (.ref p) H') : rCatA K (.ref a) (.ref b) H Q := by
  refine ⟨a, b, xs, ys, rfl, rfl, st_of ha, st_of hb, hl, fun e => ?_, fun _ e => ?_, fun _ _ p hp => ?_⟩
  · subst e
    exact q b H (Same.refl _) hb
  · subst e
    exact q a H (Same.refl _) (by rw [List.append_nil]; exact ha)
  · exact q p _ (same_new hp) upd_same
theorem slice_use {K : PySem.W.Frag} {H : Hp} {a : Addr} {xs : List V} {lo hi : Option Int} {Q : VK} (ha : H a = some (.tup xs))
    (q : ∀ p H', Same H H' → H' p = some (.tup (cutV xs lo hi)) → Q (.ref p) H') : rSlA K (.ref a) lo hi H Q := by
  refine ⟨a, xs, rfl, st_of ha, fun e => ?_, fun _ p hp => ?_⟩
  · refine q a H (Same.refl _) ?_
    unfold cutV
    rw [e.1, e.2, List.drop_zero, Nat.sub_zero, List.take_length]
    exact ha
  · exact q p _ (same_new hp) upd_same
theorem cut_from {xs : List V} {m : Int} {k : Nat} (h : m = (k : Int)) (hk : k ≤ xs.length) : cutV xs (some m) none = xs.drop k := by
  subst h
  unfold cutV
  rw [HT.sIx_none, HT.sIx_nat, Nat.min_eq_left hk]
  exact List.take_of_length_le (by rw [List.length_drop]; exact Nat.le_refl _)
/-- each address holds its taker -/
def PairsAt (H : Hp) (ts : List Addr) (r : List (Int × Int)) : Prop := ts.length = r.length ∧ ∀ (i : Nat) (t : Addr) (ec : Int × Int), ts[i]? = some t → r[i]? = some ec → H t = some (.tup [.int ec.1, .int ec.2])
theorem RowAt.pairs {H : Hp} {p : Addr} {r : List (Int × Int)} (h : RowAt H p r) : ∃ ts, H p = some (.tup (ts.map V.ref)) ∧ PairsAt H ts r := by
  obtain ⟨ts, h1, h2, h3⟩ := h
  exact ⟨ts, h1, h2, h3⟩
theorem PairsAt.row {H : Hp} {p : Addr} {ts : List Addr} {r : List (Int × Int)} (h : PairsAt H ts r) (hp : H p = some (.tup (ts.map V.ref))) : RowAt H p r := ⟨ts, hp, h.1, h.2⟩
theorem PairsAt.keep {H H' : Hp} {ts : List Addr} {r : List (Int × Int)} (h : PairsAt H ts r) (k : TupS H H') : PairsAt H' ts r := ⟨h.1, fun i t ec a b => k _ _ (h.2 i t ec a b)⟩
theorem PairsAt.take {H : Hp} {ts : List Addr} {r : List (Int × Int)} (h : PairsAt H ts r) (k : Nat) : PairsAt H (ts.take k) (r.take k) := by
  refine ⟨by rw [List.length_take, List.length_take, h.1], fun i t ec a b => ?_⟩
  rw [List.getElem?_take] at a b
  split at a
  · rename_i hi
    rw [if_pos hi] at b
    exact h.2 i t ec a b
  · cases a
theorem PairsAt.drop {H : Hp} {ts : List Addr} {r : List (Int × Int)} (h : PairsAt H ts r) (k : Nat) : PairsAt H (ts.drop k) (r.drop k) := by
  refine ⟨by rw [List.length_drop, List.length_drop, h.1], fun i t ec a b => ?_⟩
  rw [List.getElem?_drop] at a b
  exact h.2 _ t ec a b
theorem PairsAt.app {H : Hp} {ts us : List Addr} {r q : List (Int × Int)} (h : PairsAt H ts r) (h' : PairsAt H us q) : PairsAt H (ts ++ us) (r ++ q) := by
  refine ⟨by rw [List.length_append, List.length_append, h.1, h'.1], fun i t ec a b => ?_⟩
  by_cases hi : i < ts.length
  · rw [List.getElem?_append_left hi] at a
    rw [List.getElem?_append_left (by rw [← h.1]; exact hi)] at b
    exact h.2 i t ec a b
  · rw [List.getElem?_append_right (by omega)] at a
    rw [List.getElem?_append_right (by rw [← h.1]; omega), ← h.1] at b
    exact h'.2 _ t ec a b
theorem PairsAt.two {H : Hp} {t u : Addr} {f g : Int × Int} (h1 : H t = some (.tup [.int f.1, .int f.2])) (h2 : H u = some (.tup [.int g.1, .int g.2])) : PairsAt H [t, u] [f, g] :=
  ⟨rfl, fun i x ec a b => by
    cases i with
    | zero => cases a; cases b; exact h1
    | succ i =>
      cases i with
      | zero => cases a; cases b; exact h2
      | succ i => simp at a⟩
theorem PrsL.cutTo {H H' : Hp} {q p : Addr} {ps : List (Nat × Nat)} {ts : List Addr} (h2 : ts.length = ps.length) (h3 : ∀ (i : Nat) (t : Addr) (f : Nat × Nat), ts[i]? = some t → ps[i]? = some f → H t = some (prV f))
    (s : Same H H') (k : Nat) (hp : H' p = some (.lst ((ts.map V.ref).take k))) : PrsL H' p (ps.take k) := by
  refine ⟨ts.take k, by rw [hp, List.map_take], by rw [List.length_take, List.length_take, h2], fun i t f a b => ?_⟩
  rw [List.getElem?_take] at a b
  split at a
  · rename_i hi
    rw [if_pos hi] at b
    exact s _ _ (h3 i t f a b)
  · cases a
theorem PrsL.cutFrom {H H' : Hp} {q p : Addr} {ps : List (Nat × Nat)} {ts : List Addr} (h2 : ts.length = ps.length) (h3 : ∀ (i : Nat) (t : Addr) (f : Nat × Nat), ts[i]? = some t → ps[i]? = some f → H t = some (prV f))
    (s : Same H H') (k : Nat) (hp : H' p = some (.lst ((ts.map V.ref).drop k))) : PrsL H' p (ps.drop k) := by
  refine ⟨ts.drop k, by rw [hp, List.map_drop], by rw [List.length_drop, List.length_drop, h2], fun i t f a b => ?_⟩
  rw [List.getElem?_drop] at a b
  exact s _ _ (h3 _ t f a b)
/-- told[:k], as a reading -/
theorem sl_to {K : PySem.W.Frag} {H : Hp} {q : Addr} {ps : List (Nat × Nat)} {m : Int} {k : Nat} {Q : VK} (h : PrsL H q ps) (hm : m = (k : Int)) (hk : k ≤ ps.length) (hQ : ∀ p H', Same H H' → PrsL H' p (ps.take k) → Q (.ref p) H') : rSlL K (.ref q) none (some m) H Q := by
  obtain ⟨ts, h1, h2, h3⟩ := h
  refine ⟨q, _, rfl, sq_of h1, fun p np => ?_⟩
  rw [cut_to hm (by rw [List.length_map, h2]; exact hk)]
  exact hQ p _ (same_new np) (PrsL.cutTo (q := q) h2 h3 (same_new np) k upd_same)
theorem sl_from {K : PySem.W.Frag} {H : Hp} {q : Addr} {ps : List (Nat × Nat)} {m : Int} {k : Nat} {Q : VK} (h : PrsL H q ps) (hm : m = (k : Int)) (hk : k ≤ ps.length) (hQ : ∀ p H', Same H H' → PrsL H' p (ps.drop k) → Q (.ref p) H') : rSlL K (.ref q) (some m) none H Q := by
  obtain ⟨ts, h1, h2, h3⟩ := h
  refine ⟨q, _, rfl, sq_of h1, fun p np => ?_⟩
  rw [cut_from hm (by rw [List.length_map, h2]; exact hk)]
  exact hQ p _ (same_new np) (PrsL.cutFrom (q := q) h2 h3 (same_new np) k upd_same)
theorem sl_init {K : PySem.W.Frag} {H : Hp} {q : Addr} {ps : List (Nat × Nat)} {Q : VK} (h : PrsL H q ps) (hQ : ∀ p H', Same H H' → PrsL H' p ps.dropLast → Q (.ref p) H') : rSlL K (.ref q) none (some (-1)) H Q := by
  obtain ⟨ts, h1, h2, h3⟩ := h
  refine ⟨q, _, rfl, sq_of h1, fun p np => ?_⟩
  rw [cut_init, List.dropLast_eq_take]
  refine hQ p _ (same_new np) ?_
  rw [List.dropLast_eq_take, ← h2]
  have := PrsL.cutTo (q := q) h2 h3 (same_new (o := .lst ((ts.map V.ref).take ((ts.map V.ref).length - 1))) np) (ts.length - 1) (by rw [upd_same, List.length_map])
  exact this
theorem PrsL.at {K : PySem.W.Frag} {H : Hp} {q : Addr} {ps : List (Nat × Nat)} {i : Nat} {f : Nat × Nat} {m : Int} {Q : VK} (h : PrsL H q ps) (hm : m = (i : Int)) (hf : ps[i]? = some f) (hQ : ∀ t, H t = some (prV f) → Q (.ref t) H) : rIxL K (.ref q) (.int m) H Q := by
  obtain ⟨ts, h1, h2, h3⟩ := h
  have hi : i < ts.length := h2 ▸ (List.getElem?_eq_some_iff.mp hf).1
  have ht := List.getElem?_eq_getElem hi
  exact ⟨q, _, m, .ref ts[i], rfl, rfl, sq_of h1, at_of hm (by rw [List.getElem?_map, ht]; rfl), hQ _ (h3 i _ f ht hf)⟩
theorem PrsL.last {K : PySem.W.Frag} {H : Hp} {q : Addr} {ps : List (Nat × Nat)} {f : Nat × Nat} {Q : VK} (h : PrsL H q (ps ++ [f])) (hQ : ∀ t, H t = some (prV f) → Q (.ref t) H) : rIxL K (.ref q) (.int (-1)) H Q := by
  obtain ⟨ts, h1, h2, h3⟩ := h
  rw [List.length_append] at h2
  have h2' : ts.length = ps.length + 1 := h2
  obtain ⟨us, u, e⟩ : ∃ us u, ts = us ++ [u] := ⟨ts.dropLast, ts.getLast (by intro z; rw [z] at h2'; cases h2'), (List.dropLast_concat_getLast _).symm⟩
  subst e
  have hl : us.length = ps.length := by rw [List.length_append] at h2'; exact Nat.succ.inj h2'
  have hu := h3 ps.length u f (by rw [List.getElem?_append_right (by omega), hl, Nat.sub_self]; rfl) (by rw [List.getElem?_append_right (Nat.le_refl _), Nat.sub_self]; rfl)
  refine ⟨q, _, -1, .ref u, rfl, rfl, sq_of h1, ?_, hQ u hu⟩
  rw [List.map_append]
  exact atI_last _ _
end TK

set_option maxRecDepth 100000
/-! t[::-1] of a tuple; repr of a truth -/
namespace TK
open PySem PySem.Spec PyProof.Rows L2
section
variable {prog : Program} {w : World} {A : Around} {E : Value → Shared → Prop} {s : Shared}
theorem applied_back {sl : Addr} {vl vu vk : Value} {n : Nat} {Q : Int × Int × Nat → Shared → Prop} (hs : s.heap.IsSliceOf sl vl vu vk) (pl : IsPart vl none) (pu : IsPart vu none) (pk : IsPart vk (some (-1)))
    (h : Q ((n : Int) - 1, -1, n) s) : wpAny (model prog w) A (Builtin.Slice.sliceApplied (.ref sl) (pure (n : Int))) Q E s := by
  obtain ⟨os, hos, hcs, hds⟩ := id hs
  unfold Builtin.Slice.sliceApplied Builtin.Slice.sliceFields
  refine wpAny_bind (wpAny_bind (wpAny_field hos hds (x := vl) rfl (wpAny_bind (wpAny_field hos hds (x := vu) rfl (wpAny_bind (wpAny_field hos hds (x := vk) rfl (wpAny_pure ?_)))))))
  refine wpAny_bind (HT.slicePart_ pk ?_)
  show wpAny _ _ (if ((-1 : Int) == 0) = true then _ else _) _ _ s
  rw [if_neg (by decide)]
  refine wpAny_bind (HT.slicePart_ pl (wpAny_bind (HT.slicePart_ pu (wpAny_bind (wpAny_pure ?_)))))
  have e1 : Builtin.Slice.sliceAdjust none none (-1) (n : Int) = ((n : Int) - 1, -1) := by
    unfold Builtin.Slice.sliceAdjust
    simp
  have e2 : Builtin.Slice.slicePlaces ((n : Int) - 1) (-1) (-1) = n := by
    unfold Builtin.Slice.slicePlaces
    simp
    omega
  show wpAny _ _ (match Builtin.Slice.sliceAdjust none none (-1) (n : Int) with | (lo, hi) => pure (lo, (-1 : Int), Builtin.Slice.slicePlaces lo hi (-1))) _ _ s
  rw [e1]
  show wpAny _ _ (pure ((n : Int) - 1, (-1 : Int), Builtin.Slice.slicePlaces ((n : Int) - 1) (-1) (-1))) _ _ s
  rw [e2]
  exact wpAny_pure h
theorem pick_back (xs : Array Value) : ((List.range xs.size).filterMap fun (m : Nat) => xs[((xs.size : Int) - 1 + (m : Int) * (-1)).toNat]?).toArray = xs.toList.reverse.toArray := by
  congr 1
  have e : ∀ k : Nat, k ≤ xs.size → ((List.range k).filterMap fun (m : Nat) => xs[((xs.size : Int) - 1 + (m : Int) * (-1)).toNat]?) = (xs.toList.drop (xs.size - k)).reverse := by
    intro k
    induction k with
    | zero => intro _; simp
    | succ k ih =>
      intro hk
      have hlt : xs.size - 1 - k < xs.toList.length := by rw [Array.length_toList]; omega
      rw [List.range_succ, List.filterMap_append, ih (by omega), show xs.size - (k + 1) = xs.size - 1 - k by omega, List.drop_eq_getElem_cons hlt, List.reverse_cons, show xs.size - 1 - k + 1 = xs.size - k by omega]
      congr 1
      have e2 : ((xs.size : Int) - 1 + (k : Int) * (-1)).toNat = xs.size - 1 - k := by omega
      simp only [List.filterMap_cons, List.filterMap_nil, e2]
      have hlt2 : xs.size - 1 - k < xs.size := by omega
      rw [Array.getElem?_eq_getElem hlt2]
      simp
  have := e xs.size (Nat.le_refl _)
  rw [Nat.sub_self, List.drop_zero] at this
  exact this
theorem item_back {t sl : Addr} {items : Array Value} {vl vu vk : Value} {Q : Value → Shared → Prop} (ht : IsTup s.heap t items) (hs : s.heap.IsSliceOf sl vl vu vk) (pl : IsPart vl none) (pu : IsPart vu none) (pk : IsPart vk (some (-1)))
    (h : Q (.ref s.heap.objs.size) { s with heap := s.heap.push { cls := .type "tuple", data := .seq items.toList.reverse.toArray } }) (hsz : items.size ≤ sizeLine) : wpAny (model prog w) A (getItem (.ref t) (.ref sl)) Q E s := by
  have hfit : sizeOk (.seq items.toList.reverse.toArray) := by
    show items.toList.reverse.toArray.size ≤ sizeLine
    rw [List.size_toArray, List.length_reverse, Array.length_toList]
    exact hsz
  obtain ⟨os, hos, hcs, hds⟩ := id hs
  have tySl : s.TypeIs (.ref sl) "slice" := ⟨os, hos, hcs⟩
  unfold getItem
  try with_reducible refine wpAny_holding ?_
  first | refine wpAny_bind (wpAny_pure ?_) | skip
  refine wpAny_bind (wpAny_sequenceKey ht.typeIs (by decide) ?_)
  refine wpAny_bind (wpAny_callSpecial?_slot (name := Str.ofString "__getitem__") ht.typeIs PyProof.Rows.slot_tuple_getitem
    (wpAny_call_entry PyProof.Rows.slot_tuple_getitem ht.typeIs entry_tuple_getitem ?_ (args_tuple_getitem _ _)))
  show wpAny _ _ (Builtin.Tuple.tupleItemsOf (.ref t) >>= _) _ _ s
  refine wpAny_bind (tupleItemsOf_ ht (wpAny_bind (wpAny_typeOf tySl ?_)))
  rw [if_pos (by decide)]
  refine wpAny_bind (applied_back hs pl pu pk ?_)
  show wpAny _ _ (if ((((items.size : Int) - 1) == 0 && (-1 : Int) == 1 && items.size == items.size)) = true then _ else _) _ _ s
  rw [if_neg (by simp), pick_back]
  first
    | exact wpAny_bind (m := Builtin.Tuple.tupleExact _) (wpAny_newObj_type (wpAny_pure ⟨_, rfl, wpAny_pure h⟩) hfit)
    | exact wpAny_bind (m := Builtin.Tuple.tupleExact _) (wpAny_newObj_type (wpAny_bind (wpAny_pure (wpAny_pure ⟨_, rfl, wpAny_pure h⟩))) hfit)
    | exact wpAny_bind (wpAny_bind (m := Builtin.Tuple.tupleExact _) (wpAny_newObj_type (wpAny_pure (wpAny_pure ⟨_, rfl, wpAny_pure h⟩)) hfit))
    | exact wpAny_bind (wpAny_bind (m := Builtin.Tuple.tupleExact _) (wpAny_newObj_type (wpAny_pure ⟨_, rfl, wpAny_pure h⟩) hfit))
end
section
variable {X : Cx}
def tRevT (K : PySem.W.Frag) (te : TE) : TE := fun σ H Q => te σ H fun x H1 => ∃ a xs, x = .ref a ∧ SqT K H1 a xs ∧ ∀ p, H1 p = none → Q (.ref p) (upd H1 p (.tup xs.reverse))
theorem pe_revT {e : Expr} {te : TE} {k : Nat} {p1 p2 p3 pos : Pos} (he : PE X e te) : PE X (.Subscript e (.Slice none none (some (.UnaryOp .USub (.Constant (.int 1) k p1) p2)) p3) pos) (tRevT X.K te) := by
  refine ⟨fun pins s σ H Q I h => ?_⟩
  refine Subscript_ (thn (he.run pins s σ H _ I h) fun v s1 ⟨x, H1, I1, r1, q1⟩ => ?_)
  obtain ⟨a, xs, ex, hx, q⟩ := q1
  subst ex
  cases r1
  have byOne : PO X (some (.UnaryOp .USub (.Constant (.int 1) k p1) p2)) (tPart (tUn (rU fun i => .int (-i)) (tC (.int 1)))) := po_some (pe_un un_neg pe_int)
  refine wpAny_Slice (thn (po_none.run pins s1 σ H1 (fun o H2 => o = none ∧ H2 = H1) I1 ⟨rfl, rfl⟩) fun vl s2 ⟨l, H2, I2, pl, el, e2⟩ => ?_)
  subst el e2
  refine thn (po_none.run pins s2 σ H2 (fun o H3 => o = none ∧ H3 = H2) I2 ⟨rfl, rfl⟩) fun vu s3 ⟨u, H3, I3, pu, eu, e3⟩ => ?_
  subst eu e3
  refine thn (byOne.run pins s3 σ H3 (fun o H4 => o = some (-1) ∧ H4 = H3) I3 ⟨1, rfl, -1, rfl, rfl, rfl⟩) fun vs s4 ⟨o, H4, I4, ps, eo, e4⟩ => ?_
  subst eo e4
  have I5 : Inv X pins σ H4 { s4 with heap := s4.heap.push { cls := .type "slice", data := .fields #[vl, vu, vs] } } := I4.kept (t' := s4.toks) fun b ob q => Heap.get?_push_of_some _ q
  obtain ⟨its, r, ht, hz⟩ := I5.tuple hx
  have hlen := r.length
  show wpAny (model X.prog X.w) X.A (subscriptTail e (.Slice none none (some (.UnaryOp .USub (.Constant (.int 1) k p1) p2)) p3) (.ref a) (.ref s4.heap.objs.size)) (EP X pins σ Q) X.xe { s4 with heap := s4.heap.push { cls := .type "slice", data := .fields #[vl, vu, vs] } }
  refine tail_any (ops := [.ref a, .ref s4.heap.objs.size]) ht.typeIs (PyProof.Rows.slot_tuple_getitem.lookup) ?_ (by with_unfolding_all rfl)
  refine item_back ht (Heap.IsSliceOf.new _ vl vu vs) pl pu ps ?_ (by rw [List.size_toArray]; omega)
  refine ⟨.ref _, _, I5.laid (t' := s4.toks) (o := .tup xs.reverse) (fun b ob q => Heap.get?_push_of_some _ q) (Nat.le_refl _) ?_, rfl, q _ (I5.hok.fresh (Nat.le_refl _))⟩
  exact ⟨by rw [List.length_reverse]; exact hz, _, r.reverse, IsTup.new _ _⟩
def txt (b : Bool) : Str := if b then "True" else "False"
theorem call_repr_bl : CallR X (.builtin "repr") (fun xs H Q => ∃ b, xs = [.bl b] ∧ Q (.str (txt b)) H) := by
  intro pins s σ H xs us Q I r h
  obtain ⟨b, rfl, q⟩ := h
  obtain ⟨u, rfl, e⟩ := vals1 r
  cases e
  exact PySem.P.repr_of_bool ⟨.str (txt b), H, I.tok _, ⟨_, rfl⟩, q⟩
end
end TK

set_option maxRecDepth 100000
/-! anything: data at any depth -/
namespace TK
open PySem PySem.Spec PyProof.Rows L2
theorem sqT_same {K : PySem.W.Frag} {H H' : Hp} {a : Addr} {xs : List V} (e : Same H H') (h : SqT K H a xs) : SqT K H' a xs := by
  rcases h with (h | ⟨o, h⟩) | h
  · exact .inl (.inl (e _ _ h))
  · exact .inl (.inr ⟨o, e _ _ h⟩)
  · exact .inr h
end TK
namespace L2
open PySem PySem.Spec PyProof.Rows TK
mutual
theorem Dp.same {K : PySem.W.Frag} {H H' : Hp} (e : Same H H') : ∀ {v : V} {d : PyData}, Dp K H v d → Dp K H' v d
  | _, _, .non => .non
  | _, _, .bl b => .bl b
  | _, _, .int i => .int i
  | _, _, .str x => .str x
  | _, _, .lst h a => .lst (e.seq h) (DpAll.same e a)
  | _, _, .tup h a => .tup (sqT_same e h) (DpAll.same e a)
theorem DpAll.same {K : PySem.W.Frag} {H H' : Hp} (e : Same H H') : ∀ {vs : List V} {ds : List PyData}, DpAll K H vs ds → DpAll K H' vs ds
  | _, _, .nil => .nil
  | _, _, .cons a b => .cons (Dp.same e a) (DpAll.same e b)
end
section
variable {K : PySem.W.Frag} {H : Hp}
theorem DpAll.len : ∀ {vs : List V} {ds : List PyData}, DpAll K H vs ds → vs.length = ds.length
  | _, _, .nil => rfl
  | _, _, .cons _ b => by simp [DpAll.len b]
theorem DpAll.get : ∀ {vs : List V} {ds : List PyData}, DpAll K H vs ds → ∀ {i : Nat} {v : V}, vs[i]? = some v → ∃ d, ds[i]? = some d ∧ Dp K H v d
  | _, _, .nil, _, _, h => by cases h
  | _, _, .cons a b, 0, v, h => by cases h; exact ⟨_, rfl, a⟩
  | _, _, .cons a b, i + 1, v, h => by
    obtain ⟨d, h1, h2⟩ := DpAll.get b (i := i) (v := v) (by simpa using h)
    exact ⟨d, by simpa using h1, h2⟩
theorem DpAll.app : ∀ {vs ws : List V} {ds es : List PyData}, DpAll K H vs ds → DpAll K H ws es → DpAll K H (vs ++ ws) (ds ++ es)
  | _, _, _, _, .nil, h => h
  | _, _, _, _, .cons a b, h => .cons a (DpAll.app b h)
theorem DpAll.take : ∀ {vs : List V} {ds : List PyData} (n : Nat), DpAll K H vs ds → DpAll K H (vs.take n) (ds.take n)
  | _, _, 0, _ => by rw [List.take_zero, List.take_zero]; exact .nil
  | _, _, _ + 1, .nil => .nil
  | _, _, n + 1, .cons a b => .cons a (DpAll.take n b)
theorem DpAll.drop : ∀ {vs : List V} {ds : List PyData} (n : Nat), DpAll K H vs ds → DpAll K H (vs.drop n) (ds.drop n)
  | _, _, 0, h => h
  | _, _, _ + 1, .nil => .nil
  | _, _, n + 1, .cons _ b => DpAll.drop n b
theorem DpAll.set : ∀ {vs : List V} {ds : List PyData} {v : V} {d : PyData} (n : Nat), DpAll K H vs ds → Dp K H v d → DpAll K H (vs.set n v) (ds.set n d)
  | _, _, _, _, _, .nil, _ => .nil
  | _, _, _, _, 0, .cons _ b, h => .cons h b
  | _, _, _, _, n + 1, .cons a b, h => .cons a (DpAll.set n b h)
theorem DpAll.rev : ∀ {vs : List V} {ds : List PyData}, DpAll K H vs ds → DpAll K H vs.reverse ds.reverse
  | _, _, .nil => .nil
  | _, _, .cons a b => by
    rw [List.reverse_cons, List.reverse_cons]
    exact (DpAll.rev b).app (.cons a .nil)
end
end L2
namespace TK
open PySem PySem.Spec PyProof.Rows L2
section
variable {K : PySem.W.Frag} {H : Hp}
/-- its type -/
def tyN : PyData → String
  | .none => "NoneType" | .bool _ => "bool" | .int _ => "int" | .str _ => "str" | .list _ => "list" | .tuple _ => "tuple" | .dict _ => "dict"
theorem tyD : ∀ {v : V} {d : PyData}, Dp K H v d → TyX K H v (.type (tyN d))
  | _, _, .non => .base .non
  | _, _, .bl b => .base (.bl b)
  | _, _, .int i => .base (.int i)
  | _, _, .str x => .base (.str x)
  | _, _, .lst h _ => by
    rcases h with (h | ⟨o, h⟩) | ⟨o, its, n, h1, h2, _⟩
    · exact .base (.lst h)
    · exact .base (.frz h)
    · exact .kList h1 h2
  | _, _, .tup h _ => by
    rcases h with (h | ⟨o, h⟩) | ⟨o, its, n, h1, h2, _⟩
    · exact .base (.tup h)
    · exact .fTuple h
    · exact .kTuple h1 h2
/-- isinstance(x, T), told by kinds -/
theorem isi_D {v : V} {d : PyData} {T : String} {b : Bool} {Q : VK} (h : Dp K H v d) (hk : ∀ K : PySem.W.Frag, PySem.W.kitOne K (.type (tyN d)) (.type T) = some b) (q : Q (.bl b) H) : rIsi K [v, .ty T] H Q :=
  ⟨v, .ty T, _, _, b, rfl, .ty T, tyD h, hk K, q⟩
def isT : PyData → Bool
  | .tuple _ => true
  | _ => false
def isS : PyData → Bool
  | .tuple _ => true
  | .list _ => true
  | _ => false
theorem kit_tup (d : PyData) (hd : ∀ kvs, d ≠ .dict kvs) (K : PySem.W.Frag) : PySem.W.kitOne K (.type (tyN d)) (.type "tuple") = some (isT d) := by
  cases d with
  | none => exact kit_ty (a := "NoneType") (b := "tuple") (r := false) (by decide +kernel)
  | bool b => exact kit_ty (a := "bool") (b := "tuple") (r := false) (by decide +kernel)
  | int i => exact kit_ty (a := "int") (b := "tuple") (r := false) (by decide +kernel)
  | str x => exact kit_ty (a := "str") (b := "tuple") (r := false) (by decide +kernel)
  | list xs => exact kit_ty (a := "list") (b := "tuple") (r := false) (by decide +kernel)
  | tuple xs => exact kit_ty (a := "tuple") (b := "tuple") (r := true) (by decide +kernel)
  | dict kvs => exact absurd rfl (hd kvs)
theorem nodict {v : V} {d : PyData} (h : Dp K H v d) : ∀ kvs, d ≠ .dict kvs := fun kvs e => by
  subst e
  cases h
def wholeD (d : PyData) (lo hi : Int) : Bool := match d with
  | .int n => decide (lo ≤ n) && decide (n ≤ hi)
  | _ => false
def takerD : PyData → Bool
  | .tuple [a, b] => wholeD a 2 1000 && (match a with | .int e => wholeD b 0 (e - 1) | _ => false)
  | _ => false
def rowD : PyData → Bool
  | .tuple ds => decide (ds.length ≤ 8) && ds.all takerD
  | _ => false
end
/-! what a display gives -/
section
variable {K : PySem.W.Frag} {σ : L2.St} {H0 : Hp}
/-- from the heap H0 on (or one that keeps it) the expression gives the data d -/
def Ev (K : PySem.W.Frag) (σ : L2.St) (H0 : Hp) (t : TE) (d : PyData) : Prop := ∀ (H : Hp) (Q : VK), Same H0 H → (∀ v H', Same H H' → Dp K H' v d → Q v H') → t σ H Q
def Evs (K : PySem.W.Frag) (σ : L2.St) (H0 : Hp) (t : TA) (ds : List PyData) : Prop := ∀ (H : Hp) (Q : List V → Hp → Prop), Same H0 H → (∀ vs H', Same H H' → DpAll K H' vs ds → Q vs H') → t σ H Q
theorem evC {v : V} {d : PyData} (h : ∀ H, Dp K H v d) : Ev K σ H0 (tC v) d := fun H Q _ q => q v H (Same.refl _) (h H)
theorem evNon : Ev K σ H0 (tC .non) .none := evC fun _ => .non
theorem evBl {b : Bool} : Ev K σ H0 (tC (.bl b)) (.bool b) := evC fun _ => .bl b
theorem evInt {i : Int} : Ev K σ H0 (tC (.int i)) (.int i) := evC fun _ => .int i
theorem evStr {x : Str} : Ev K σ H0 (tC (.str x)) (.str x) := evC fun _ => .str x
theorem evVar {i : Nat} {v : V} {d : PyData} (hs : σ[i]? = some (some v)) (h : Dp K H0 v d) : Ev K σ H0 (tVar i) d := fun H Q s q => ⟨v, hs, q v H (Same.refl _) (h.same s)⟩
theorem evNeg {i : Int} : Ev K σ H0 (tUn (rU fun i => .int (-i)) (tC (.int i))) (.int (-i)) := fun H Q _ q => ⟨i, rfl, q _ H (Same.refl _) (.int _)⟩
theorem evPow {i j : Int} (h : CPow i j) : Ev K σ H0 (tOp (rI CPow fun i j => .int (i ^ j.toNat)) (tC (.int i)) (tC (.int j))) (.int (i ^ j.toNat)) := fun H Q _ q => ⟨i, j, rfl, rfl, h, q _ H (Same.refl _) (.int _)⟩
theorem evPow1 {i j k : Int} (h : CPow i j) : Ev K σ H0 (tOp (rI0 fun i j => .int (i + j)) (tOp (rI CPow fun i j => .int (i ^ j.toNat)) (tC (.int i)) (tC (.int j))) (tC (.int k))) (.int (i ^ j.toNat + k)) := fun H Q _ q => ⟨i, j, rfl, rfl, h, _, k, rfl, rfl, q _ H (Same.refl _) (.int _)⟩
theorem evNil : Evs K σ H0 tNil [] := fun H Q _ q => q [] H (Same.refl _) .nil
theorem evCons {t : TE} {ts : TA} {d : PyData} {ds : List PyData} (h : Ev K σ H0 t d) (hs : Evs K σ H0 ts ds) : Evs K σ H0 (tCons t ts) (d :: ds) := fun H Q s q =>
  h H _ s fun v H1 s1 d1 => hs H1 _ (s.trans s1) fun vs H2 s2 d2 => q _ H2 (s1.trans s2) (.cons (d1.same s2) d2)
theorem evTup {ts : TA} {ds : List PyData} (h : Evs K σ H0 ts ds) (hl : ds.length ≤ 1000) : Ev K σ H0 (tTup ts) (.tuple ds) := fun H Q s q =>
  h H _ s fun vs H1 s1 d1 => ⟨by rw [d1.len]; exact Nat.le_of_lt (small1000 hl), fun p np => q _ _ (s1.trans (same_new np)) (.tup (st_of upd_same) (d1.same (same_new np)))⟩
theorem evLst {ts : TA} {ds : List PyData} (h : Evs K σ H0 ts ds) (hl : ds.length ≤ 1000) : Ev K σ H0 (tLst ts) (.list ds) := fun H Q s q =>
  h H _ s fun vs H1 s1 d1 => ⟨by rw [d1.len]; exact Nat.le_of_lt (small1000 hl), fun p np => q _ _ (s1.trans (same_new np)) (.lst (sq_of upd_same) (d1.same (same_new np)))⟩
end
/-- a display of a list, and where it stands -/
theorem lst_use {K : PySem.W.Frag} {σ : L2.St} {H : Hp} {Q : VK} {ts : TA} {ds : List PyData} (h : Evs K σ H ts ds) (hl : ds.length ≤ 1000)
    (q : ∀ p vs H', Same H H' → H p = none → H' p = some (.lst vs) → DpAll K H' vs ds → Q (.ref p) H') : tLst ts σ H Q :=
  h H _ (Same.refl _) fun vs H1 s1 d1 => ⟨by rw [d1.len]; exact Nat.le_of_lt (small1000 hl), fun p np => q p vs _ (s1.trans (same_new np)) (s1.free np) upd_same (d1.same (same_new np))⟩
theorem asg_lst {ta : TA} {u : TS} {D : Ends} {σ : L2.St} {H : Hp} {i : Nat} (h : tLst ta σ H (fun x H1 => u D (σ.set i (some x)) H1)) : tSeq (tAsg (tLst ta) (gName i)) u D σ H := h
theorem asg_cat {ta : TA} {u : TS} {D : Ends} {σ : L2.St} {H : Hp} {i j : Nat} {l : Addr} (hv : σ[i]? = some (some (.ref l))) (h : tLst ta σ H (fun y H2 => rCat (.ref l) y H2 (fun x H1 => u D (σ.set j (some x)) H1))) :
    tSeq (tAsg (tOp rCat (tVar i) (tLst ta)) (gName j)) u D σ H := ⟨_, hv, h⟩
/-- two ways that come together -/
theorem seq_join {t u : TS} {D : Ends} {σ : L2.St} {H : Hp} (J : L2.St → Hp → Prop) (ht : ∀ D' : Ends, (∀ σ H, J σ H → D'.nx σ H) → t D' σ H) (hu : ∀ σ H, J σ H → u D σ H) : tSeq t u D σ H := ht _ hu
/-- not deeper than n, no list or tuple longer than w -/
def Sm (w : Nat) : Nat → PyData → Prop
  | _, .none => True
  | _, .bool _ => True
  | _, .int _ => True
  | _, .str _ => True
  | _, .dict _ => False
  | 0, .list _ => False
  | 0, .tuple _ => False
  | n + 1, .list xs => xs.length ≤ w ∧ ∀ x ∈ xs, Sm w n x
  | n + 1, .tuple xs => xs.length ≤ w ∧ ∀ x ∈ xs, Sm w n x
theorem Sm.mono {w w' : Nat} (hw : w ≤ w') : ∀ {n n' : Nat} {d : PyData}, n ≤ n' → Sm w n d → Sm w' n' d
  | n, n', .none, _, _ => by cases n' <;> trivial
  | n, n', .bool _, _, _ => by cases n' <;> trivial
  | n, n', .int _, _, _ => by cases n' <;> trivial
  | n, n', .str _, _, _ => by cases n' <;> trivial
  | n, n', .dict _, _, h => by cases n <;> exact h.elim
  | 0, _, .list _, _, h => h.elim
  | 0, _, .tuple _, _, h => h.elim
  | n + 1, n' + 1, .list xs, hn, h => ⟨Nat.le_trans h.1 hw, fun x hx => Sm.mono hw (Nat.le_of_succ_le_succ hn) (h.2 x hx)⟩
  | n + 1, n' + 1, .tuple xs, hn, h => ⟨Nat.le_trans h.1 hw, fun x hx => Sm.mono hw (Nat.le_of_succ_le_succ hn) (h.2 x hx)⟩
  | n + 1, 0, .list _, hn, _ => by omega
  | n + 1, 0, .tuple _, hn, _ => by omega
def smB (w : Nat) : Nat → PyData → Bool
  | _, .none => true
  | _, .bool _ => true
  | _, .int _ => true
  | _, .str _ => true
  | _, .dict _ => false
  | 0, .list _ => false
  | 0, .tuple _ => false
  | n + 1, .list xs => decide (xs.length ≤ w) && xs.all (smB w n)
  | n + 1, .tuple xs => decide (xs.length ≤ w) && xs.all (smB w n)
theorem sm_of {w : Nat} : ∀ {n : Nat} {d : PyData}, smB w n d = true → Sm w n d
  | n, .none, _ => by cases n <;> trivial
  | n, .bool _, _ => by cases n <;> trivial
  | n, .int _, _ => by cases n <;> trivial
  | n, .str _, _ => by cases n <;> trivial
  | 0, .dict _, h => by cases h
  | n + 1, .dict _, h => by cases h
  | 0, .list _, h => by cases h
  | 0, .tuple _, h => by cases h
  | n + 1, .list xs, h => by
    have h : (decide (xs.length ≤ w) && xs.all (smB w n)) = true := h
    rw [Bool.and_eq_true, List.all_eq_true] at h
    exact ⟨of_decide_eq_true h.1, fun x hx => sm_of (h.2 x hx)⟩
  | n + 1, .tuple xs, h => by
    have h : (decide (xs.length ≤ w) && xs.all (smB w n)) = true := h
    rw [Bool.and_eq_true, List.all_eq_true] at h
    exact ⟨of_decide_eq_true h.1, fun x hx => sm_of (h.2 x hx)⟩
theorem txt_ne {b : Bool} {H : Hp} {Q : VK} (q : Q (.bl false) H) : rNe (.str (txt b)) (.str (txt b)) H Q := by
  refine ⟨rfl, ?_⟩
  rw [decide_eq_true rfl]
  exact q
end TK

set_option maxRecDepth 100000
/-! data that stands in the tracked heap alone; some of it hidden -/
namespace TK
open PySem PySem.Spec PyProof.Rows L2
mutual
inductive DT (H : Hp) : V → PyData → Prop
  | non : DT H .non .none
  | bl (b : Bool) : DT H (.bl b) (.bool b)
  | int (i : Int) : DT H (.int i) (.int i)
  | str (x : Str) : DT H (.str x) (.str x)
  | lst {a : Addr} {xs : List V} {ds : List PyData} : H a = some (.lst xs) → DTs H xs ds → DT H (.ref a) (.list ds)
  | tup {a : Addr} {xs : List V} {ds : List PyData} : H a = some (.tup xs) → DTs H xs ds → DT H (.ref a) (.tuple ds)
inductive DTs (H : Hp) : List V → List PyData → Prop
  | nil : DTs H [] []
  | cons {v : V} {vs : List V} {d : PyData} {ds : List PyData} : DT H v d → DTs H vs ds → DTs H (v :: vs) (d :: ds)
end
mutual
theorem DT.dp {K : PySem.W.Frag} {H : Hp} : ∀ {v : V} {d : PyData}, DT H v d → Dp K H v d
  | _, _, .non => .non
  | _, _, .bl b => .bl b
  | _, _, .int i => .int i
  | _, _, .str x => .str x
  | _, _, .lst h a => .lst (sq_of h) (DTs.dp a)
  | _, _, .tup h a => .tup (st_of h) (DTs.dp a)
theorem DTs.dp {K : PySem.W.Frag} {H : Hp} : ∀ {vs : List V} {ds : List PyData}, DTs H vs ds → DpAll K H vs ds
  | _, _, .nil => .nil
  | _, _, .cons a b => .cons (DT.dp a) (DTs.dp b)
end
mutual
theorem DT.same {H H' : Hp} (e : Same H H') : ∀ {v : V} {d : PyData}, DT H v d → DT H' v d
  | _, _, .non => .non
  | _, _, .bl b => .bl b
  | _, _, .int i => .int i
  | _, _, .str x => .str x
  | _, _, .lst h a => .lst (e _ _ h) (DTs.same e a)
  | _, _, .tup h a => .tup (e _ _ h) (DTs.same e a)
theorem DTs.same {H H' : Hp} (e : Same H H') : ∀ {vs : List V} {ds : List PyData}, DTs H vs ds → DTs H' vs ds
  | _, _, .nil => .nil
  | _, _, .cons a b => .cons (DT.same e a) (DTs.same e b)
end
section
variable {H : Hp}
theorem DTs.len : ∀ {vs : List V} {ds : List PyData}, DTs H vs ds → vs.length = ds.length
  | _, _, .nil => rfl
  | _, _, .cons _ b => by simp [DTs.len b]
theorem DTs.get : ∀ {vs : List V} {ds : List PyData}, DTs H vs ds → ∀ {i : Nat} {v : V}, vs[i]? = some v → ∃ d, ds[i]? = some d ∧ DT H v d
  | _, _, .nil, _, _, h => by cases h
  | _, _, .cons a b, 0, v, h => by cases h; exact ⟨_, rfl, a⟩
  | _, _, .cons a b, i + 1, v, h => by
    obtain ⟨d, h1, h2⟩ := DTs.get b (i := i) (v := v) (by simpa using h)
    exact ⟨d, by simpa using h1, h2⟩
theorem DTs.at : ∀ {vs : List V} {ds : List PyData}, DTs H vs ds → ∀ {i : Nat} {v : V} {d : PyData}, vs[i]? = some v → ds[i]? = some d → DT H v d
  | _, _, h, i, v, d, h1, h2 => by
    obtain ⟨d', h3, h4⟩ := h.get h1
    rw [h2] at h3
    cases h3
    exact h4
theorem DTs.app : ∀ {vs ws : List V} {ds es : List PyData}, DTs H vs ds → DTs H ws es → DTs H (vs ++ ws) (ds ++ es)
  | _, _, _, _, .nil, h => h
  | _, _, _, _, .cons a b, h => .cons a (DTs.app b h)
theorem DTs.take : ∀ {vs : List V} {ds : List PyData} (n : Nat), DTs H vs ds → DTs H (vs.take n) (ds.take n)
  | _, _, 0, _ => by rw [List.take_zero, List.take_zero]; exact .nil
  | _, _, _ + 1, .nil => .nil
  | _, _, n + 1, .cons a b => .cons a (DTs.take n b)
theorem DTs.drop : ∀ {vs : List V} {ds : List PyData} (n : Nat), DTs H vs ds → DTs H (vs.drop n) (ds.drop n)
  | _, _, 0, h => h
  | _, _, _ + 1, .nil => .nil
  | _, _, n + 1, .cons _ b => DTs.drop n b
theorem DTs.set : ∀ {vs : List V} {ds : List PyData} {v : V} {d : PyData} (n : Nat), DTs H vs ds → DT H v d → DTs H (vs.set n v) (ds.set n d)
  | _, _, _, _, _, .nil, _ => .nil
  | _, _, _, _, 0, .cons _ b, h => .cons h b
  | _, _, _, _, n + 1, .cons a b, h => .cons a (DTs.set n b h)
theorem DTs.rev : ∀ {vs : List V} {ds : List PyData}, DTs H vs ds → DTs H vs.reverse ds.reverse
  | _, _, .nil => .nil
  | _, _, .cons a b => by
    rw [List.reverse_cons, List.reverse_cons]
    exact (DTs.rev b).app (.cons a .nil)
end
/-- the heap with some of it out of sight -/
noncomputable def hide (X : Addr → Prop) (H : Hp) : Hp := fun b => @ite _ (X b) (Classical.propDecidable _) none (H b)
section
variable {X : Addr → Prop} {H H' : Hp}
theorem hide_at {b : Addr} (h : ¬ X b) : hide X H b = H b := by unfold hide; rw [if_neg h]
theorem hide_no {b : Addr} (h : X b) : hide X H b = none := by unfold hide; rw [if_pos h]
theorem hide_some {b : Addr} {o : HO} (h : hide X H b = some o) : ¬ X b ∧ H b = some o := by
  by_cases hx : X b
  · rw [hide_no hx] at h
    cases h
  · rw [hide_at hx] at h
    exact ⟨hx, h⟩
theorem hide_sub : Same (hide X H) H := fun b o h => (hide_some h).2
theorem hide_same (s : Same H H') : Same (hide X H) (hide X H') := fun b o h => by
  obtain ⟨h1, h2⟩ := hide_some h
  rw [hide_at h1]
  exact s b o h2
theorem hide_none (hx : ∀ b, ¬ X b) : hide X H = H := funext fun b => hide_at (hx b)
/-- out of sight only what stands -/
def InH (X : Addr → Prop) (H : Hp) : Prop := ∀ b, X b → H b ≠ none
theorem InH.new {p : Addr} (h : InH X H) (np : H p = none) : ¬ X p := fun hx => h p hx np
theorem InH.same (h : InH X H) (s : Same H H') : InH X H' := fun b hx hn => by
  cases q : H b with
  | none => exact h b hx q
  | some o => rw [s b o q] at hn; cases hn
end
/-- seen from H on: whatever was out of sight at H, d is told all the same -/
def New (H H' : Hp) (v : V) (d : PyData) : Prop := ∀ X, InH X H → DT (hide X H') v d
def News (H H' : Hp) (vs : List V) (ds : List PyData) : Prop := ∀ X, InH X H → DTs (hide X H') vs ds
theorem New.dt {H H' : Hp} {v : V} {d : PyData} (h : New H H' v d) : DT H' v d := by
  have := h (fun _ => False) (fun b hb => hb.elim)
  rwa [hide_none (fun b hb => hb)] at this
theorem News.dt {H H' : Hp} {vs : List V} {ds : List PyData} (h : News H H' vs ds) : DTs H' vs ds := by
  have := h (fun _ => False) (fun b hb => hb.elim)
  rwa [hide_none (fun b hb => hb)] at this
section
variable {σ : L2.St}
def Ef (σ : L2.St) (t : TE) (d : PyData) : Prop := ∀ (H : Hp) (Q : VK), (∀ v H', Same H H' → New H H' v d → Q v H') → t σ H Q
def Efs (σ : L2.St) (t : TA) (ds : List PyData) : Prop := ∀ (H : Hp) (Q : List V → Hp → Prop), (∀ vs H', Same H H' → News H H' vs ds → Q vs H') → t σ H Q
theorem efC {v : V} {d : PyData} (h : ∀ H, DT H v d) : Ef σ (tC v) d := fun H Q q => q v H (Same.refl _) fun X _ => h _
theorem efNon : Ef σ (tC .non) .none := efC fun _ => .non
theorem efBl {b : Bool} : Ef σ (tC (.bl b)) (.bool b) := efC fun _ => .bl b
theorem efInt {i : Int} : Ef σ (tC (.int i)) (.int i) := efC fun _ => .int i
theorem efStr {x : Str} : Ef σ (tC (.str x)) (.str x) := efC fun _ => .str x
theorem efNeg {i : Int} : Ef σ (tUn (rU fun i => .int (-i)) (tC (.int i))) (.int (-i)) := fun H Q q => ⟨i, rfl, q _ H (Same.refl _) fun X _ => .int _⟩
theorem efPow {i j : Int} (h : CPow i j) : Ef σ (tOp (rI CPow fun i j => .int (i ^ j.toNat)) (tC (.int i)) (tC (.int j))) (.int (i ^ j.toNat)) := fun H Q q => ⟨i, j, rfl, rfl, h, q _ H (Same.refl _) fun X _ => .int _⟩
theorem efPow1 {i j k : Int} (h : CPow i j) : Ef σ (tOp (rI0 fun i j => .int (i + j)) (tOp (rI CPow fun i j => .int (i ^ j.toNat)) (tC (.int i)) (tC (.int j))) (tC (.int k))) (.int (i ^ j.toNat + k)) := fun H Q q => ⟨i, j, rfl, rfl, h, _, k, rfl, rfl, q _ H (Same.refl _) fun X _ => .int _⟩
theorem efNil : Efs σ tNil [] := fun H Q q => q [] H (Same.refl _) fun X _ => .nil
theorem efCons {t : TE} {ts : TA} {d : PyData} {ds : List PyData} (h : Ef σ t d) (hs : Efs σ ts ds) : Efs σ (tCons t ts) (d :: ds) := fun H Q q =>
  h H _ fun v H1 s1 d1 => hs H1 _ fun vs H2 s2 d2 => q _ H2 (s1.trans s2) fun X hX => .cons ((d1 X hX).same (hide_same s2)) (d2 X (hX.same s1))
theorem hide_new {X : Addr → Prop} {H : Hp} {p : Addr} {o : HO} (h : ¬ X p) : hide X (upd H p o) p = some o := by rw [hide_at h, upd_same]
theorem efTup {ts : TA} {ds : List PyData} (h : Efs σ ts ds) (hl : ds.length ≤ 1000) : Ef σ (tTup ts) (.tuple ds) := fun H Q q =>
  h H _ fun vs H1 s1 d1 => ⟨by rw [d1.dt.len]; exact Nat.le_of_lt (small1000 hl), fun p np => q _ _ (s1.trans (same_new np)) fun X hX => .tup (hide_new ((hX.same s1).new np)) ((d1 X hX).same (hide_same (same_new np)))⟩
theorem efLst {ts : TA} {ds : List PyData} (h : Efs σ ts ds) (hl : ds.length ≤ 1000) : Ef σ (tLst ts) (.list ds) := fun H Q q =>
  h H _ fun vs H1 s1 d1 => ⟨by rw [d1.dt.len]; exact Nat.le_of_lt (small1000 hl), fun p np => q _ _ (s1.trans (same_new np)) fun X hX => .lst (hide_new ((hX.same s1).new np)) ((d1 X hX).same (hide_same (same_new np)))⟩
theorem lst_new {H : Hp} {Q : VK} {ts : TA} {ds : List PyData} (h : Efs σ ts ds) (hl : ds.length ≤ 1000)
    (q : ∀ p vs H', Same H H' → H p = none → H' p = some (.lst vs) → News H H' vs ds → Q (.ref p) H') : tLst ts σ H Q :=
  h H _ fun vs H1 s1 d1 => ⟨by rw [d1.dt.len]; exact Nat.le_of_lt (small1000 hl), fun p np => q p vs _ (s1.trans (same_new np)) (s1.free np) upd_same fun X hX => (d1 X hX).same (hide_same (same_new np))⟩
end
end TK

set_option maxRecDepth 100000
set_option maxHeartbeats 2000000
/-! zip over a tuple and a list, as a rule of the layer -/
namespace TK
open PySem PySem.Spec PyProof.Rows L2
def zm1 (t : Addr) : Obj := { cls := .type "tuple_iterator", data := .fields #[.ref t, .int 0 0] }
def zm2 (l : Addr) : Obj := { cls := .type "list_iterator", data := .fields #[.ref l, .int 0 0] }
def zm3 (n : Nat) : Obj := { cls := .type "tuple", data := .seq #[.ref n, .ref (n + 1)] }
def zm4 : Obj := { cls := .type "tuple", data := .seq #[.none, .none] }
def zm5 (n : Nat) : Obj := { cls := .type "zip", data := .fields #[.none, .bool false, .bool false, .ref (n + 2), .ref (n + 3)] }
def zmAll (h : Heap) (t l : Addr) : Heap := ((((h.push (zm1 t)).push (zm2 l)).push (zm3 h.objs.size)).push zm4).push (zm5 h.objs.size)
theorem newZipM (t l : Addr) (xs ys : Array Value) :
    Meets (Builtin.«zip.__new__» ⟨[.type "zip", .ref t, .ref l], []⟩) (fun _ R s => s.heap.IsTuple t xs ∧ s.heap.IsList l ys ∧
      R (.ok (.ret (.ref (s.heap.objs.size + 4)))) { s with heap := zmAll s.heap t l }) :=
  .of_wp fun prog w A R s hyp => by
    obtain ⟨hp, g, d, tk, os⟩ := s
    obtain ⟨h1, h2, hR⟩ := hyp
    have hsub := sub_zip
    have k1 : Heap.IsTuple (Shared.heap ⟨hp, g, d, tk, os⟩) t xs := h1
    have k2 : Heap.IsList (Shared.heap ⟨hp.push { cls := .type "tuple_iterator", data := .fields #[.ref t, .int 0 0] }, g, d, tk, os⟩) l ys := by
      obtain ⟨o, ho, r⟩ := h2
      exact ⟨o, Heap.get?_push_of_some _ ho, r⟩
    wp_walk using wpAny_pyIter_tuple k1, wpAny_pyIter_list k2
    refine ⟨_, rfl, ?_⟩
    simp only [Heap.size_push] at hR ⊢
    exact hR
section
variable {prog : Program} {w : World} {A : Around} {E : Value → Shared → Prop} {s : Shared}
theorem callZipM {t l : Addr} {xs ys : Array Value} {Q : Value → Shared → Prop} (h1 : s.heap.IsTuple t xs) (h2 : s.heap.IsList l ys)
    (k : ∀ h', IsZip h' (s.heap.objs.size + 4) (s.heap.objs.size + 2) (s.heap.objs.size + 3) .none → IsTupOf2 h' (s.heap.objs.size + 2) (.ref s.heap.objs.size) (.ref (s.heap.objs.size + 1)) →
      IsTupOf2 h' (s.heap.objs.size + 3) .none .none → h'.IsTupleIter s.heap.objs.size t 0 → h'.IsListIter (s.heap.objs.size + 1) l 0 →
      (∀ c o, s.heap.get? c = some o → h'.get? c = some o) → Q (.ref (s.heap.objs.size + 4)) { s with heap := h' }) :
    wpAny (model prog w) A (call (.type "zip") [.ref t, .ref l]) Q E s := by
  refine callType_new F.called_zip (by decide) (F.typeCall_zip_2 _ _) (F.newCall_zip_2 _ _) (fun obj => F.args_object_init_3 obj _ _) F.entry_zip_new
    (newZipM t l xs ys) ⟨h1, h2, ?_⟩
  have z1 : (s.heap.push (zm1 t)).objs.size = s.heap.objs.size + 1 := Heap.size_push ..
  have z2 : ((s.heap.push (zm1 t)).push (zm2 l)).objs.size = s.heap.objs.size + 2 := by rw [Heap.size_push, z1]
  have z3 : (((s.heap.push (zm1 t)).push (zm2 l)).push (zm3 s.heap.objs.size)).objs.size = s.heap.objs.size + 3 := by rw [Heap.size_push, z2]
  have z4 : ((((s.heap.push (zm1 t)).push (zm2 l)).push (zm3 s.heap.objs.size)).push zm4).objs.size = s.heap.objs.size + 4 := by rw [Heap.size_push, z3]
  have g1 : (s.heap.push (zm1 t)).get? s.heap.objs.size = some (zm1 t) := Heap.get?_push_size _ rfl
  have g2 : ((s.heap.push (zm1 t)).push (zm2 l)).get? (s.heap.objs.size + 1) = some (zm2 l) := by
    rw [← z1]
    exact Heap.get?_push_size _ rfl
  have g3 : (((s.heap.push (zm1 t)).push (zm2 l)).push (zm3 s.heap.objs.size)).get? (s.heap.objs.size + 2) = some (zm3 s.heap.objs.size) := by
    rw [← z2]
    exact Heap.get?_push_size _ rfl
  have g4 : ((((s.heap.push (zm1 t)).push (zm2 l)).push (zm3 s.heap.objs.size)).push zm4).get? (s.heap.objs.size + 3) = some zm4 := by
    rw [← z3]
    exact Heap.get?_push_size _ rfl
  have g5 : (zmAll s.heap t l).get? (s.heap.objs.size + 4) = some (zm5 s.heap.objs.size) := by
    rw [← z4]
    exact Heap.get?_push_size _ rfl
  show _ ∧ _
  exact ⟨⟨_, g5, rfl⟩, k _ g5 (Heap.get?_push_of_some _ (Heap.get?_push_of_some _ g3)) (Heap.get?_push_of_some _ g4)
    ⟨_, Heap.get?_push_of_some _ (Heap.get?_push_of_some _ (Heap.get?_push_of_some _ (Heap.get?_push_of_some _ g1))), rfl, rfl⟩ ⟨_, Heap.get?_push_of_some _ (Heap.get?_push_of_some _ (Heap.get?_push_of_some _ g2)), rfl, rfl⟩
    fun c o x => Heap.get?_push_of_some _ (Heap.get?_push_of_some _ (Heap.get?_push_of_some _ (Heap.get?_push_of_some _ (Heap.get?_push_of_some _ x))))⟩
end
/-- the tuple at a and the list at b, the items in new pairs -/
def ItZm (K : PySem.W.Frag) (a b : Addr) : It where
  go := fun i H => ∃ (xs ys : List V) (x y : V), SqT K H a xs ∧ SqL K H b ys ∧ xs[i]? = some x ∧ ys[i]? = some y
  yld := fun i H v H' => ∃ T x y, v = .ref T ∧ H T = none ∧ H' = upd H T (.tup [x, y]) ∧ (∀ xs, SqT K H a xs → xs[i]? = some x) ∧ ∀ ys, SqL K H b ys → ys[i]? = some y
  stop := fun i H => ∃ xs ys : List V, SqT K H a xs ∧ SqL K H b ys ∧ i ≤ xs.length ∧ i ≤ ys.length ∧ (i = xs.length ∨ i = ys.length)
theorem turn_zipM {P : Program} {w : World} {K : PySem.W.Frag} {elts : List Expr} {kk : Nat} {tpos : Pos} {a b z TI TO i1 i2 : Addr} (S : ZipSep2 z TI TO i1 i2 [i1, a] [i2, b]) :
    Turn P w K (.Tuple elts kk tpos) (ItZm K a b) [z, TI, TO, i1, i2] z (fun i h => IsZip h z TI TO .none ∧ IsTupOf2 h TI (.ref i1) (.ref i2) ∧ (∃ x y, IsTupOf2 h TO x y) ∧ h.IsTupleIter i1 a i ∧ h.IsListIter i2 b i) where
  mem := by simp
  obj := fun i h st c hc => by
    obtain ⟨hz, hTI, ⟨x, y, hTO⟩, ⟨o1, e1, _, d1⟩, ⟨o2, e2, _, d2⟩⟩ := st
    have e' : c = z ∨ c = TI ∨ c = TO ∨ c = i1 ∨ c = i2 := by simpa using hc
    rcases e' with rfl | rfl | rfl | rfl | rfl
    · exact ⟨_, hz, fun v q => nomatch q⟩
    · exact ⟨_, hTI, fun v q => nomatch q⟩
    · exact ⟨_, hTO, fun v q => nomatch q⟩
    · exact ⟨o1, e1, fun v q => by rw [d1] at q; cases q⟩
    · exact ⟨o2, e2, fun v q => by rw [d2] at q; cases q⟩
  keep := fun i h h' st k => by
    obtain ⟨hz, hTI, ⟨x, y, hTO⟩, h1, h2⟩ := st
    exact ⟨k z (by simp) _ hz, k TI (by simp) _ hTI, ⟨x, y, k TO (by simp) _ hTO⟩, h1.at fun o q => k i1 (by simp) o q, h2.at fun o q => k i2 (by simp) o q⟩
  item := by
    intro X hP hw hK hc i pins s σ H E I hf st hg
    subst hP hw hK
    obtain ⟨hz, hTI, ⟨x0, y0, hTO⟩, h1, h2⟩ := st
    obtain ⟨xs, ys, x, y, hqx, hqy, hx, hy⟩ := hg
    obtain ⟨its, rv, p, _⟩ := I.tuple hqx
    obtain ⟨its2, rv2, p2, _⟩ := I.list hqy
    obtain ⟨u, hu, ru⟩ := rv.get hx
    obtain ⟨u2, hu2, ru2⟩ := rv2.get hy
    have hzl : z < s.heap.objs.size := Heap.lt_size hz
    have hh : X.A.in1.handled = none := I.ok.hd hc
    have na : a ≠ i1 := fun e => by
      obtain ⟨o, ho, c1, _⟩ := h1
      obtain ⟨o', ho', c2, _⟩ := p
      rw [e, ho] at ho'
      cases ho'
      rw [c1] at c2
      exact absurd c2 (by decide)
    have nb : b ≠ i2 := fun e => by
      obtain ⟨o, ho, c1, _⟩ := h2
      obtain ⟨o', ho', c2, _⟩ := p2.isList
      rw [e, ho] at ho'
      cases ho'
      rw [c1] at c2
      exact absurd c2 (by decide)
    refine wpAny_pyNext_zipD2_item S (Draws.tuple hh i1 a na its.toArray) (Draws.list hh i2 b nb its2.toArray) hz hTI hTO ⟨h1, p⟩ ⟨h2, p2.isList⟩ (by simpa using (List.getElem?_eq_some_iff.mp hu).1) (by simpa using (List.getElem?_eq_some_iff.mp hu2).1) fun x1 x2 h' tk q1 q2 z' TO' h1' h2' hT hsz hk => ?_
    have e1 : x1 = u := by
      have q : its[i]? = some x1 := by simpa using q1
      exact Option.some.inj (q.symm.trans hu)
    have e2 : x2 = u2 := by
      have q : its2[i]? = some x2 := by simpa using q2
      exact Option.some.inj (q.symm.trans hu2)
    subst e1 e2
    refine ⟨_, rfl, wpAny_letOwnedTupleGo_zip (s := { s with heap := h', toks := tk }) z' fun h'' z'' sb => ?_⟩
    have hT2 : h''.get? s.heap.objs.size = some { cls := .type "tuple", data := .seq #[x1, x2] } := (sb.2 _ (Nat.ne_of_gt hzl)).trans hT
    have new : ObjOk X.prog X.w (upd H s.heap.objs.size (.tup [x, y])) h'' s.heap.objs.size (.tup [x, y]) :=
      ⟨by show 2 ≤ sizeLine; decide, [x1, x2], .cons ru (.cons ru2 .nil), ⟨_, hT2, rfl, _, rfl⟩⟩
    have I1 : Inv X pins σ (upd H s.heap.objs.size (.tup [x, y])) { s with heap := h'', toks := tk } :=
      I.turnedNew (ch := [z, TI, TO, i1, i2]) (fun c o hb q => (sb.2 c (fun q' => hb (by simp [q']))).trans (hk c o (fun q' => hb (by simp [q'])) (fun q' => hb (by simp [q'])) (fun q' => hb (by simp [q'])) (fun q' => hb (by simp [q'])) q)) hf (Nat.le_refl _) new
    refine ⟨.ref s.heap.objs.size, _, I1, rfl, ⟨_, x, y, rfl, I.hok.fresh (Nat.le_refl _), rfl, fun l hl => by rw [I.tuple_inj hl hqx]; exact hx, fun l hl => by rw [I.list_inj hl hqy]; exact hy⟩, ⟨z'', ?_, ⟨x1, x2, ?_⟩, ?_, ?_⟩, fun c hcm => ?_⟩
    · exact (sb.2 _ S.TIz).trans (hk _ _ S.TIz S.TITO S.TIi1 S.TIi2 hTI)
    · exact (sb.2 _ S.TOz).trans TO'
    · exact h1'.1.at fun o q => (sb.2 _ (Ne.symm S.zi1)).trans q
    · exact h2'.1.at fun o q => (sb.2 _ (Ne.symm S.zi2)).trans q
    · have hlt : c < s.heap.objs.size := by
        have e' : c = z ∨ c = TI ∨ c = TO ∨ c = i1 ∨ c = i2 := by simpa using hcm
        rcases e' with rfl | rfl | rfl | rfl | rfl
        · exact hzl
        · exact Heap.lt_size hTI
        · exact Heap.lt_size hTO
        · obtain ⟨_, e1, _⟩ := h1; exact Heap.lt_size e1
        · obtain ⟨_, e2, _⟩ := h2; exact Heap.lt_size e2
      rw [upd_ne (Nat.ne_of_lt hlt)]
      exact (hf c hcm).1
  done := by
    intro X hP hw hK hc i pins s σ H E I hf st hg
    subst hP hw hK
    obtain ⟨hz, hTI, ⟨x0, y0, hTO⟩, h1, h2⟩ := st
    obtain ⟨xs, ys, hqx, hqy, hi1, hi2, hend⟩ := hg
    obtain ⟨its, rv, p, _⟩ := I.tuple hqx
    obtain ⟨its2, rv2, p2, _⟩ := I.list hqy
    have l1 := rv.length
    have l2 := rv2.length
    have hh : X.A.in1.handled = none := I.ok.hd hc
    have na : a ≠ i1 := fun e => by
      obtain ⟨o, ho, c1, _⟩ := h1
      obtain ⟨o', ho', c2, _⟩ := p
      rw [e, ho] at ho'
      cases ho'
      rw [c1] at c2
      exact absurd c2 (by decide)
    have nb : b ≠ i2 := fun e => by
      obtain ⟨o, ho, c1, _⟩ := h2
      obtain ⟨o', ho', c2, _⟩ := p2.isList
      rw [e, ho] at ho'
      cases ho'
      rw [c1] at c2
      exact absurd c2 (by decide)
    exact wpAny_pyNext_zipD2_end S (Draws.tuple hh i1 a na its.toArray) (Draws.list hh i2 b nb its2.toArray) hz hTI hTO ⟨h1, p⟩ ⟨h2, p2.isList⟩ (by simp; omega) (by simp; omega) (by simp; omega) fun h' tk hk => ⟨rfl, I.turnedL (ch := [z, TI, TO, i1, i2]) (fun c o hb q =>
      hk c o (fun q' => hb (by simp [q'])) (fun q' => hb (by simp [q'])) (fun q' => hb (by simp [q'])) (fun q' => hb (by simp [q'])) q) hf⟩
  self := fun A i s Q E st h => wpAny_pyIter_zip st.1 h
theorem sepM {n a b : Nat} (la : a < n) (lb : b < n) : ZipSep2 (n + 4) (n + 2) (n + 3) n (n + 1) [n, a] [n + 1, b] where
  TIz := by show ¬ (n + 2 : Nat) = n + 4; omega
  TOz := by show ¬ (n + 3 : Nat) = n + 4; omega
  TITO := by show ¬ (n + 2 : Nat) = n + 3; omega
  TIi1 := by show ¬ (n + 2 : Nat) = n; omega
  mem1 := List.mem_cons_self
  zf1 := fun h => by rcases (show (n + 4 : Nat) = n ∨ (n + 4 : Nat) = a by simpa using h) with z | z <;> omega
  Tf1 := fun h => by rcases (show (n + 3 : Nat) = n ∨ (n + 3 : Nat) = a by simpa using h) with z | z <;> omega
  TIi2 := by show ¬ (n + 2 : Nat) = n + 1; omega
  mem2 := List.mem_cons_self
  zf2 := fun h => by rcases (show (n + 4 : Nat) = n + 1 ∨ (n + 4 : Nat) = b by simpa using h) with z | z <;> omega
  Tf2 := fun h => by rcases (show (n + 3 : Nat) = n + 1 ∨ (n + 3 : Nat) = b by simpa using h) with z | z <;> omega
  sep1_2 := fun h => by rcases (show (n : Nat) = n + 1 ∨ (n : Nat) = b by simpa using h) with z | z <;> omega
  sep2_1 := fun h => by rcases (show (n + 1 : Nat) = n ∨ (n + 1 : Nat) = a by simpa using h) with z | z <;> omega
def iZipM (K : PySem.W.Frag) (ta : TA) : TI := fun σ H R => ta σ H fun vs H1 => ∃ a b xs ys, vs = [.ref a, .ref b] ∧ SqT K H1 a xs ∧ SqL K H1 b ys ∧ R (ItZm K a b) H1
theorem pi_zipM {X : Cx} {e e2 : Expr} {ta : TA} {p pos tpos : Pos} {elts : List Expr} {kk : Nat} (hg : Gl X "zip") (hm : X.mg "zip" = none) (ha : PA X [e, e2] ta)
    (hs : starEach [e, e2] X.env = (false, eval e X.env) :: starEach [e2] X.env := by rfl) (hpl : (backTo pos (starEach [e2] X.env)).any (·.1) = false := by rfl) :
    PI X (.Tuple elts kk tpos) (.Call (.Name "zip" p) [e, e2] [] pos) (iZipM X.K ta) := by
  refine ⟨fun pins s σ H R I h => ?_⟩
  refine Call_ (ld_blt I hg hm PyProof.Rows.boot_zip (PyProof.Rows.callWith_type1 (thn (ha.run pos pins s σ H _ I h) fun us s1 ⟨vs, H1, I1, r1, q1⟩ => ?_) hs hpl))
  obtain ⟨a, b, xs, ys, ex, hqx, hqy, q⟩ := q1
  subst ex
  cases r1 with
  | cons r rr =>
    cases rr with
    | cons r' rr =>
      cases rr
      cases r
      cases r'
      obtain ⟨its, rv, p1, _⟩ := I1.tuple hqx
      obtain ⟨its2, rv2, p2, _⟩ := I1.list hqy
      have la : a < s1.heap.objs.size := by
        obtain ⟨o, ho, _⟩ := p1
        exact Heap.lt_size ho
      have lb : b < s1.heap.objs.size := p2.lt
      refine callZipM p1 p2.isList fun h' hz hTI hTO h1 h2 hk => wpAny_pyIter_zip hz ?_
      have I2 : Inv X pins σ H1 { s1 with heap := h' } := I1.kept (t' := s1.toks) hk
      have S : ZipSep2 (s1.heap.objs.size + 4) (s1.heap.objs.size + 2) (s1.heap.objs.size + 3) s1.heap.objs.size (s1.heap.objs.size + 1) [s1.heap.objs.size, a] [s1.heap.objs.size + 1, b] := sepM la lb
      refine ⟨s1.heap.objs.size + 4, [s1.heap.objs.size + 4, s1.heap.objs.size + 2, s1.heap.objs.size + 3, s1.heap.objs.size, s1.heap.objs.size + 1], _, _, H1, rfl, I2, turn_zipM S, ⟨hz, hTI, ⟨_, _, hTO⟩, h1, h2⟩, fun c hcm => ?_, q⟩
      have e' : c = s1.heap.objs.size + 4 ∨ c = s1.heap.objs.size + 2 ∨ c = s1.heap.objs.size + 3 ∨ c = s1.heap.objs.size ∨ c = s1.heap.objs.size + 1 := by simpa using hcm
      have hle : s1.heap.objs.size ≤ c := by
        rcases e' with z | z | z | z | z <;> rw [z]
        · exact Nat.le_add_right _ _
        · exact Nat.le_add_right _ _
        · exact Nat.le_add_right _ _
        · exact Nat.le_refl _
        · exact Nat.le_add_right _ _
      exact I1.fpOk hle (I1.hok.fresh hle)
theorem walk_zipM {K : PySem.W.Frag} {a b : Addr} {xs ys : List V} {n : Nat} (hn : n = min xs.length ys.length) : Walk (ItZm K a b) n (fun H => SqT K H a xs ∧ SqL K H b ys) (YPair (fun i => xs[i]?) (fun i => ys[i]?)) := by
  subst hn
  refine ⟨fun i _ hi q => ?_, fun _ q => ⟨xs, ys, q.1, q.2, by omega, by omega, by omega⟩, fun i H v H' _ q y => ?_⟩
  · have h1 : i < xs.length := by omega
    have h2 : i < ys.length := by omega
    exact ⟨xs, ys, xs[i], ys[i], q.1, q.2, by simp [h1], by simp [h2]⟩
  · obtain ⟨T, x, z, h1, h2, h3, h4, h5⟩ := y
    exact ⟨T, x, z, h1, h2, h3, h4 xs q.1, h5 ys q.2⟩
end TK

set_option maxRecDepth 100000
/-! rows beside rows -/
namespace TK
open PySem PySem.Spec PyProof.Rows L2
def tkD (ec : Int × Int) : PyData := .tuple [.int ec.1, .int ec.2]
theorem dp_tk {K : PySem.W.Frag} {H : Hp} {t : Addr} {ec : Int × Int} (h : H t = some (.tup [.int ec.1, .int ec.2])) : Dp K H (.ref t) (tkD ec) := .tup (st_of h) (.cons (.int _) (.cons (.int _) .nil))
theorem all_tks {K : PySem.W.Frag} {H : Hp} : ∀ (ts : List Addr) (r : List (Int × Int)), ts.length = r.length → (∀ (i : Nat) (t : Addr) (ec : Int × Int), ts[i]? = some t → r[i]? = some ec → H t = some (.tup [.int ec.1, .int ec.2])) → DpAll K H (ts.map V.ref) (r.map tkD)
  | [], [], _, _ => .nil
  | [], _ :: _, h, _ => by cases h
  | _ :: _, [], h, _ => by cases h
  | t :: ts, f :: ps, h, h3 => .cons (dp_tk (h3 0 t f rfl rfl)) (all_tks ts ps (Nat.succ.inj h) fun i u g a b => h3 (i + 1) u g (by simpa using a) (by simpa using b))
theorem dp_row {K : PySem.W.Frag} {H : Hp} {q : Addr} {r : List (Int × Int)} (h : RowAt H q r) : Dp K H (.ref q) (.tuple (r.map tkD)) := by
  obtain ⟨ts, h1, h2, h3⟩ := h
  exact .tup (st_of h1) (all_tks ts r h2 h3)
theorem lay_row : ∀ r : List (Int × Int), PyData.canLayAll0 (r.map tkD) = true
  | [] => rfl
  | f :: r => by
    show (PyData.canLay0 (tkD f) && PyData.canLayAll0 (r.map tkD)) = true
    rw [lay_row r]
    rfl
theorem deep_row : ∀ r : List (Int × Int), PyData.depthAll (r.map tkD) ≤ 1
  | [] => by show 0 ≤ 1; omega
  | f :: r => by
    have ih := deep_row r
    show max (PyData.depth (tkD f)) (PyData.depthAll (r.map tkD)) ≤ 1
    have : PyData.depth (tkD f) = 1 := rfl
    omega
theorem shp_row (r : List (Int × Int)) : SeqAt.shaped (.tuple (r.map tkD)) = true := by
  unfold SeqAt.shaped
  have h1 : PyData.canLay0 (.tuple (r.map tkD)) = true := lay_row r
  have h2 : PyData.depth (.tuple (r.map tkD)) ≤ 64 := by
    show PyData.depthAll (r.map tkD) + 1 ≤ 64
    have := deep_row r
    omega
  rw [h1, decide_eq_true h2]
  rfl
theorem eqv_tk (f g : Int × Int) : PyData.eqv (tkD f) (tkD g) = decide (f = g) := by
  unfold tkD
  rw [PyData.eqv, Bool.eq_iff_iff]
  simp [PyData.eqvAll, PyData.eqv, Prod.ext_iff]
theorem eqv_tks : ∀ (ps qs : List (Int × Int)), PyData.eqvAll (ps.map tkD) (qs.map tkD) = decide (ps = qs)
  | [], [] => rfl
  | [], _ :: _ => rfl
  | _ :: _, [] => rfl
  | f :: r, g :: q => by
    show (PyData.eqv (tkD f) (tkD g) && PyData.eqvAll (r.map tkD) (q.map tkD)) = _
    rw [eqv_tks r q, eqv_tk, Bool.eq_iff_iff]
    simp
theorem ne_rows {K : PySem.W.Frag} {H : Hp} {a b : Addr} {ps : List (Int × Int)} {Q : VK} (ha : RowAt H a ps) (hb : RowAt H b ps) (q : Q (.bl false) H) : rNeD K (.ref a) (.ref b) H Q := by
  refine ⟨_, _, dp_row ha, dp_row hb, shp_row ps, shp_row ps, ?_⟩
  rw [PyData.eqv, eqv_tks, decide_eq_true rfl]
  exact q
theorem eq_rowsF {K : PySem.W.Frag} {H : Hp} {a b : Addr} {ps qs : List (Int × Int)} {Q : VK} (ha : RowAt H a ps) (hb : RowAt H b qs) (hn : ps ≠ qs) (q : Q (.bl false) H) : rEqD K (.ref a) (.ref b) H Q := by
  refine ⟨_, _, dp_row ha, dp_row hb, shp_row ps, shp_row qs, ?_⟩
  rw [PyData.eqv, eqv_tks, decide_eq_false hn]
  exact q
end TK

set_option maxRecDepth 100000
/-! a field's tuple made longer in place; == by an own def, both answers -/
namespace TK
open PySem PySem.Spec PyProof.Rows L2
section
variable {X : Cx}
theorem noI_tuple_add : typeLookup (.type "tuple") (dunderI "add") = pure none := by rw [typeLookup_type]; kernel_rfl
theorem in_catA : InOp X .Add (rCatA X.K) := by
  intro pins s σ H x y v u Q I rx ry h
  obtain ⟨a, b, xs, ys, rfl, rfl, ha, hb, hz, q0, q1, q2⟩ := h
  cases rx
  cases ry
  obtain ⟨its, r1, p1, _⟩ := I.tuple ha
  obtain ⟨its2, r2, p2, _⟩ := I.tuple hb
  obtain ⟨⟨cls, dd, data, sl⟩, ho, hc, n, hd⟩ := id p1
  obtain ⟨⟨cls2, dd2, data2, sl2⟩, ho2, hc2, n2, hd2⟩ := id p2
  simp only at hc hd hc2 hd2
  subst hc hd hc2 hd2
  refine PyProof.Rows.inplaceOp_concat (T := "tuple") ⟨_, ho, rfl⟩ ⟨_, ho2, rfl⟩ noI_tuple_add noFill_tuple_add seq_tuple_add ?_
  have e : its.toArray ++ its2.toArray = (its ++ its2).toArray := by simp
  by_cases hx : xs = []
  · subst hx
    cases r1
    exact call_meets PySem.F.slot_tuple_add ⟨_, ho, rfl⟩ PySem.F.entry_tuple_add (PySem.F.args_tuple_add_2 _ _) (tuple_addW0 a b ([] : List Value).toArray its2.toArray n n2 dd dd2 sl sl2 (by simp)) ⟨ho, ho2, ⟨.ref b, H, I, rfl, q0 rfl⟩⟩
  · have hv : its ≠ [] := fun z => hx (r1.nil_iff.mp z)
    by_cases hy : ys = []
    · have hw : its2 = [] := r2.nil_iff.mpr hy
      exact call_meets PySem.F.slot_tuple_add ⟨_, ho, rfl⟩ PySem.F.entry_tuple_add (PySem.F.args_tuple_add_2 _ _) (tuple_addW1 a b its.toArray its2.toArray n n2 dd dd2 sl sl2 (by simpa using hv) (by simp [hw])) ⟨ho, ho2, ⟨.ref a, H, I, rfl, q1 hx hy⟩⟩
    · have hw : its2 ≠ [] := fun z => hy (r2.nil_iff.mp z)
      refine call_meets PySem.F.slot_tuple_add ⟨_, ho, rfl⟩ PySem.F.entry_tuple_add (PySem.F.args_tuple_add_2 _ _) (tuple_addW2 a b its.toArray its2.toArray n n2 dd dd2 sl sl2 (by simpa using hv) (by simpa using hw) (by rw [List.size_toArray, List.size_toArray, ← r1.length, ← r2.length]; exact hz)) ⟨ho, ho2, ?_⟩
      rw [e]
      refine ⟨.ref s.heap.objs.size, _, I.laid (t' := s.toks) (o := .tup (xs ++ ys)) (fun b ob q => Heap.get?_push_of_some _ q) (Nat.le_refl _) ?_, rfl, q2 hx hy _ (I.hok.fresh (Nat.le_refl _))⟩
      exact ⟨by rw [List.length_append]; exact hz, _, r1.append r2, IsTup.new _ _⟩
/-- what is compared with an instance: its type, which is no class over the instance's -/
inductive Rgt (K : PySem.W.Frag) (H : Hp) (C : Addr) : V → Value → Prop where
  | ins {b dy : Addr} {gs : List (Str × V)} (h : H b = some (.ins C dy gs)) : Rgt K H C (.ref b) (.ref C)
  | tup {b : Addr} {xs : List V} (h : H b = some (.tup xs)) (hn : PySem.W.subIn K (.type "tuple") (.ref C) = some false) : Rgt K H C (.ref b) (.type "tuple")
def rOwnEq (K : PySem.W.Frag) (C : Addr) (sp : Sp) (E : XK) : R2 := fun x y H Q => ∃ (a dx : Addr) (fs : List (Str × V)) (tb : Value), x = .ref a ∧ H a = some (.ins C dx fs) ∧ Rgt K H C y tb ∧ sp [x, y] H (fun v H' => ∃ k, v = .bl k ∧ Q v H') E
theorem op_ownEq {CX : CXT} {C f : Addr} {fd : FuncData} {ps : List Str} {n : Nat} {sp : Sp} {E : XK} (F : FnOk X.prog X.w X.K X.mg X.base CX n f fd ps sp)
    (hs : PySem.W.findIn X.K (.ref C) "__eq__" = some (some (.ref f))) (hf : PySem.W.isFn X.K (.ref f) = true) (hb : Binds X.K fd ps []) (hx : Passes CX X E) (hr : Room n X.A) : OpR X (compareOp .Eq) (rOwnEq X.K C sp E) := by
  intro pins s σ H x y v u Q I rx ry h
  obtain ⟨a, dx, fs, tb, rfl, ha, hR, hsp⟩ := h
  cases rx
  show wpAny (model X.prog X.w) X.A (richCompare .Eq (.ref a) u) (EP X pins σ Q) X.xe s
  obtain ⟨mA, J, _⟩ := ins_get I.hok ha
  obtain ⟨od, J, _⟩ := J.look
  obtain ⟨m, hF⟩ := I.fr
  have ty : PySem.W.Looks (model X.prog X.w) s.heap (typeOf u) tb ∧ PySem.W.notFirst X.K C tb = true := by
    cases hR with
    | @ins b dy gs hb' =>
      cases ry
      obtain ⟨mB, J', _⟩ := ins_get I.hok hb'
      obtain ⟨od', J', _⟩ := J'.look
      exact ⟨J'.type, by simp [PySem.W.notFirst]⟩
    | @tup b xs hb' hn =>
      cases ry
      obtain ⟨_, its, r, o, ho, hc, _⟩ := I.hok b _ hb'
      refine ⟨fun A Q E s' k q => wpAny_typeOf (T := "tuple") ⟨o, k _ _ ho, hc⟩ q, ?_⟩
      unfold PySem.W.notFirst
      rw [hn]
      simp
  refine PySem.W.cmp_K (op := .Eq) (tb := tb) hr.units0 hF I.ok.mod.kin J ty.1 ty.2 hs hf ?_
  have hl := F.len _ _ _ _ hsp
  have r2 : Vals [V.ref a, y] [Value.ref a, u] := .cons rfl (.cons ry .nil)
  refine wpAny_call (codeAny_mono (F.run X.A X.stack s H ⟨[.ref a, u], []⟩ [.ref a, u] [.ref a, y] _ E hr I.env0 (by
    have := hb s [.ref a, u] I.kIn (by simpa using hl)
    simpa using this) r2 hsp) fun r s' hq => ?_)
  cases r with
  | error e => exact hx pins σ H s e s' I hq
  | ok fl =>
    cases fl with
    | ret w =>
      obtain ⟨z, H', I', rz, k, ez, q⟩ := I.after hq
      subst ez
      obtain rfl : w = Value.bool k := rz
      exact ⟨.bl k, H', I', rfl, q⟩
    | next => exact False.elim hq
    | brk => exact False.elim hq
    | cont => exact False.elim hq
end
end TK

set_option maxRecDepth 100000
set_option maxHeartbeats 2000000
/-! in an except suite: a comprehension over a list, its target a tuple -/
namespace TK
open PySem PySem.Spec PyProof.Rows L2 HotX
section
variable {prog : Program} {w : World} {A : Around} {E : Value → Shared → Prop} {s : Shared}
/-- the end of a walk, where an exception is handled: what the model does behind the iterator's last step -/
theorem stop_hot {x1 : Addr} {Q : Fin → Shared → Prop} (hot : HotAt A x1 s.heap) (hE : ∀ h' a, (∀ b o, s.heap.get? b = some o → h'.get? b = some o) → (∃ oe : Obj, h'.get? a = some oe ∧ oe.cls = .type "StopIteration") → E (.ref a) { s with heap := h' }) :
    wpAny (model prog w) A Builtin.SmallTypes.stopIteration Q E s := by
  obtain ⟨hh, o1, vs1, h1, d1, c1⟩ := hot
  show wpAny _ _ (newExc (.type "StopIteration") [] >>= _) _ _ _
  refine wpAny_bind ?_
  simp only [newExc, newTuple]
  refine wpAny_bind (wpAny_newObj_type ?_ (by size_fits))
  refine wpAny_bind (m := firstArgMember _ _) (wpAny_of_eq (a := Value.none) (by first | rfl | (simp only [firstArgMember]; rfl)) ?_)
  refine wpAny_newObj_type ?_ (by size_fits)
  refine raiseNew_hot ⟨hh, o1, vs1, Heap.get?_push_of_some _ (Heap.get?_push_of_some _ h1), d1, c1⟩ (Nat.ne_of_lt (Heap.lt_size (Heap.get?_push_of_some _ h1))) (Heap.get?_push_size _ rfl) rfl (by first | (simp; done) | (simp; omega) | (simp only [Array.size_append]; simp; omega)) ?_
  refine hE _ _ (fun b o e => ?_) ⟨_, Heap.get?_update_self _ (Heap.get?_push_size _ rfl) rfl, rfl⟩
  rw [Heap.get?_update_other _ _ (Nat.ne_of_gt (Heap.lt_size (Heap.get?_push_of_some _ e)))]
  exact Heap.get?_push_of_some _ (Heap.get?_push_of_some _ e)
theorem ne_iter {x1 it : Addr} {o : Obj} {p q : Value} (hot : HotAt A x1 s.heap) (ho : s.heap.get? it = some o) (hd : o.data = .fields #[p, q]) : x1 ≠ it := fun z => by
  obtain ⟨_, o1, vs1, h1, d1, c1⟩ := hot
  rw [z, ho] at h1
  cases h1
  rw [hd] at d1
  cases d1
  simp at c1
theorem hot_upd {x1 it : Addr} {f : Obj → Obj} (hot : HotAt A x1 s.heap) (n : x1 ≠ it) : HotAt A x1 (s.heap.update it f) := by
  obtain ⟨hh, o1, vs1, h1, d1, c1⟩ := hot
  exact ⟨hh, o1, vs1, by rw [Heap.get?_update_other _ _ (Ne.symm n)]; exact h1, d1, c1⟩
theorem list_end_hot {it l x1 : Addr} {i : Nat} {items} {Q : Option Value → Shared → Prop} (hot : HotAt A x1 s.heap) (hit : s.heap.IsListIter it l i) (hl : s.heap.IsList l items) (hx : items[i]? = none)
    (hQ : ∀ h', Heap.ExtBut it s.heap h' → Q none { s with heap := h' }) : wpAny (model prog w) A (pyNext (.ref it)) Q E s := by
  obtain ⟨o, ho, hc, hd⟩ := id hit
  obtain ⟨ol, hol, _, nl, hdl⟩ := hl
  have nx := ne_iter hot ho hd
  unfold pyNext
  refine wpAny_bind (wpAny_attempt (wpAny_callSpecial?_slot (name := Str.ofString "__next__") hit.typeIs slot_listiter_next (wpAny_call_entry slot_listiter_next hit.typeIs entry_listiter_next ?_ (args_listiter_next _))))
  show wpAny _ _ (field (.ref it) 0 >>= _) _ _ s
  refine wpAny_bind (wpAny_field ho hd (x := .ref l) rfl ?_)
  show wpAny _ _ (if (Value.ref l == Value.none) = true then _ else _) _ _ s
  rw [if_neg (show ¬ ((Value.ref l == Value.none) = true) from Bool.false_ne_true)]
  show wpAny _ _ (field (.ref it) 1 >>= _) _ _ s
  refine wpAny_bind (wpAny_field ho hd (x := .int i 0) rfl ?_)
  show wpAny _ _ (seqItems? (.ref l) >>= _) _ _ s
  refine wpAny_bind (wpAny_seqItems hol hdl ?_)
  simp only [Int.toNat_natCast, hx]
  refine wpAny_bind (wpAny_rule (wpAny_bind (wpAny_setField ho hd (by simp) ?_)))
  refine stop_hot (A := A.in1) (x1 := x1) ?_ fun h' a k ha => ?_
  · exact hot_upd (A := A) hot nx
  obtain ⟨oe, he, hce⟩ := ha
  refine wpAny_bind (wpAny_isInstance (T := "StopIteration") (b := true) ⟨oe, he, hce⟩ isSubtype_stop ?_)
  refine wpAny_pure (hQ _ fun b ob nb e => k b ob ?_)
  rw [Heap.get?_update_other _ _ (Ne.symm nb)]
  exact e
theorem tup_end_hot {it t x1 : Addr} {i : Nat} {items} {Q : Option Value → Shared → Prop} (hot : HotAt A x1 s.heap) (hit : IsTupIter s.heap it t i) (ht : IsTup s.heap t items) (hx : items[i]? = none)
    (hQ : ∀ h', Heap.ExtBut it s.heap h' → Q none { s with heap := h' }) : wpAny (model prog w) A (pyNext (.ref it)) Q E s := by
  obtain ⟨o, ho, hc, hd⟩ := id hit
  obtain ⟨ol, hol, _, nl, hdl⟩ := ht
  have nx := ne_iter hot ho hd
  unfold pyNext
  refine wpAny_bind (wpAny_attempt (wpAny_callSpecial?_slot (name := Str.ofString "__next__") hit.typeIs slot_tupleiter_next (wpAny_call_entry slot_tupleiter_next hit.typeIs entry_tupleiter_next ?_ (args_tupleiter_next _))))
  show wpAny _ _ (field (.ref it) 0 >>= _) _ _ s
  refine wpAny_bind (wpAny_field ho hd (x := .ref t) rfl ?_)
  show wpAny _ _ (if (Value.ref t == Value.none) = true then _ else _) _ _ s
  rw [if_neg (show ¬ ((Value.ref t == Value.none) = true) from Bool.false_ne_true)]
  show wpAny _ _ (field (.ref it) 1 >>= _) _ _ s
  refine wpAny_bind (wpAny_field ho hd (x := .int i 0) rfl ?_)
  show wpAny _ _ (seqItems? (.ref t) >>= _) _ _ s
  refine wpAny_bind (wpAny_seqItems hol hdl ?_)
  simp only [Int.toNat_natCast, hx]
  refine wpAny_bind (wpAny_rule (wpAny_bind (wpAny_setField ho hd (by simp) ?_)))
  refine stop_hot (A := A.in1) (x1 := x1) ?_ fun h' a k ha => ?_
  · exact hot_upd (A := A) hot nx
  obtain ⟨oe, he, hce⟩ := ha
  refine wpAny_bind (wpAny_isInstance (T := "StopIteration") (b := true) ⟨oe, he, hce⟩ isSubtype_stop ?_)
  refine wpAny_pure (hQ _ fun b ob nb e => k b ob ?_)
  rw [Heap.get?_update_other _ _ (Ne.symm nb)]
  exact e
theorem unpack_hot {t x1 : Addr} {items : Array Value} {Q : List Value → Shared → Prop} (hot : HotAt A x1 s.heap) (ht : IsTup s.heap t items)
    (hQ : ∀ h', Heap.ExtBut s.heap.objs.size s.heap h' → Q items.toList { s with heap := h' }) : wpAny (model prog w) A (unpackItems (.ref t) items.size none) Q E s := by
  have hlt : t ≠ s.heap.objs.size := by obtain ⟨o, ho, _⟩ := ht; exact Nat.ne_of_lt (Heap.lt_size ho)
  obtain ⟨hh, o1, vs1, h1, d1, c1⟩ := hot
  unfold unpackItems notIterableAtAll
  refine wpAny_bind (wpAny_bind (wpAny_specialOf ht.typeIs slot_tuple_iter.lookup (wpAny_pure ?_)))
  simp only [Bool.false_eq_true, if_false]
  refine wpAny_bind (wpAny_holding (iter_tuple ht ?_))
  refine wpAny_bind (wpAny_holding (draw_tuple hlt items.size 0 _ _ ⟨_, Heap.get?_push_size _ rfl, rfl, rfl⟩ (ht.push _) (by omega) fun h₁ it1 s1 => ?_))
  rw [List.drop_zero, List.take_of_length_le (by simp), if_neg (by simp)]
  have t1 : IsTup h₁ t items := (ht.push _).extBut s1.extBut hlt
  have g1 : h₁.get? x1 = some o1 := s1.extBut x1 o1 (Nat.ne_of_lt (Heap.lt_size h1)) (Heap.get?_push_of_some _ h1)
  refine wpAny_bind (wpAny_holding (tup_end_hot (x1 := x1) ⟨hh, o1, vs1, g1, d1, c1⟩ it1 t1 (by simp) fun h₂ e2 => ?_))
  simp only [Option.isSome_none, Bool.false_eq_true, if_false]
  exact wpAny_pure (hQ h₂ fun b o hb e => e2 b o hb (s1.extBut b o hb (Heap.get?_push_of_some _ e)))
end
/-- wherever the context holds, an exception without context is handled -/
def HotB (X : Cx) : Prop := ∀ (pins : List (Addr × Obj)) (σ : L2.St) (H : Hp) (s : Shared), Inv X pins σ H s → ∃ x1, HotAt X.A x1 s.heap
theorem pg_tupH {X : Cx} {es : List Expr} {k : Nat} {t : TGs} {n : Nat} {pos : Pos} (hc : HotB X) (h : PGs X es t)
    (hn : (assignEach es X.env).length = n := by rfl) (hst : (assignEach es X.env).findIdx? (·.1) = none := by rfl) : PG X (.Tuple es k pos) (gTup X.K n t) := by
  refine ⟨fun pins s σ H v u Q I r hw => ?_⟩
  obtain ⟨a, xs, e1, hq, hl, hw⟩ := hw
  subst e1
  cases r
  obtain ⟨its, rv, ht, hz⟩ := I.tuple hq
  obtain ⟨x1, hot⟩ := hc pins σ H s I
  rw [assign_Tuple]
  refine wpAny_bind (wpAny_standAt ?_)
  unfold unpack
  rw [show (assignEach es X.env).length = its.toArray.size by simp [hn, ← hl, rv.length], hst]
  refine wpAny_bind (wpAny_holding (unpack_hot hot ht fun h' hx => ?_))
  have I1 : Inv X pins σ H { s with heap := h' } := I.kept (t' := s.toks) fun b o e => hx b o (Nat.ne_of_lt (Heap.lt_size e)) e
  exact h.run pins _ σ H xs _ Q I1 (by simpa using rv) hw
/-- the block of a comprehension is as hot -/
theorem blk_hot {X : Cx} {pins : List (Addr × Obj)} {σ : L2.St} {H : Hp} {s : Shared} {scope : Scope} {ce : Env} {fp : List Addr} (hot : L2H.HotC X) (I : Inv X pins σ H s) (hf : ∀ b ∈ fp, FpOk X pins H b) : HotB (X.blk s H scope ce fp) := by
  intro pins' σ' H' s' I'
  obtain ⟨p, ⟨hh, vs, d, c⟩, hp⟩ := hot
  obtain ⟨g, n, nl, nf, nc⟩ := I.pin p (List.mem_append_left _ hp)
  have nst : p.1 ∉ frs X.stack := fun z => by
    rcases List.mem_cons.mp (I.stkSub _ z) with e | e
    · exact nl e
    · exact nf e
  have nfp : p.1 ∉ fp := fun z => (hf _ z).2.2.2.2.2 p (List.mem_append_left _ hp) rfl
  exact ⟨p.1, hh, p.2, vs, I'.base.keep p.1 p.2 g n nst nfp, d, c⟩
/-- [e for a, b in l if t] in an except suite -/
theorem pe_lcH {X : Cx} {K : PySem.W.Frag} {elt tg l : Expr} {ifs : List Expr} {scope : Scope} {own : List (Str × Nat)} {pos : Pos} {tl : TE} {g : TG} {tt : TT} {te : TE} (hN : X.N.Nodup) (hl : PE X l tl) (ok : BlkOk X.N X.env.scope scope own)
    (hg : ∀ (s : Shared) (H : Hp) (C : Addr) (cl : List (Str × Addr)) (fp : List Addr), HotB (X.blk s H scope (compEnvC scope cl C X.env) fp) → PG (X.blk s H scope (compEnvC scope cl C X.env) fp) tg g)
    (ht : ∀ (s : Shared) (H : Hp) (C : Addr) (cl : List (Str × Addr)) (fp : List Addr), PTs (X.blk s H scope (compEnvC scope cl C X.env) fp) ifs tt)
    (he : ∀ (s : Shared) (H : Hp) (C : Addr) (cl : List (Str × Addr)) (fp : List Addr), PE (X.blk s H scope (compEnvC scope cl C X.env) fp) elt te) (hot : L2H.HotC X) (hs : ∀ x, foldedSetIterable l X.env x = pure x := by intro _; rfl) (eK : X.K = K := by rfl) :
    PE X (.ListComp elt [⟨tg, l, ifs, 0⟩] scope pos) (tLc (iList K tl) g tt te (own.map (·.2))) := by
  subst eK
  refine ⟨fun pins s σ H Q I h => ?_⟩
  rw [eval_ListComp]
  have capt : ∀ y ∈ scope.names, y.2 = .free → ∃ c, X.env.cells.lookup y.1 = some c := fun y hy e => (ok.free y hy e).elim (fun k => I.ok.has _ (.inl k)) fun k => I.ok.has _ (.inr k)
  refine wpAny_comprehension_free rfl hs (closure_ok capt) ok.kind (fun y hy e => by rw [ok.uniq y hy, e]) (thn (hl.run pins s σ H _ I h) fun v s1 hv => ?_)
  obtain ⟨x, H1, I1, r1, a, ex, ⟨xs, hq⟩, q⟩ := hv
  subst ex
  obtain rfl : v = Value.ref a := r1
  obtain ⟨its, rv, pl, hz⟩ := I1.list hq
  refine wpAny_pyIter_list pl.isList ?_
  -- the iterator
  generalize hit : s1.heap.objs.size = it
  have nit : H1 it = none := I1.hok.fresh (Nat.le_of_eq hit)
  generalize hs2 : ({ s1 with heap := s1.heap.push { cls := .type "list_iterator", data := .fields #[.ref a, .int 0 0] } } : Shared) = s2
  have e2 : s2.heap = s1.heap.push { cls := .type "list_iterator", data := .fields #[.ref a, .int 0 0] } := by rw [← hs2]
  have I2 : Inv X pins σ H1 s2 := by rw [← hs2]; exact I1.kept (t' := s1.toks) fun b o e => Heap.get?_push_of_some _ e
  have st2 : s2.heap.IsListIter it a 0 := by rw [e2, ← hit]; exact ⟨_, Heap.get?_push_size _ rfl, rfl, rfl⟩
  have f2 : FpOk X pins H1 it := I1.fpOk (Nat.le_of_eq hit) nit
  have lit : it < s2.heap.objs.size := by rw [e2, Heap.size_push, ← hit]; exact Nat.lt_succ_self _
  -- the new list
  refine wpAny_newObj_type (newEnv_comp ?_) (by show 0 ≤ sizeLine; decide)
  generalize hD : s2.heap.objs.size = D
  have nD : H1 D = none := I2.hok.fresh (Nat.le_of_eq hD)
  obtain ⟨W, ⟨m0, w0⟩, turn⟩ := q D nD
  generalize hs3 : ({ s2 with heap := s2.heap.push { cls := .type "list", data := .seq ([] : List Value).toArray } } : Shared) = s3
  have e3 : s3.heap = s2.heap.push { cls := .type "list", data := .seq ([] : List Value).toArray } := by rw [← hs3]
  have I3 : Inv X pins σ (upd H1 D (.lst [])) s3 := by
    rw [← hs3]
    refine I2.laid (t' := s2.toks) (fun b o e => Heap.get?_push_of_some _ e) (Nat.le_of_eq hD) ⟨Nat.zero_le _, [], 0, .nil, ?_⟩
    rw [← hD]
    exact Heap.get?_push_size _ rfl
  have nitD : it ≠ D := by rw [← hD]; exact Nat.ne_of_lt lit
  have f3 : ∀ b ∈ [it], FpOk X pins (upd H1 D (.lst [])) b ∧ b < s3.heap.objs.size := fun b hb => by
    obtain rfl : b = it := List.mem_singleton.mp hb
    exact ⟨⟨by rw [upd_ne nitD]; exact f2.1, f2.2⟩, by rw [e3, Heap.size_push]; exact Nat.lt_succ_of_lt lit⟩
  have st3 : s3.heap.IsListIter it a 0 := st2.at fun o e => by rw [e3]; exact Heap.get?_push_of_some _ e
  have I4 := block_start I3 ok hN f3
  have bh := blk_hot (scope := scope) (ce := compEnvC scope (cellsFrom (s3.heap.objs.size + 1) scope.names (cloFrom X.env.cells scope.names [])) s3.heap.objs.size X.env) hot I3 fun b hb => (f3 b hb).1
  have pg := hg s3 (upd H1 D (.lst [])) s3.heap.objs.size (cellsFrom (s3.heap.objs.size + 1) scope.names (cloFrom X.env.cells scope.names [])) [it] bh
  have pt := ht s3 (upd H1 D (.lst [])) s3.heap.objs.size (cellsFrom (s3.heap.objs.size + 1) scope.names (cloFrom X.env.cells scope.names [])) [it]
  have pe := he s3 (upd H1 D (.lst [])) s3.heap.objs.size (cellsFrom (s3.heap.objs.size + 1) scope.names (cloFrom X.env.cells scope.names [])) [it]
  show codeAny _ _ (.compStart (.ListComp elt [⟨tg, l, ifs, 0⟩] scope pos) 0 (.ref it) (.ref D) (compEnvC scope (cellsFrom (s3.heap.objs.size + 1) scope.names (cloFrom X.env.cells scope.names [])) s3.heap.objs.size X.env)) (compPost (model X.prog X.w) X.A X.xe none (EP X pins σ Q) (.ref D) s3.heap.objs.size) { s3 with heap := pushCells (s3.heap.push { cls := .type "dict", data := .dict #[] }) scope.names }
  generalize hce : compEnvC scope (cellsFrom (s3.heap.objs.size + 1) scope.names (cloFrom X.env.cells scope.names [])) s3.heap.objs.size X.env = ce at I4 bh pg pt pe ⊢
  have cL : ce.locals = s3.heap.objs.size := by subst hce; rfl
  generalize hH3 : upd H1 D (.lst []) = H3 at I3 I4 bh pg pt pe w0 f3
  generalize hs4 : ({ s3 with heap := pushCells (s3.heap.push { cls := .type "dict", data := .dict #[] }) scope.names } : Shared) = s4 at I4 ⊢
  have st4 : s4.heap.IsListIter it a 0 := st3.at fun o e => by rw [← hs4]; exact pushCells_keeps _ _ _ _ (Heap.get?_push_of_some _ e)
  have nit3 : H3 it = none := (f3 it (List.mem_singleton.mpr rfl)).1.1
  have fpO : ∀ {σ' : L2.St} {H' : Hp} {s' : Shared}, Inv (X.blk s3 H3 scope ce [it]) [] σ' H' s' → H' it = none → ∀ b ∈ [it], FpOk (X.blk s3 H3 scope ce [it]) [] H' b := fun {σ' H' s'} I' hn b hb => by
    have e : b = it := List.mem_singleton.mp hb
    exact ⟨by rw [e]; exact hn, (I'.ok.exf b hb).1, I'.ok.exfs b hb, .inl hb, fun x c e => (I'.ok.exf b hb).2 x c e, fun p hp => absurd (show p ∈ ([] : List (Addr × Obj)) ++ [] from hp) (by simp)⟩
  have loop : codeAny (model X.prog X.w) X.A (.compLoop (.ListComp elt [⟨tg, l, ifs, 0⟩] scope pos) 0 (.ref it) (.ref D) ce) (compPost (model X.prog X.w) X.A X.xe none (EP X pins σ Q) (.ref D) s3.heap.objs.size) s4 := by
    refine compLoop_any (fun n s' => ∃ i H', Inv (X.blk s3 H3 scope ce [it]) [] (wipe σ (own.map (·.2))) H' s' ∧ s'.heap.IsListIter it a i ∧ H' it = none ∧ W i n H') ?_ m0 ⟨0, H3, I4, st4, nit3, w0⟩
    rintro n s5 ⟨i, H5, I5, st5, n5, w5⟩
    obtain ⟨g0, g1, g2, g3, g4, g5⟩ := fpO I5 n5 it (List.mem_singleton.mpr rfl)
    rcases turn i n H5 w5 with ⟨⟨ys, hq5, hle⟩, qq⟩ | ⟨⟨ys, y, hq5, hy⟩, Nx, hNx, step⟩
    · obtain ⟨its5, rv5, pl5, _⟩ := I5.list hq5
      obtain ⟨x1, hx1⟩ := bh _ _ _ _ I5
      have hl5 := rv5.length
      refine list_end_hot hx1 st5 pl5.isList (by simp; omega) fun h' eb => ?_
      have I6 : Inv (X.blk s3 H3 scope ce [it]) [] (wipe σ (own.map (·.2))) H5 { s5 with heap := h' } := I5.turned (t' := s5.toks) (fun b o hb e => eb b o hb e) g0 g1 g3 g4 g5
      have I7 : Inv X pins σ H5 { s5 with heap := h' } := I3.call' (ch := [it]) I6.os I6.base I6.hok I6.bare fun b hb => ⟨(f3 b hb).1.2.2.2.1, (f3 b hb).1.2.1, (f3 b hb).1.2.2.2.2.1, (f3 b hb).1.2.2.2.2.2⟩
      have nC : H5 s3.heap.objs.size = none := by
        have z : H5 ce.locals = none := I6.free
        rw [cL] at z
        exact z
      obtain ⟨m, hn, _⟩ := I6.loc
      have hn : ({ s5 with heap := h' } : Shared).heap.Ns ce.locals m := hn
      rw [cL] at hn
      refine ⟨m, hn, fun h'' sb => ?_⟩
      obtain ⟨j0, j1, j2, j3, j4, j5⟩ := I3.fpOk (H' := H5) (Nat.le_refl _) nC
      exact ⟨.ref D, H5, I7.turned (t' := s5.toks) (fun b o hb e => (sb.2 b hb).trans e) j0 j1 j3 j4 j5, rfl, qq⟩
    · obtain ⟨its5, rv5, pl5, _⟩ := I5.list hq5
      obtain ⟨u, hu, ru⟩ := rv5.get hy
      refine wpAny_pyNext_list_item st5 pl5.isList (x := u) (by simpa using hu) fun h' st' sb => ?_
      have I6 : Inv (X.blk s3 H3 scope ce [it]) [] (wipe σ (own.map (·.2))) H5 { s5 with heap := h' } := I5.turned (t' := s5.toks) (fun b o hb e => (sb.2 b hb).trans e) g0 g1 g3 g4 g5
      obtain ⟨oi, ei, ci, di⟩ := id st'
      refine go_of (s := { s5 with heap := h' }) ei ci di (by decide) ?_
      have I7 := I6.pinned (fpO I6 n5) fun b hb => by
        obtain rfl : b = it := List.mem_singleton.mp hb
        exact ⟨oi, ei, fun v z => by rw [di] at z; cases z⟩
      have yl : (Itl X.K a).yld i H5 y H5 := ⟨rfl, fun zs hzs => by
        have := I5.list_inj hzs hq5
        rw [this]
        exact hy⟩
      refine thnF (pg.run _ _ _ H5 y u _ I7 ru (step y H5 yl)) fun _ s8 h8 => ?_
      obtain ⟨σ8, H8, I8, hw8, q8⟩ := h8
      refine thnF (pt.run _ s8 σ8 H8 _ I8 q8) fun b s9 h9 => ?_
      obtain ⟨H9, I9, q9⟩ := h9
      have fin : ∀ {s' : Shared} {H' : Hp}, Inv (X.blk s3 H3 scope ce [it]) ([] ++ pinsAt [it] h') σ8 H' s' → Nx H' → ∃ m, m < n ∧ ∃ i H', Inv (X.blk s3 H3 scope ce [it]) [] (wipe σ (own.map (·.2))) H' s' ∧ s'.heap.IsListIter it a i ∧ H' it = none ∧ W i m H' := fun {s' H'} I' nx => by
        obtain ⟨m', hm, w'⟩ := hNx H' nx
        have z := I'.pin (it, oi) (List.mem_append_right _ (List.mem_append_right _ (mem_pinsAt (List.mem_singleton.mpr rfl) ei)))
        have hlw : (wipe σ (own.map (·.2))).length = σ8.length := by rw [← hw8, wipe_length]
        refine ⟨m', hm, i + 1, H', (I'.unpinned (pins := [])).weak hlw (fun j v e => ?_), st'.at fun o e => ?_, z.2.1, w'⟩
        · rw [← hw8] at e
          exact (wipe_some e).1
        · rw [ei] at e
          cases e
          exact z.1
      cases b with
      | false =>
        simp only [Bool.false_eq_true, if_false] at q9 ⊢
        exact fin I9 q9
      | true =>
        simp only [if_true] at q9 ⊢
        refine thnF (pe.run _ s9 σ8 H9 _ I9 q9) fun z s10 h10 => ?_
        obtain ⟨yv, H10, I10, r10, acc, hD10, hz10, nx⟩ := h10
        exact app_ok (X := X.blk s3 H3 scope ce [it]) I10 hD10 hz10 r10 fun s11 I11 => fin I11 nx
  exact codeAny_compStart_list loop (wpAny_pyIter_listiter st4 loop)
end TK

set_option maxRecDepth 100000
/-! a lambda as a value, tracked; what is called by a local name; several except clauses with a name -/
namespace TK
open PySem PySem.Spec PyProof.Rows L2
/-- the function object o stands at f -/
def FnO (f : Addr) (o : Obj) : HO := .ext fun h => h.get? f = some o
theorem FnO.ok {P : Program} {w : World} {H : Hp} {h : Heap} {f : Addr} {o : Obj} (e : h.get? f = some o) : ObjOk P w H h f (FnO f o) := ⟨e, ⟨_, e⟩, fun _ _ a st => st _ a⟩
theorem fnO_tbl {f : Addr} {o : Obj} (ps : Array Value) : FnO f o ≠ .tbl ps := fun z => by
  unfold FnO at z
  cases z
abbrev lamObj (q : Str) (params : Arguments) (body : Expr) (scope : Scope) (clo : List (Str × Addr)) (pm : Value) (c' : Addr) (ctv : Value) : Obj := PySem.W.kla_obj "<lambda>" q params body scope clo pm c' ctv
/-- the reading of a lambda: a new function, its code object new or found -/
def tLamb (T : List (Addr × Str)) (q : Str) (params : Arguments) (body : Expr) (scope : Scope) (clo : List (Str × Addr)) : TE := fun σ H Q => LamX.Tabs T H ∧
  ∀ (f c' : Addr) (pm ctv : Value) (H1 : Hp), LamX.ExtN H H1 → LamX.Tabs T H1 → H f = none → H1 f = some (FnO f (lamObj q params body scope clo pm c' ctv)) → H1 c' = some (LamX.CodeO c' q) → Q (.ref f) H1
theorem among_cases {pos p' : Pos} {c cv : Value} {ps : Array Value} (h : TriplesOk ps.toList) (hc : codeAmong p' (ps ++ #[rawInt pos.line, rawInt pos.col, c]).toList = some cv) : codeAmong p' ps.toList = some cv ∨ cv = c := by
  have e : (ps ++ #[rawInt pos.line, rawInt pos.col, c]).toList = ps.toList ++ [rawInt pos.line, rawInt pos.col, c] := by simp
  rw [e] at hc
  exact LamX.among_app _ h hc
theorem pe_lamb {X : Cx} {T : List (Addr × Str)} {c P : Addr} {params : Arguments} {body : Expr} {scope : Scope} {pos : Pos} (TB : LamX.TabB X.base X.mg c P) (hcode : X.env.code = .ref c)
    (hm : (P, X.env.qual ++ "<lambda>") ∈ T) (hu : ∀ p ∈ T, p.1 = P → p.2 = X.env.qual ++ "<lambda>") (hdef : defaultsOf params X.env = ([], [])) (hfree : ∀ y ∈ scope.names, y.2 = .free → ∃ c, X.env.cells.lookup y.1 = some c) :
    PE X (.Lambda params body scope pos) (tLamb T (X.env.qual ++ "<lambda>") params body scope (cloFrom X.env.cells scope.names [])) := by
  refine ⟨fun pins s σ H Q I h => ?_⟩
  obtain ⟨hT, h⟩ := h
  obtain ⟨ps, hP, ht, ha⟩ := hT _ hm
  refine PySem.W.kla_eval hdef ?_
  have hP' : s.heap.get? P = some { cls := .none, data := .fields ps } := I.hok P _ hP
  have fin : ∀ {h' : Heap} {tk : Nat} {H1 : Hp} {c' : Addr} {pm ctv : Value}, Inv X pins σ H1 { s with heap := h', toks := tk } → LamX.ExtN H H1 → LamX.Tabs T H1 → H1 c' = some (LamX.CodeO c' (X.env.qual ++ "<lambda>")) → s.heap.objs.size ≤ h'.objs.size →
      EP X pins σ Q (.ref h'.objs.size) { s with heap := h'.push (lamObj (X.env.qual ++ "<lambda>") params body scope (cloFrom X.env.cells scope.names []) pm c' ctv), toks := tk } := fun {h' tk H1 c' pm ctv} I1 e1 t1 hc hsz => by
    have nf : H1 h'.objs.size = none := I1.hok.fresh (Nat.le_refl _)
    have I2 := I1.laid (a := h'.objs.size) (t' := tk) (h' := h'.push (lamObj (X.env.qual ++ "<lambda>") params body scope (cloFrom X.env.cells scope.names []) pm c' ctv)) (fun b u e => Heap.get?_push_of_some _ e) (Nat.le_refl _) (FnO.ok (Heap.get?_push_size _ rfl))
    have sm : ∀ b o, H1 b = some o → (upd H1 h'.objs.size (FnO h'.objs.size (lamObj (X.env.qual ++ "<lambda>") params body scope (cloFrom X.env.cells scope.names []) pm c' ctv))) b = some o := fun b o e => by
      rw [upd_ne (ne_of_none e nf)]
      exact e
    exact ⟨.ref h'.objs.size, _, I2, rfl, h _ c' pm ctv _ (e1.trans (LamX.ExtN.of sm)) (t1.ext sm) (I.hok.fresh hsz) upd_same (sm _ _ hc)⟩
  cases hc : codeAmong pos ps.toList with
  | some cv =>
    obtain ⟨c', e, hco⟩ := ha pos cv hc
    subst e
    exact PySem.W.kla_makeFunctionHit (closure_ok hfree) I.ok.glob (I.mod.glob.keeps I.bk) hcode (TB.code.keeps I.bk) hP' ht hc (TB.bm.keeps I.bk) fun ctv h' tk hx hsz => fin (I.kept hx) (LamX.ExtN.refl H) hT hco hsz
  | none =>
    refine PySem.W.kla_makeFunction (closure_ok hfree) I.ok.glob (I.mod.glob.keeps I.bk) hcode (TB.code.keeps I.bk) hP' ht hc TB.gP (TB.bm.keeps I.bk) fun c' ctv h' tk hx hge hlt hrec htb => ?_
    obtain ⟨c2, oc, vs, t, e2, hoc, hd, hv⟩ := hrec
    cases e2
    have nC : H c' = none := I.hok.fresh hge
    have hE : LamX.ExtN H (upd (upd H P (.tbl (ps ++ #[rawInt pos.line, rawInt pos.col, .ref c']))) c' (LamX.CodeO c' (X.env.qual ++ "<lambda>"))) := fun b o e n => by
      have nP : b ≠ P := fun z => by
        subst z
        rw [hP] at e
        exact n ps (Option.some.inj e).symm
      rw [upd_ne (ne_of_none e nC), upd_ne nP]
      exact e
    refine fin (LamX.inv_table (t' := tk) I hP hx htb hge ⟨oc, vs, t, hoc, hd, hv⟩) hE (fun p hp => ?_) upd_same (Nat.le_trans hge (Nat.le_of_lt hlt))
    obtain ⟨ps', a1, a2, a3⟩ := hT p hp
    by_cases hb : p.1 = P
    · rw [hu p hp hb, hb]
      refine ⟨_, by rw [upd_ne (ne_of_none hP nC), upd_same], ?_, fun p' cv hcv => ?_⟩
      · simp only [Array.toList_append]
        exact PySem.TriplesOk_snoc _ _ _ _ ht
      · rcases among_cases ht hcv with z | z
        · obtain ⟨c0, e1, e2⟩ := ha p' cv z
          exact ⟨c0, e1, hE _ _ e2 LamX.codeO_ne⟩
        · exact ⟨c', z, upd_same⟩
    · refine ⟨ps', by rw [upd_ne (ne_of_none a1 nC), upd_ne hb]; exact a1, a2, fun p' cv hcv => ?_⟩
      obtain ⟨c0, e1, e2⟩ := a3 p' cv hcv
      exact ⟨c0, e1, hE _ _ e2 LamX.codeO_ne⟩
/-- what stands at f may be called as sp says, wherever all of H stands -/
structure Acts (P : Program) (w : World) (K : PySem.W.Frag) (mg : Str → Option Value) (base : Heap) (k : Nat) (f : Addr) (H : Hp) (sp : Sp) : Prop where
  at_ : ∀ (A : Around) (outer : List Env) (s : Shared) (H' : Hp), Same H H' → Env0 P w K mg base A outer s H' → PySem.W.FnAt f s.heap
  run : ∀ (A : Around) (outer : List Env) (s : Shared) (H' : Hp) (us : List Value) (vs : List V) (Q : VK) (E : XK), Same H H' → Room k A → Env0 P w K mg base A outer s H' → Vals vs us → sp vs H' Q E →
    codeAny (model P w) A (.call (.ref f) ⟨us, []⟩) (CR (L2N.CX P w) outer P w H' s Q E) s
theorem Acts.same {P : Program} {w : World} {K : PySem.W.Frag} {mg : Str → Option Value} {base : Heap} {k : Nat} {f : Addr} {H H1 : Hp} {sp : Sp} (a : Acts P w K mg base k f H sp) (s1 : Same H H1) : Acts P w K mg base k f H1 sp :=
  ⟨fun A outer s H' s2 => a.at_ A outer s H' (s1.trans s2), fun A outer s H' us vs Q E s2 => a.run A outer s H' us vs Q E (s1.trans s2)⟩
theorem Acts.mono {P : Program} {w : World} {K : PySem.W.Frag} {mg : Str → Option Value} {base : Heap} {j k : Nat} {f : Addr} {H : Hp} {sp : Sp} (a : Acts P w K mg base j f H sp) (h : j ≤ k) : Acts P w K mg base k f H sp :=
  ⟨a.at_, fun A outer s H' us vs Q E s2 hr => a.run A outer s H' us vs Q E s2 (hr.mono h)⟩
/-- a def of the text -/
theorem Acts.fn {P : Program} {w : World} {K : PySem.W.Frag} {mg : Str → Option Value} {base : Heap} {k : Nat} {x qual : Str} {st : Stmt} {f : Addr} {fd : FuncData} {ps : List Str} {sp : Sp} {H : Hp} (F : Fun K x qual st f fd) (G : FnOk P w K mg base (L2N.CX P w) k f fd ps sp) (hb : Binds K fd ps []) :
    Acts P w K mg base k f H sp := by
  have KX : ∀ {A : Around} {outer : List Env} {s : Shared} {H' : Hp}, Env0 P w K mg base A outer s H' → K.In s.heap := fun e0 => e0.mod.kin.keeps fun b o e => (e0.bs b o e).1
  refine ⟨fun A outer s H' _ e0 => ?_, fun A outer s H' us vs Q E _ hr e0 r h => ?_⟩
  · obtain ⟨oc, od, kV, doc, pm, an, cdv, ct, osl, rfl, lk, hcd⟩ := F.ex
    exact ⟨_, _, _, _, KX e0 _ _ lk⟩
  · have hl : us.length = ps.length := by rw [← r.length]; exact G.len _ _ _ _ h
    have b := hb s us (KX e0) (by rw [List.append_nil]; exact hl)
    rw [List.append_nil] at b
    exact G.run A outer s H' ⟨us, []⟩ us vs Q E hr e0 b r h
/-- a lambda without captured names -/
theorem Acts.lam {P : Program} {w : World} {K : PySem.W.Frag} {mg : Str → Option Value} {base : Heap} {k : Nat} {f c' : Addr} {q : Str} {params : Arguments} {body : Expr} {scope : Scope} {pm ctv : Value} {N ps : List Str} {sp : Sp} {H : Hp}
    (hf : H f = some (FnO f (lamObj q params body scope [] pm c' ctv))) (hc : H c' = some (LamX.CodeO c' q)) (S : FnScope N ps scope) (len : ∀ vs H Q E, sp vs H Q E → vs.length = ps.length)
    (hb : ∀ us : List Value, us.length = ps.length → bindArgs (PySem.W.kla_fn "<lambda>" q params body scope [] pm (.ref c') ctv) ⟨us, []⟩ = pure (ps.zip us))
    (hbody : ∀ (A : Around) (outer : List Env) (s : Shared) (H' : Hp) (vs : List V) (Q : VK) (E : XK), Room k (A.deeper (envOfC q scope s.heap.objs.size f (.ref c'))) → Same H H' → sp vs H' Q E →
      ∃ t, PE (cxOf (L2N.CX P w) P w K mg base N q scope f (.ref c') A outer s H' E) body t ∧ t (start N vs) H' Q) : Acts P w K mg base (k + 1) f H sp := by
  have fo : ∀ {A : Around} {outer : List Env} {s : Shared} {H' : Hp}, Same H H' → Env0 P w K mg base A outer s H' → s.heap.get? f = some (lamObj q params body scope [] pm c' ctv) := fun s1 e0 => (e0.hok _ _ (s1 _ _ hf)).1
  refine ⟨fun A outer s H' s1 e0 => ⟨_, _, _, _, fo s1 e0⟩, fun A outer s H' us vs Q E s1 hr e0 r h => ?_⟩
  have hl := len _ _ _ _ h
  have hlu : us.length = ps.length := by rw [← r.length]; exact hl
  have lim : s.heap.NoLimit := e0.mod.nolimit.keeps fun b o e => (e0.bs b o e).1
  obtain ⟨⟨oc, vc, t, hoc, hdc, hvc⟩, _, _⟩ := e0.hok c' _ (s1 _ _ hc)
  refine PySem.W.kla_callFunE hr.depth (fo s1 e0) rfl S.co S.gen rfl ⟨c', oc, vc, t, rfl, hoc, hdc, hvc⟩ ?_
  rw [hb us hlu]
  refine wpAny_pure (wpAny_newFunctionEnv_cells S.kind (fun ⟨n, v⟩ hy => ?_) fun env he s2 x => ?_)
  · rcases S.par n (List.of_mem_zip hy).1 with z | z
    · exact .inl z
    · exact .inr ⟨z, PySem.W.cellsFrom_some _ _ _ (.inl z)⟩
  subst he
  obtain ⟨tt, ht, hq⟩ := hbody A outer s H' vs Q E (hr.deeper _) s1 h
  have I : Inv (cxOf (L2N.CX P w) P w K mg base N q scope f (.ref c') A outer s H' E) [] (start N vs) H' s2 := inv_start S hr.hd e0 hl r x
  refine ⟨lim.keeps x.toInCall.keep, PySem.W.kla_codeExpr (wpAny_mono (ht.run [] s2 _ H' Q I hq) (fun v s' hs => ?_) fun _ _ hs => hs)⟩
  obtain ⟨v', H2, J, rv, q2⟩ := hs
  exact ⟨v', H2, J.os, J.bare, J.base, J.hok, rv, q2⟩
/-- x(e, ..), x a local name -/
def tCallV (P : Program) (w : World) (K : PySem.W.Frag) (mg : Str → Option Value) (base : Heap) (k i : Nat) (E : L2.St → XK) (t : TA) : TE := fun σ H Q => ∃ (f : Addr) (sp : Sp), σ[i]? = some (some (.ref f)) ∧ Acts P w K mg base k f H sp ∧ t σ H fun vs H1 => Same H H1 ∧ sp vs H1 Q (E σ)
theorem pe_callV {X : Cx} {P : Program} {w : World} {K : PySem.W.Frag} {mg : Str → Option Value} {base : Heap} {k i : Nat} {E : L2.St → XK} {x : Str} {p pos : Pos} {e : Expr} {es : List Expr} {t : TA} (hr : Room k X.A) (hN : X.N[i]? = some x) (hv : Vis X.env.scope x) (hx : ∀ σ, PassesAt (L2N.CX X.prog X.w) X σ (E σ)) (ha : PA X (e :: es) t)
    (hdb : (x == ("__debug__" : Str)) = false := by decide) (hcd : (x == ("__classdict__" : Str)) = false := by decide)
    (he : starEach (e :: es) X.env = (false, eval e X.env) :: starEach es X.env := by rfl) (hpl : (backTo pos (starEach es X.env)).any (·.1) = false := by rfl)
    (e1 : X.prog = P := by rfl) (e2 : X.w = w := by rfl) (e3 : X.K = K := by rfl) (e4 : X.mg = mg := by rfl) (e5 : X.base = base := by rfl) : PE X (.Call (.Name x p) (e :: es) [] pos) (tCallV P w K mg base k i E t) := by
  subst e1 e2 e3 e4 e5
  refine ⟨fun pins s σ H Q I h => ?_⟩
  obtain ⟨f, sp, hs, ac, ht⟩ := h
  refine wpAny_Call_Name_kw (thn ((pe_var (pos := p) hN hv hdb hcd).run pins s σ H (fun v H1 => v = .ref f ∧ H1 = H) I ⟨.ref f, hs, rfl, rfl⟩) fun u s1 hh => ?_)
  obtain ⟨v, H1, I1, r1, ev, eH⟩ := hh
  subst ev
  rw [eH] at I1
  obtain rfl : u = Value.ref f := r1
  refine PySem.W.callWith_F (ac.at_ _ _ _ _ (Same.refl H) I1.env0) (thn (ha.run pos pins s1 σ _ _ I1 ht) fun us s2 hh => ?_) he hpl
  obtain ⟨vs, H2, I2, r, s12, q⟩ := hh
  refine ⟨ac.at_ _ _ _ _ s12 I2.env0, ?_⟩
  refine wpAny_call (codeAny_mono (ac.run X.A X.stack s2 H2 us vs Q (E σ) s12 hr I2.env0 r q) fun rr s' hq => ?_)
  cases rr with
  | error e => exact hx σ pins H2 s2 e s' I2 hq
  | ok fl =>
    cases fl with
    | ret u => exact I2.after hq
    | next => exact False.elim hq
    | brk => exact False.elim hq
    | cont => exact False.elim hq
/-- what the clauses 'except c as n', one after the other, wish of an exception of the body: n stands in the i-th slot -/
def Ends.less (D : Ends) (i : Nat) : Ends := { nx := fun σ' H' => D.nx (σ'.set i none) H', rt := D.rt, bk := fun σ' H' => D.bk (σ'.set i none) H', ct := fun σ' H' => D.ct (σ'.set i none) H' }
def wManyA (K : PySem.W.Frag) (i : Nat) (Wout : WX) (D : Ends) : List (Value × (Addr → Value → Option Addr → TS)) → WX
  | [] => Wout
  | (c, ts) :: r => fun cls d σ H => ∃ b, PySem.W.exmOne K cls c = some b ∧ (b = true → ∀ a, H a = none → ts a cls d (Ends.less D i) (σ.set i (some (.ref a))) H) ∧ (b = false → wManyA K i Wout D r cls d σ H)
/-- the clauses of a try, each with the same name n -/
inductive Clauses (X : Cx) (n : Str) : List ExceptHandler → List (Value × (Addr → Value → Option Addr → TS)) → Prop
  | nil : Clauses X n [] []
  | cons {x : Str} {c : Value} {ts : Addr → Value → Option Addr → TS} {st : Stmt} {suite : List Stmt} {np pos' : Pos} {hds : List ExceptHandler} {l : List (Value × (Addr → Value → Option Addr → TS))} (hc : Names X x c)
      (hsu : ∀ (a : Addr) (oe : Obj) (cls : Value) (d : Option Addr) (pn : List (Addr × Obj)), L2N.Zn cls d oe → (∃ vs, oe.data = .fields vs) → PSs (X.suite a ((a, oe) :: pn)) (st :: suite) (ts a cls d)) (r : Clauses X n hds l) :
      Clauses X n (.ExceptHandler (some (.Name x np)) (some n) (st :: suite) pos' :: hds) ((c, ts) :: l)
section
variable {X : Cx} {body : List Stmt} {n : Str} {i : Nat} {h₀ : ExceptHandler} {hds : List ExceptHandler} {l : List (Value × (Addr → Value → Option Addr → TS))} {pos : Pos} {tb : WX → TS} {Wout : WX}
theorem ps_try_manyA (hs : X.stack = X.env :: X.outer) (hf : X.env.frame = some X.env.locals) (hN : X.N.Nodup) (hi : X.N[i]? = some n) (hln : X.env.kindOf n = some .local) (tk : L2N.Takes X Wout)
    (hb : ∀ (W : WX) (pn : List (Addr × Obj)) (xe : Value → Shared → Prop), L2N.Takes (X.tr pn xe) W → PassesOwn (model X.prog X.w) X.A X.env xe → PSs (X.tr pn xe) body (tb W))
    (hh : Clauses X n (h₀ :: hds) l) : PS X (.Try body (h₀ :: hds) [] [] pos) (fun D σ H => tb (wManyA X.K i Wout D l) D σ H) := by
  refine ⟨fun pins s σ H D I h => wpAny_Try_except ?_⟩
  have ok := I.ok
  have frm : X.A.frames = some (X.env :: X.outer) := by rw [ok.frames, hs]
  refine wpAny_mono ((hb (wManyA X.K i Wout D l) (X.pn ++ pins) (fun e s1 => wpAny (model X.prog X.w) X.A (noteFrame e X.env) (fun _ s2 => wpAny (model X.prog X.w) X.A (setFlight e none) (fun _ s3 =>
    wpAny (model X.prog X.w) X.A (handleBy e X.env (h₀ :: hds)) (SP X pins D) X.xe s3) X.xe s2) X.xe s1) (fun u s' xx => ?_) PassesOwn.looking).run [] s σ H D (I.toTry _) h) (fun fl s1 sp1 => ?_) (fun e s1 he => he)
  · obtain ⟨a, B, sI, pins', σ', H', cls, d, rfl, J', nb, up, sky, na, os, ag, w⟩ := xx
    have J : Inv X pins σ' H' sI := J'.ofTry ok
    show wpAny (model X.prog X.w) X.A (noteFrame (.ref a) X.env) _ _ _
    refine L2N.Sky.land L2N.Zn.steady frm hf (by rw [← hs]; exact sky) fun h3 fl3 up3 => ?_
    have J3 : Inv X pins σ' H' { s' with heap := h3 } := J.landed nb fl3.1 (up.trans up3) os ag
    obtain ⟨oe3, vs3, he3, hz3, hd3⟩ := fl3.there
    have away : a ∉ frs (X.env :: X.outer) := fun hm => by
      obtain ⟨_, o', e', hnf⟩ := fl3.2.2.1.mem hm
      rw [he3] at e'
      cases e'
      exact hnf _ hd3
    have nL : a ≠ X.env.locals := fun z => away (List.mem_filterMap.mpr ⟨X.env, List.mem_cons_self, by rw [hf, z]⟩)
    have nF : a ∉ X.fs := fun hm => by
      obtain ⟨e, he, q⟩ := List.mem_filterMap.mp hm
      exact away (List.mem_filterMap.mpr ⟨e, List.mem_cons_of_mem _ he, q⟩)
    have S3 := J3.suite he3 hd3 na nL nF
    have walk : ∀ {hs' : List ExceptHandler} {l' : List (Value × (Addr → Value → Option Addr → TS))}, Clauses X n hs' l' → wManyA X.K i Wout D l' cls d σ' H' →
        wpAny (model X.prog X.w) X.A (handleBy (.ref a) X.env hs') (SP X pins D) X.xe { s' with heap := h3 } := by
      intro hs' l' hk
      induction hk with
      | nil =>
        intro w
        refine wpAny_handleBy_nil ?_
        obtain ⟨k1, k2, k3, oe, vs, T, oT, ts', he, hz, hd, h1, hr⟩ := id fl3
        unfold PySem.passOn
        refine wpAny_bind (wpAny_field he hd h1 ?_)
        rw [if_neg (show ¬ ((Value.ref T == Value.none) = true) from by simp)]
        have out : wpAny (model X.prog X.w) X.A (setFlight (.ref a) X.env.frame) (fun _ s4 => wpAny (model X.prog X.w) X.A (throw (.ref a) : Sem Flow) (SP X pins D) X.xe s4) X.xe { s' with heap := h3 } := by
          rw [hf]
          exact HandSPX.setFlight_upZ fl3 fun h4 hh4 up4 => wpAny_throw (tk _ _ ⟨a, B, sI, pins, σ', H', cls, d, rfl, J, nb, (up.trans up3).trans up4, .inr (.inr (by rw [hs]; exact hh4)), na, os, ag, w⟩)
        first
          | exact wpAny_bind (wpAny_pure (wpAny_bind out))
          | exact wpAny_bind out
      | @cons x c ts st suite np pos' hds2 l2 hc hsu r ih =>
        intro w
        obtain ⟨b, hb1, hyes, hno⟩ := w
        refine wpAny_handleBy_cons (codeAny_handlers_test ?_) (by intro q; cases q)
        have LT : PySem.W.Looks (model X.prog X.w) h3 (typeOf (.ref a)) cls := fun A Q E s k q => wpAny_typeOf_ref (k _ _ he3) (by rw [hz3.1]; exact q)
        have asked : ∀ {Q : Value → Shared → Prop} {E : Value → Shared → Prop}, Q c { s' with heap := h3 } → wpAny (model X.prog X.w) (X.A.mark (some (.ref a))) (eval (.Name x np) X.env) Q E { s' with heap := h3 } := fun {Q E} q => by
          obtain ⟨hg, hdbg, hm | ⟨hm, hv, hnn⟩⟩ := hc
          · exact ld_glob (X := X.suite a ((a, oe3) :: (X.pn ++ pins))) S3 hg hm q hdbg
          · exact ld_blt (X := X.suite a ((a, oe3) :: (X.pn ++ pins))) S3 hg hm hv q hnn hdbg
        refine asked ((PySem.W.exm_one (M := model X.prog X.w) J3.kIn LT hb1).here ?_)
        cases b with
        | false =>
          show wpAny _ X.A (handleBy (.ref a) X.env hds2) _ _ _
          exact ih (hno rfl)
        | true =>
          refine codeAny_handlers_suite_as (HandSPX.lands_againZ fl3 fun h4 fl4 up4 => ?_)
          have J4 : Inv X pins σ' H' { s' with heap := h4 } := J.landed nb fl4.1 ((up.trans up3).trans up4) os ag
          obtain ⟨oe4, vs4, he4, hz4, hd4⟩ := fl4.there
          refine store_ok (X := X.suite a ((a, oe4) :: (X.pn ++ pins))) (v := .ref a) (J4.suite he4 hd4 na nL nF) hN hi (.inl hln) rfl (fun s5 S5 => ?_) (.inr hln)
          refine wpAny_mono ((hsu a oe4 cls d (X.pn ++ pins) hz4 ⟨_, hd4⟩).run [] s5 _ H' _ S5 (hyes rfl a na)) (fun fl s6 sp6 => ?_) (fun _ _ z => False.elim z)
          have gone : ∀ {σ6 : L2.St} {H6 : Hp} {Q : Shared → Prop}, Inv (X.suite a ((a, oe4) :: (X.pn ++ pins))) [] σ6 H6 s6 → (∀ s7, Inv X pins (σ6.set i none) H6 s7 → Q s7) →
              wpAny (model X.prog X.w) X.A (do bindName X.env n .none; unbindBehindTheSuite X.env n pos') (fun _ s7 => Q s7) X.xe s6 := fun {σ6 H6 Q} S6 hq => gone_ok (S6.unsuite ok) hN hi hln hq
          cases fl with
          | ret u =>
            obtain ⟨v6, σ6, H6, S6, r6, q6⟩ := sp6
            exact gone S6 fun s7 J7 => ⟨_, _, _, J7, r6, q6⟩
          | next =>
            obtain ⟨σ6, H6, S6, q6⟩ := sp6
            exact gone S6 fun s7 J7 => ⟨_, _, J7, q6⟩
          | brk =>
            obtain ⟨σ6, H6, S6, q6⟩ := sp6
            exact gone S6 fun s7 J7 => ⟨_, _, J7, q6⟩
          | cont =>
            obtain ⟨σ6, H6, S6, q6⟩ := sp6
            exact gone S6 fun s7 J7 => ⟨_, _, J7, q6⟩
    exact walk hh w
  · cases fl with
    | ret u =>
      obtain ⟨v, σ', H', J', r, q⟩ := sp1
      exact ⟨v, σ', H', J'.ofTry ok, r, q⟩
    | next =>
      obtain ⟨σ', H', J', q⟩ := sp1
      exact wpAny_execs_nil ⟨σ', H', J'.ofTry ok, q⟩
    | brk =>
      obtain ⟨σ', H', J', q⟩ := sp1
      exact ⟨σ', H', J'.ofTry ok, q⟩
    | cont =>
      obtain ⟨σ', H', J', q⟩ := sp1
      exact ⟨σ', H', J'.ofTry ok, q⟩
end
theorem hotC_of {X : Cx} {a : Addr} {oe : Obj} {pn : List (Addr × Obj)} {cls : Value} {d : Option Addr} (hz : L2N.Zn cls d oe) (hf : ∃ vs, oe.data = .fields vs) : L2H.HotC (X.suite a ((a, oe) :: pn)) := by
  obtain ⟨vs, hv⟩ := hf
  exact ⟨(a, oe), ⟨rfl, vs, hv, hz.2.2 vs hv⟩, List.mem_cons_self⟩
/-- a clause, for an exception of an own class without a dict -/
theorem clause_exc {X : Cx} {n x : Str} {c : Value} {ts : Addr → Addr → TS} {st : Stmt} {suite : List Stmt} {np pos' : Pos} {hds : List ExceptHandler} {l : List (Value × (Addr → Value → Option Addr → TS))} (hc : Names X x c)
    (hsu : ∀ (a : Addr) (oe : Obj) (pn : List (Addr × Obj)) (D0 : Addr), L2N.Zn (.ref D0) none oe → (∃ vs, oe.data = .fields vs) → ExcC X.K D0 → L2H.HotC (X.suite a ((a, oe) :: pn)) → PSs (X.suite a ((a, oe) :: pn)) (st :: suite) (ts a D0)) (r : Clauses X n hds l) :
    Clauses X n (.ExceptHandler (some (.Name x np)) (some n) (st :: suite) pos' :: hds) ((c, fun a cls d D σ H => ∃ D0, cls = .ref D0 ∧ d = none ∧ ExcC X.K D0 ∧ ts a D0 D σ H) :: l) := by
  refine .cons hc (fun a oe cls d pn hz hf => ⟨fun pins s σ H D I q => ?_⟩) r
  obtain ⟨D0, e1, e2, e3, q⟩ := q
  subst e1 e2
  exact (hsu a oe pn D0 hz hf e3 (hotC_of hz hf)).run pins s σ H D I q
/-- a clause that is never come to -/
theorem clause_never {X : Cx} {n x : Str} {c : Value} {st : Stmt} {np pos' : Pos} {hds : List ExceptHandler} {l : List (Value × (Addr → Value → Option Addr → TS))} (hc : Names X x c) (r : Clauses X n hds l) :
    Clauses X n (.ExceptHandler (some (.Name x np)) (some n) [st] pos' :: hds) ((c, fun _ _ _ => tNever) :: l) := .cons hc (fun a oe cls d pn hz hf => pss_one ps_never) r
theorem no_free {scope : Scope} {cells : List (Str × Addr)} (h : (scope.names.all fun y => !decide (y.2 = .free)) = true) : ∀ y ∈ scope.names, y.2 = .free → ∃ c, cells.lookup y.1 = some c := fun y hy e => by
  have := List.all_eq_true.mp h y hy
  rw [e] at this
  exact absurd this (by decide)
theorem no_tab {K : PySem.W.Frag} {h : Heap} {P : Addr} (X : K.In h) (nt : PySem.W.noTabs K = true) (e : h.get? P = some { cls := .none, data := .fields #[] }) : K.lookup P = none := by
  cases q : K.lookup P with
  | none => rfl
  | some o =>
    have e1 := X _ _ q
    rw [e] at e1
    cases e1
    have := List.all_eq_true.mp nt _ (PySem.W.mem_of_lookupK q)
    exact absurd (show false = true from this) Bool.false_ne_true
/-- isinstance by what is known of the classes -/
theorem kit_of {K : PySem.W.Frag} {D C : Addr} {b : Bool} (hd : PySem.W.hasDictIn K C = true) (ht : PySem.W.typeIn K (.ref C) = some (.type "type")) (hr : PySem.W.subIn K (.ref C) (.ref C) = some true) (hs : PySem.W.subIn K (.ref D) (.ref C) = some b) : PySem.W.kitOne K (.ref D) (.ref C) = some b := by
  unfold PySem.W.kitOne
  split
  · rename_i e
    have e1 : Value.ref D = Value.ref C := beq_iff_eq.mp e
    cases e1
    rw [hr] at hs
    exact hs
  · obtain ⟨cd, hc, _⟩ := PySem.W.any_some hd
    show (if ((PySem.W.clsIn K C).isSome && PySem.W.typeIn K (.ref C) == some (.type "type")) = true then PySem.W.subIn K (.ref D) (.ref C) else none) = some b
    rw [if_pos (by rw [hc, ht]; rfl)]
    exact hs
theorem kit_val {K : PySem.W.Frag} {D : Addr} (hs : PySem.W.subIn K (.ref D) (.type "ValueError") = some true) : PySem.W.kitOne K (.ref D) (.type "ValueError") = some true := by
  show (if (Value.ref D == Value.type "ValueError") = true then some true else (if PySem.W.kitMeta "ValueError" = true then PySem.W.subIn K (.ref D) (.type "ValueError") else none)) = some true
  rw [if_neg (by intro z; have := beq_iff_eq.mp z; cases this), if_pos (by decide +kernel)]
  exact hs
/-! the tables through a law -/
theorem tabs_kb {T : List (Addr × Str)} {b : Addr} {H H' : Hp} (h : LamX.Tabs T H) (hb : Bag H b) (k : Kb b H H') : LamX.Tabs T H' := fun p hp => by
  obtain ⟨d, ds, c, hB, _⟩ := hb
  obtain ⟨ps, h1, h2, h3⟩ := h p hp
  refine ⟨ps, k _ _ (ne_of h1 hB (by intro z; cases z)) h1, h2, fun pos cv hc => ?_⟩
  obtain ⟨c0, e1, e2⟩ := h3 pos cv hc
  exact ⟨c0, e1, k _ _ (ne_of e2 hB (by intro z; unfold LamX.CodeO at z; cases z)) e2⟩
theorem tupS_ext {H H' : Hp} (e : LamX.ExtN H H') : TupS H H' := fun a xs h => e a _ h (fun ps z => by cases z)
theorem lst_ext {H H' : Hp} (e : LamX.ExtN H H') {a : Addr} {xs : List V} (h : H a = some (.lst xs)) : H' a = some (.lst xs) := e a _ h (fun ps z => by cases z)
theorem bag_ext {H H' : Hp} (e : LamX.ExtN H H') {b : Addr} (h : Bag H b) : Bag H' b := by
  obtain ⟨d, ds, c, h1, h2, h3⟩ := h
  exact ⟨d, ds, c, lst_ext e h1, lst_ext e h2, h3⟩
/-- a def whose code object is known -/
theorem ok_code {P : Program} {w : World} {K : PySem.W.Frag} {mg : Str → Option Value} {base : Heap} {x qual : Str} {st : Stmt} {f c : Addr} {fd : FuncData} {N ps : List Str} {k : Nat} {sp : Sp} (F : Fun K x qual st f fd) (hc : fd.code = .ref c) (S : FnScope N ps (defScope st)) (len : ∀ vs H Q E, sp vs H Q E → vs.length = ps.length)
    (hbody : ∀ (A : Around) (outer : List Env) (s : Shared) (H : Hp) (vs : List V) (Q : VK) (E : XK), Room k (A.deeper (envOfC qual (defScope st) s.heap.objs.size f (.ref c))) → sp vs H Q E →
      ∃ t, PSs (cxOf CX0 P w K mg base N qual (defScope st) f (.ref c) A outer s H E).nox (defBody st) t ∧ t { nx := fun _ H' => Q .non H', rt := Q } (start N vs) H) : FnOk P w K mg base CX0 (k + 1) f fd ps sp := by
  obtain ⟨oc, od, kV, doc, pm, an, cdv, ct, osl, rfl, lk, hcd⟩ := F.ex
  have e : cdv = .ref c := hc
  subst e
  refine fn_of lk hcd S len fun A outer s H vs Q E hr hsp => ?_
  obtain ⟨t, h, q⟩ := hbody A outer s H vs Q E hr hsp
  exact ⟨t, h.nox, q⟩
/-- a def that may raise, where nothing is handled -/
theorem okN {P : Program} {w : World} {K : PySem.W.Frag} {mg : Str → Option Value} {base : Heap} {x qual : Str} {st : Stmt} {f : Addr} {fd : FuncData} {N ps : List Str} {k : Nat} {sp : Sp} (F : Fun K x qual st f fd) (S : FnScope N ps (defScope st)) (len : ∀ vs H Q E, sp vs H Q E → vs.length = ps.length)
    (hbody : ∀ (cdv : Value) (A : Around) (outer : List Env) (s : Shared) (H : Hp) (vs : List V) (Q : VK) (E : XK), Room k (A.deeper (envOfC qual (defScope st) s.heap.objs.size f cdv)) → sp vs H Q E →
      ∃ t, PSs (cxOf (L2N.CX P w) P w K mg base N qual (defScope st) f cdv A outer s H E) (defBody st) t ∧ t { nx := fun _ H' => Q .non H', rt := Q } (start N vs) H) : FnOk P w K mg base (L2N.CX P w) (k + 1) f fd ps sp := by
  obtain ⟨oc, od, kV, doc, pm, an, cdv, ct, osl, rfl, lk, hcd⟩ := F.ex
  exact fn_of lk hcd S len fun A outer s H vs Q E hr hsp => hbody cdv A outer s H vs Q E hr hsp
theorem takesN0 {X : Cx} : L2N.Takes X (fun _ _ _ _ => False) := fun _ _ x => by
  obtain ⟨_, _, _, _, _, _, _, _, _, _, _, _, _, _, _, _, z⟩ := x
  exact z.elim
end TK

set_option maxRecDepth 100000
set_option maxHeartbeats 2000000
/-! a lambda with three parameters and one captured name, called where its maker still stands -/
namespace TK
open PySem PySem.Spec PyProof.Rows L2
/-- the names of such a lambda -/
structure CloS (x1 x2 x3 y : Str) (scope : Scope) : Prop where
  kind : scope.kind = .function
  co : scope.isCoroutine = false
  gen : scope.isGenerator = false
  nd : [x1, x2, x3, y].Nodup
  l1 : scope.names.lookup x1 = some .local
  l2 : scope.names.lookup x2 = some .local
  l3 : scope.names.lookup x3 = some .local
  fr : scope.names.lookup y = some .free
  own : ∀ z ∈ scope.names, z.2 ≠ .cell
  only : ∀ z ∈ scope.names, z.2 = .free → z.1 = y
/-- the context of its body -/
def cloCx (P : Program) (w : World) (K : PySem.W.Frag) (mg : Str → Option Value) (base : Heap) (x1 x2 x3 y q : Str) (scope : Scope) (f c' ct : Addr) (A : Around) (outer : List Env) (s : Shared) (H : Hp) (E : XK) : Cx where
  prog := P
  w := w
  K := K
  mg := mg
  base := base
  A := A.deeper (PySem.W.envX q scope s.heap.objs.size f (.ref c') [(y, ct)])
  N := [x1, x2, x3, y]
  s_0 := s
  H_0 := H
  env := PySem.W.envX q scope s.heap.objs.size f (.ref c') [(y, ct)]
  outer := outer
  stack := PySem.W.envX q scope s.heap.objs.size f (.ref c') [(y, ct)] :: outer
  ex := []
  fn := fun _ => false
  calm := true
  pn := []
  xe := fun e s' => wpAny (model P w) (A.deeper (PySem.W.envX q scope s.heap.objs.size f (.ref c') [(y, ct)])) (leaving (PySem.W.envX q scope s.heap.objs.size f (.ref c') [(y, ct)]) e) (fun _ s'' => L2N.CX P w outer H s E e s'') (fun e' s'' => L2N.CX P w outer H s E e' s'')  s'
section
variable {P : Program} {w : World} {K : PySem.W.Frag} {mg : Str → Option Value} {base : Heap} {x1 x2 x3 y q : Str} {scope : Scope} {f c' ct : Addr} {A : Around} {outer : List Env} {s : Shared} {H : Hp} {E : XK}
theorem clo_look {z : Str} {c : Addr} (h : ([(y, ct)] : List (Str × Addr)).lookup z = some c) : z = y ∧ c = ct := by
  rw [List.lookup_cons] at h
  split at h
  · rename_i e
    exact ⟨beq_iff_eq.mp e, (Option.some.inj h).symm⟩
  · cases h
theorem clo_inv {v1 v2 v3 vy : V} {u1 u2 u3 uy : Value} {h₁ : Heap} {tk : Nat} (S : CloS x1 x2 x3 y scope) (e0 : Env0 P w K mg base A outer s H) (hd : A.handled = none) (r1 : RelV v1 u1) (r2 : RelV v2 u2) (r3 : RelV v3 u3) (ry : RelV vy uy)
    (hc : s.heap.IsCell ct (some uy)) (hn : H ct = none) (hns : h₁.Ns s.heap.objs.size fun z => ([(x1, u1), (x2, u2), (x3, u3)] : List (Str × Value)).reverse.lookup z) (kp : ∀ b o, s.heap.get? b = some o → h₁.get? b = some o) :
    Inv (cloCx P w K mg base x1 x2 x3 y q scope f c' ct A outer s H E) [] [some v1, some v2, some v3, some vy] H { s with heap := h₁, toks := tk } := by
  have hc1 : h₁.IsCell ct (some uy) := by
    obtain ⟨o, ho, hd⟩ := hc
    exact ⟨o, kp _ _ ho, hd⟩
  have noA : ∀ b : Addr, b ∉ (cloCx P w K mg base x1 x2 x3 y q scope f c' ct A outer s H E).ex := fun b z => absurd (show b ∈ ([] : List Addr) from z) (by simp)
  have look : (([(y, ct)] : List (Str × Addr)).lookup y) = some ct := by simp
  have frees : ∀ {z}, scope.names.lookup z = some .free → z = y := fun {z} h => S.only _ (PySem.mem_of_lookup h) rfl
  have cells : ∀ {z}, scope.names.lookup z ≠ some .cell := fun {z} h => S.own _ (PySem.mem_of_lookup h) rfl
  have nd := S.nd
  simp only [List.nodup_cons, List.mem_cons, List.not_mem_nil, or_false, not_or, List.nodup_nil, not_false_eq_true, and_true] at nd
  obtain ⟨⟨n12, n13, n1y⟩, ⟨n23, n2y⟩, n3y⟩ := nd
  refine ⟨⟨e0.mod, S.kind, rfl, rfl, Nat.le_refl _, fun a b c ha hb => ?_, fun z hz => ?_, fun z c hz _ => ?_, fun _ => hd, Around.frames_deeper e0.frames, .inr ⟨rfl, rfl⟩, fun b z => absurd z (noA b), e0.bs, e0.bsz, fun b _ _ => noA b, fun b z => absurd z (noA b), e0.funs, e0.frf⟩,
    rfl, e0.bare, Un.kept kp, ⟨_, hns, fun i x v g1 g2 g3 => ?_⟩, fun z c hz => ?_, e0.hok.fresh (Nat.le_refl _), fun z c hz => ?_, fun p hp => absurd (show p ∈ ([] : List (Addr × Obj)) ++ [] from hp) (by simp), e0.hok.kept kp, rfl⟩
  · rw [(clo_look ha).1, (clo_look hb).1]
  · have hz : scope.names.lookup z = some .cell ∨ scope.names.lookup z = some .free := hz
    rcases hz with hz | hz
    · exact absurd hz cells
    · rw [frees hz]
      exact ⟨ct, look⟩
  · have hz : false = true := hz
    cases hz
  · have g1 : ([x1, x2, x3, y] : List Str)[i]? = some x := g1
    match i, g1, g2 with
    | 0, g1, g2 =>
      cases g1; cases g2
      refine ⟨u1, r1, .inl ⟨S.l1, ?_⟩⟩
      show ([(x3, u3), (x2, u2), (x1, u1)] : List (Str × Value)).lookup x1 = some u1
      have e1 : (x1 == x3) = false := beq_eq_false_iff_ne.mpr n13
      have e2 : (x1 == x2) = false := beq_eq_false_iff_ne.mpr n12
      simp [List.lookup_cons, e1, e2]
    | 1, g1, g2 =>
      cases g1; cases g2
      refine ⟨u2, r2, .inl ⟨S.l2, ?_⟩⟩
      show ([(x3, u3), (x2, u2), (x1, u1)] : List (Str × Value)).lookup x2 = some u2
      have e1 : (x2 == x3) = false := beq_eq_false_iff_ne.mpr n23
      simp [List.lookup_cons, e1]
    | 2, g1, g2 =>
      cases g1; cases g2
      refine ⟨u3, r3, .inl ⟨S.l3, ?_⟩⟩
      show ([(x3, u3), (x2, u2), (x1, u1)] : List (Str × Value)).lookup x3 = some u3
      simp [List.lookup_cons]
    | 3, g1, g2 =>
      cases g1; cases g2
      exact ⟨uy, ry, .inr ⟨.inr S.fr, ct, look, hc1⟩⟩
    | (i + 4), g1, _ => simp at g1
  · rw [(clo_look hz).2]
    exact ⟨_, hc1⟩
  · rw [(clo_look hz).2]
    exact hn
/-- the lambda called -/
theorem clo_run {params : Arguments} {body : Expr} {pm ctv : Value} {k : Nat} {vs : List V} {us : List Value} {v1 v2 v3 vy : V} {uy : Value} {Q : VK} {t : TE} (S : CloS x1 x2 x3 y scope) (hr : Room (k + 1) A) (e0 : Env0 P w K mg base A outer s H)
    (hf : s.heap.get? f = some (lamObj q params body scope [(y, ct)] pm c' ctv)) (hco : H c' = some (LamX.CodeO c' q)) (hv : vs = [v1, v2, v3]) (r : Vals vs us) (ry : RelV vy uy) (hc : s.heap.IsCell ct (some uy)) (hn : H ct = none)
    (hb : ∀ us : List Value, us.length = 3 → bindArgs (PySem.W.kla_fn "<lambda>" q params body scope [(y, ct)] pm (.ref c') ctv) ⟨us, []⟩ = pure ([x1, x2, x3].zip us))
    (hbody : Room k (A.deeper (PySem.W.envX q scope s.heap.objs.size f (.ref c') [(y, ct)])) → PE (cloCx P w K mg base x1 x2 x3 y q scope f c' ct A outer s H E) body t) (h : t [some v1, some v2, some v3, some vy] H Q) :
    codeAny (model P w) A (.call (.ref f) ⟨us, []⟩) (CR (L2N.CX P w) outer P w H s Q E) s := by
  subst hv
  obtain ⟨u1, u2, u3, rfl, q1, q2, q3⟩ : ∃ u1 u2 u3, us = [u1, u2, u3] ∧ RelV v1 u1 ∧ RelV v2 u2 ∧ RelV v3 u3 := by
    cases r with
    | cons q1 r =>
      cases r with
      | cons q2 r =>
        cases r with
        | cons q3 r => cases r; exact ⟨_, _, _, rfl, q1, q2, q3⟩
  have lim : s.heap.NoLimit := e0.mod.nolimit.keeps fun b o e => (e0.bs b o e).1
  obtain ⟨⟨oc, vc, tt, hoc, hdc, hvc⟩, _, _⟩ := e0.hok c' _ hco
  refine PySem.W.kla_callFunE hr.depth hf rfl S.co S.gen rfl ⟨c', oc, vc, tt, rfl, hoc, hdc, hvc⟩ ?_
  rw [hb _ rfl]
  refine wpAny_pure (wpAny_newFunctionEnv S.own (fun z hz => ?_) (fun h₁ hns hsb => ⟨lim.fresh _ hsb, ?_⟩) S.kind)
  · simp only [List.zip_cons_cons, List.zip_nil_right, List.mem_cons, List.not_mem_nil, or_false] at hz
    rcases hz with rfl | rfl | rfl
    · exact S.l1
    · exact S.l2
    · exact S.l3
  have kp : ∀ b o, s.heap.get? b = some o → h₁.get? b = some o := fun b o e => hsb.extBut b o (Nat.ne_of_lt (Heap.lt_size e)) (Heap.get?_push_of_some _ e)
  have J : Inv (cloCx P w K mg base x1 x2 x3 y q scope f c' ct A outer s H E) [] [some v1, some v2, some v3, some vy] H { s with heap := h₁, toks := s.toks + ([x1, x2, x3].zip [u1, u2, u3]).length } :=
    clo_inv S e0 hr.hd q1 q2 q3 ry hc hn hns kp
  show codeAny _ _ (.expr body (PySem.W.envX q scope s.heap.objs.size f (.ref c') [(y, ct)])) _ _
  refine PySem.W.kla_codeExpr (wpAny_mono ((hbody (hr.deeper _)).run [] _ _ H Q J h) (fun v s' hs => ?_) fun _ _ hs => hs)
  obtain ⟨v', H2, J2, rv, q2'⟩ := hs
  exact ⟨v', H2, J2.os, J2.bare, J2.base, J2.hok, rv, q2'⟩
end
/-- x(e, ..) where the callee's body is walked at the very state -/
theorem pe_here {X : Cx} {g : Addr} {fd : FuncData} {x qual : Str} {st : Stmt} {N ps : List Str} {k : Nat} {e : Expr} {es : List Expr} {t : TA} {p pos : Pos} (F : Fun X.K x qual st g fd) (S : FnScope N ps (defScope st)) (hr : Room (k + 1) X.A) (hg : Gl X x) (hm : X.mg x = some (.ref g)) (hb : Binds X.K fd ps []) (ha : PA X (e :: es) t)
    (hdb : (x == ("__debug__" : Str)) = false := by decide) (he : starEach (e :: es) X.env = (false, eval e X.env) :: starEach es X.env := by rfl) (hpl : (backTo pos (starEach es X.env)).any (·.1) = false := by rfl) :
    PE X (.Call (.Name x p) (e :: es) [] pos) (fun σ H Q => t σ H fun vs H1 => vs.length = ps.length ∧ ∀ (Q0 : VK), (∀ v H', Q v H' → Q0 v H') → ∀ (cdv : Value) (s1 : Shared) (pins : List (Addr × Obj)), Inv X pins σ H1 s1 → Room k (X.A.deeper (envOfC qual (defScope st) s1.heap.objs.size g cdv)) →
      ∃ t', PSs (cxOf CX0 X.prog X.w X.K X.mg X.base N qual (defScope st) g cdv X.A X.stack s1 H1 E0).nox (defBody st) t' ∧ t' { nx := fun _ H' => Q0 .non H', rt := Q0 } (start N vs) H1) := by
  refine ⟨fun pins s σ H Q I h => ?_⟩
  obtain ⟨oc, od, kV, doc, pm, an, cdv, ct, osl, rfl, lk, hcd⟩ := F.ex
  refine wpAny_Call_Name_kw (ld_glob I hg hm ?_ hdb)
  refine PySem.W.callWith_K (h₀ := X.base) I.ok.mod.kin F.kp (thn (ha.run pos pins s σ H _ I h) fun us s1 hh => ?_) he hpl
  obtain ⟨vs, H1, I1, r, hl, q⟩ := hh
  refine ⟨I1.kIn, ?_⟩
  have hlu : us.length = ps.length := by rw [← r.length]; exact hl
  have b := hb s1 us I1.kIn (by rw [List.append_nil]; exact hlu)
  rw [List.append_nil] at b
  have rc : codeAny (model X.prog X.w) X.A (.call (.ref g) ⟨us, []⟩) (CR CX0 X.stack X.prog X.w H1 s1 Q E0) s1 := by
    refine LamX.run_ofS (N := N) (ps := ps) (us := us) (vs := vs) lk hcd S hr I1.env0 b r hl fun hr' => ?_
    obtain ⟨t', ht, hq⟩ := q Q (fun _ _ h => h) cdv s1 pins I1 hr'
    exact ⟨t', ht.nox, hq⟩
  refine wpAny_call (codeAny_mono rc fun rr s2 hq => ?_)
  cases rr with
  | error e => exact (show False from hq).elim
  | ok fl =>
    cases fl with
    | ret u => exact I1.after hq
    | next => exact False.elim hq
    | brk => exact False.elim hq
    | cont => exact False.elim hq
/-- the captured name's cell, as its maker has it -/
theorem clo_cell {X : Cx} {pins : List (Addr × Obj)} {σ : L2.St} {H : Hp} {s : Shared} {i : Nat} {y : Str} {v : V} (I : Inv X pins σ H s) (hN : X.N[i]? = some y) (hs : σ[i]? = some (some v)) (hk : X.env.scope.names.lookup y = some .cell) :
    ∃ ct u, X.env.cells.lookup y = some ct ∧ RelV v u ∧ s.heap.IsCell ct (some u) ∧ H ct = none := by
  obtain ⟨m, hn, hl⟩ := I.loc
  obtain ⟨u, ru, q⟩ := hl i y v hN hs (.inr (.inl hk))
  rcases q with ⟨k', _⟩ | ⟨_, ct, e, z⟩
  · have k' : X.env.scope.names.lookup y = some .local := k'
    rw [hk] at k'
    cases k'
  · exact ⟨ct, u, e, ru, z, I.freeC y ct e⟩
/-- call(one, two, three), in the def that got such a lambda -/
theorem pe_callClo {X : Cx} {pins : List (Addr × Obj)} {σ : L2.St} {H : Hp} {s : Shared} {x1 x2 x3 y q : Str} {scope : Scope} {f c' ct : Addr} {params : Arguments} {body : Expr} {clo : List (Str × Addr)} {pm ctv : Value} (_hfx : ∃ H1 : Hp, H1 f = some (FnO f (lamObj q params body scope clo pm c' ctv))) (I : Inv X pins σ H s) {Ng : List Str} {qg : Str} {sg : Scope} {g : Addr} {cdg : Value} {pn : List (Addr × Obj)} {xe : Value → Shared → Prop} {W : WX}
    (tk : L2N.Takes ((cxOf CX0 X.prog X.w X.K X.mg X.base Ng qg sg g cdg X.A X.stack s H E0).nox.tr pn xe) W) {k : Nat} {vy : V} {uy : Value} {tb : XK → TE}
    {p1 p2 p3 p4 p5 : Pos} {nc n1 n2 n3 : Str} (S : CloS x1 x2 x3 y scope) (hc : s.heap.IsCell ct (some uy)) (hn : H ct = none) (ry : RelV vy uy) (hr : Room (k + 1) (X.A.deeper (envOfC qg sg s.heap.objs.size g cdg)))
    (hb : ∀ us : List Value, us.length = 3 → bindArgs (PySem.W.kla_fn "<lambda>" q params body scope [(y, ct)] pm (.ref c') ctv) ⟨us, []⟩ = pure ([x1, x2, x3].zip us))
    (hbody : ∀ (A : Around) (outer : List Env) (s : Shared) (H : Hp) (E : XK), Room k (A.deeper (PySem.W.envX q scope s.heap.objs.size f (.ref c') [(y, ct)])) → ∃ t, PE (cloCx X.prog X.w X.K X.mg X.base x1 x2 x3 y q scope f c' ct A outer s H E) body t ∧ ∀ σ H' Q, tb E σ H' Q → t σ H' Q)
    (hN0 : Ng[0]? = some nc) (hN1 : Ng[1]? = some n1) (hN2 : Ng[2]? = some n2) (hN3 : Ng[3]? = some n3) (h0 : Vis sg nc) (h1 : Vis sg n1) (h2 : Vis sg n2) (h3 : Vis sg n3)
    (a0 : (nc == ("__debug__" : Str)) = false := by decide) (b0 : (nc == ("__classdict__" : Str)) = false := by decide) (a1 : (n1 == ("__debug__" : Str)) = false := by decide) (b1 : (n1 == ("__classdict__" : Str)) = false := by decide)
    (a2 : (n2 == ("__debug__" : Str)) = false := by decide) (b2 : (n2 == ("__classdict__" : Str)) = false := by decide) (a3 : (n3 == ("__debug__" : Str)) = false := by decide) (b3 : (n3 == ("__classdict__" : Str)) = false := by decide) :
    PE ((cxOf CX0 X.prog X.w X.K X.mg X.base Ng qg sg g cdg X.A X.stack s H E0).nox.tr pn xe) (.Call (.Name nc p1) [.Name n1 p2, .Name n2 p3, .Name n3 p4] [] p5)
      (fun σZ HZ Q => ∃ v1 v2 v3, σZ[0]? = some (some (.ref f)) ∧ σZ[1]? = some (some v1) ∧ σZ[2]? = some (some v2) ∧ σZ[3]? = some (some v3) ∧ HZ f = some (FnO f (lamObj q params body scope [(y, ct)] pm c' ctv)) ∧ HZ c' = some (LamX.CodeO c' q) ∧ tb (WE W σZ) [some v1, some v2, some v3, some vy] HZ Q) := by
  refine ⟨fun pinsZ sZ σZ HZ Q IZ h => ?_⟩
  obtain ⟨v1, v2, v3, g0, g1, g2, g3, hf, hco, ht⟩ := h
  have pvv : ∀ {i : Nat} {n : Str} {ps : Pos}, Ng[i]? = some n → Vis sg n → (n == ("__debug__" : Str)) = false → (n == ("__classdict__" : Str)) = false → PE ((cxOf CX0 X.prog X.w X.K X.mg X.base Ng qg sg g cdg X.A X.stack s H E0).nox.tr pn xe) (.Name n ps) (tVar i) := fun hN hv hd hcd => pe_var hN hv hd hcd
  refine wpAny_Call_Name_kw (thn ((pvv (ps := p1) hN0 h0 a0 b0).run pinsZ sZ σZ HZ (fun v H1 => v = .ref f ∧ H1 = HZ) IZ ⟨.ref f, g0, rfl, rfl⟩) fun u s1 hh => ?_)
  obtain ⟨v, H1, I1, r1, ev, eH⟩ := hh
  subst ev
  rw [eH] at I1
  obtain rfl : u = Value.ref f := r1
  have of1 : s1.heap.get? f = some (lamObj q params body scope [(y, ct)] pm c' ctv) := (I1.hok f _ hf).1
  have pa : PA ((cxOf CX0 X.prog X.w X.K X.mg X.base Ng qg sg g cdg X.A X.stack s H E0).nox.tr pn xe) [.Name n1 p2, .Name n2 p3, .Name n3 p4] (tCons (tVar 1) (tCons (tVar 2) (tCons (tVar 3) tNil))) := pa_cons (pvv hN1 h1 a1 b1) (pa_cons (pvv hN2 h2 a2 b2) (pa_cons (pvv hN3 h3 a3 b3) pa_nil))
  refine PySem.W.callWith_F ⟨_, _, _, _, of1⟩ (thn (pa.run p5 pinsZ s1 σZ HZ (fun vs H1 => vs = [v1, v2, v3] ∧ H1 = HZ) I1 ⟨v1, g1, v2, g2, v3, g3, rfl, rfl⟩) fun us s2 hh => ?_)
  obtain ⟨vs, H2, I2, r, ev, eH2⟩ := hh
  rw [eH2] at I2
  have of2 : s2.heap.get? f = some (lamObj q params body scope [(y, ct)] pm c' ctv) := (I2.hok f _ hf).1
  refine ⟨⟨_, _, _, _, of2⟩, ?_⟩
  have un : Un (frs X.stack) [] H HZ s.heap s2.heap := I2.base
  have hc2 : s2.heap.IsCell ct (some uy) ∧ HZ ct = none := by
    obtain ⟨o, ho, hd⟩ := hc
    obtain ⟨sl, q⟩ := un.any ho hn (by simp)
    exact ⟨⟨_, q, hd⟩, un.free ct o ho hn (by simp)⟩
  refine wpAny_call (codeAny_mono (clo_run (E := WE W σZ) S hr I2.env0 of2 hco ev r ry hc2.1 hc2.2 hb (fun hr2 => let ⟨_, p1, p2⟩ := hbody _ _ _ _ _ hr2; ⟨fun pins s σ H Q I h => p1.run pins s σ H Q I (p2 σ H Q h)⟩) ht) fun rr s' hq => ?_)
  cases rr with
  | error e => exact L2N.passAt tk σZ pinsZ HZ s2 e s' I2 hq
  | ok fl =>
    cases fl with
    | ret u => exact I2.after hq
    | next => exact False.elim hq
    | brk => exact False.elim hq
    | cont => exact False.elim hq
end TK

set_option maxRecDepth 100000
set_option maxHeartbeats 2000000
/-! an own error of any arguments; len by an own __len__; two promises of one def -/
namespace TK
open PySem PySem.Spec PyProof.Rows L2
section
variable {X : Cx} {C : Addr} {bmB : List Value} {B newId initId : String}
theorem pmkNA {x : Str} {e : Expr} {es : List Expr} {t : TA} {p pos : Pos} (F : ExcBaseFacts B newId initId bmB) (q : PySem.W.excIn X.K C bmB newId = true) (gC : X.mg x = some (.ref C)) (kC : PySem.W.keepIn X.K (.ref C) = true) (r : Raises X (.ref C)) (hg : Gl X x) (ha : PA X (e :: es) t)
    (hdb : (x == ("__debug__" : Str)) = false := by decide) (he : starEach (e :: es) X.env = (false, eval e X.env) :: starEach es X.env := by rfl) (hpl : (backTo pos (starEach es X.env)).any (·.1) = false := by rfl) :
    L2N.PMk X (.Call (.Name x p) (e :: es) [] pos) (fun σ H Q => t σ H fun vs H1 => vs.length ≤ 1000 ∧ Q (.ref C) none H1) := by
  intro pins s σ H Q I h
  refine wpAny_Call_Name_kw (ld_glob I hg gC ?_ hdb)
  refine PySem.W.callWith_K (h₀ := X.base) I.ok.mod.kin kC (thn (ha.run pos pins s σ H _ I h) fun us s1 hh => ?_) he hpl
  obtain ⟨vs, H1, I1, r1, hl, qq⟩ := hh
  refine ⟨I1.kIn, ?_⟩
  show wpAny _ _ (call (.ref C) us) _ _ _
  obtain ⟨bm, N, nm, qn, bs, hdct, sn, sub, ab, col, dd, k0, k1, k2, k3, k5, mN, hC, hN, hni, T⟩ := exc_obj I1.kIn q
  refine wpAny_call_exc_subT F T hC hN hni (fun h' a hm => ?_) (by rw [← r1.length, sizeLine_eq]; omega)
  exact L2N.mk_of I1 hm r qq (I1.hok.gone hm.new)
/-- len(o), o of a class with an own __len__ -/
theorem call_lenOwn {CX : CXT} {f : Addr} {fd : FuncData} {ps : List Str} {n : Nat} {sp : Sp} {E : XK} (F : FnOk X.prog X.w X.K X.mg X.base CX n f fd ps sp) (hs : PySem.W.findIn X.K (.ref C) "__len__" = some (some (.ref f))) (hf : PySem.W.isFn X.K (.ref f) = true)
    (hb : Binds X.K fd ps []) (hx : Passes CX X E) (hr : Room (n + 1) X.A) :
    CallR X (.builtin "len") (fun xs H Q => ∃ (a dx : Addr) (fs : List (Str × V)), xs = [.ref a] ∧ H a = some (.ins C dx fs) ∧ sp [.ref a] H (fun v H' => ∃ k : Int, v = .int k ∧ 0 ≤ k ∧ k < 2 ^ 63 ∧ Q (.int k) H') E) := by
  intro pins s σ H xs us Q I r h
  obtain ⟨a, dx, fs, rfl, ha, hsp⟩ := h
  obtain ⟨u, rfl, ru⟩ := r.one
  obtain rfl : u = Value.ref a := ru
  obtain ⟨mA, J, _⟩ := ins_get I.hok ha
  obtain ⟨od, J, _⟩ := J.look
  obtain ⟨m, hF⟩ := I.fr
  refine PySem.W.len_K hF I.ok.mod.kin J hs hf ?_
  have hl := F.len _ _ _ _ hsp
  refine wpAny_call (codeAny_mono (F.run X.A.in1 X.stack s H ⟨[.ref a], []⟩ [.ref a] [.ref a] _ E hr.in1 I.env0.in1 (by
    have := hb s [.ref a] I.kIn (by simpa using hl)
    simpa using this) (.cons rfl .nil) hsp) fun r s' hq => ?_)
  cases r with
  | error e => exact hx pins σ H s e s' I hq
  | ok fl =>
    cases fl with
    | ret w =>
      obtain ⟨z, H', I', rz, k, ez, k0, k1, q⟩ := I.after hq
      subst ez
      obtain ⟨t, rfl⟩ := rz
      exact ⟨⟨k0, k1⟩, .int k, H', I'.tok _, ⟨_, rfl⟩, q⟩
    | next => exact False.elim hq
    | brk => exact False.elim hq
    | cont => exact False.elim hq
end
/-- a def that lets nothing out keeps its promise where something may be let out -/
theorem FnOk.toN {P : Program} {w : World} {K : PySem.W.Frag} {mg : Str → Option Value} {base : Heap} {k : Nat} {f : Addr} {fd : FuncData} {ps : List Str} {sp : Sp} (F : FnOk P w K mg base CX0 k f fd ps sp) : FnOk P w K mg base (L2N.CX P w) k f fd ps sp :=
  ⟨F.len, fun A outer s H args us vs Q E hr he hb hv hs => codeAny_mono (F.run A outer s H args us vs Q E hr he hb hv hs) fun r s' hq => by
    cases r with
    | error e => exact (show False from hq).elim
    | ok fl => cases fl <;> exact hq⟩
theorem FnOk.or {P : Program} {w : World} {K : PySem.W.Frag} {mg : Str → Option Value} {base : Heap} {CX : CXT} {k : Nat} {f : Addr} {fd : FuncData} {ps : List Str} {sp sp' : Sp} (F : FnOk P w K mg base CX k f fd ps sp) (G : FnOk P w K mg base CX k f fd ps sp') :
    FnOk P w K mg base CX k f fd ps (fun vs H Q E => sp vs H Q E ∨ sp' vs H Q E) :=
  ⟨fun vs H Q E h => h.elim (F.len vs H Q E) (G.len vs H Q E), fun A outer s H args us vs Q E hr he hb hv hs => hs.elim (F.run A outer s H args us vs Q E hr he hb hv) (G.run A outer s H args us vs Q E hr he hb hv)⟩
end TK

namespace Lk15
open PySem PySem.Spec PyProof.Rows L2 TK
def topS (i : Nat) : Stmt := PySem.Challenge.pw_takenth_k15_whole_a_belt_kept_deed_by_de.main.body.getD i (.Pass ⟨0, 0, 0, 0⟩)
abbrev s_is_whole : Stmt := topS 12
theorem sc_is_whole : FnScope ["thing", "least", "most"] ["thing", "least", "most"] (defScope s_is_whole) := ⟨rfl, rfl, rfl, by decide +kernel, rfl, by decide +kernel, by decide +kernel⟩
abbrev s_check_number : Stmt := topS 13
theorem sc_check_number : FnScope ["thing", "least", "most"] ["thing", "least", "most"] (defScope s_check_number) := ⟨rfl, rfl, rfl, by decide +kernel, rfl, by decide +kernel, by decide +kernel⟩
abbrev s_is_taker : Stmt := topS 19
theorem sc_is_taker : FnScope ["thing", "every", "counted"] ["thing"] (defScope s_is_taker) := ⟨rfl, rfl, rfl, by decide +kernel, rfl, by decide +kernel, by decide +kernel⟩
abbrev s_is_row : Stmt := topS 20
theorem sc_is_row : FnScope ["thing", "part"] ["thing"] (defScope s_is_row) := ⟨rfl, rfl, rfl, by decide +kernel, rfl, by decide +kernel, by decide +kernel⟩
abbrev s_check_row : Stmt := topS 21
theorem sc_check_row : FnScope ["thing"] ["thing"] (defScope s_check_row) := ⟨rfl, rfl, rfl, by decide +kernel, rfl, by decide +kernel, by decide +kernel⟩
abbrev s_taken : Stmt := topS 22
theorem sc_taken : FnScope ["row", "number", "told", "coming", "every", "counted", "took"] ["row", "number"] (defScope s_taken) := ⟨rfl, rfl, rfl, by decide +kernel, rfl, by decide +kernel, by decide +kernel⟩
abbrev s_check_place : Stmt := topS 25
theorem sc_check_place : FnScope ["row", "thing"] ["row", "thing"] (defScope s_check_place) := ⟨rfl, rfl, rfl, by decide +kernel, rfl, by decide +kernel, by decide +kernel⟩
abbrev s_counted_on : Stmt := topS 26
theorem sc_counted_on : FnScope ["row", "number", "told", "coming", "every", "counted", "took", "count"] ["row", "number"] (defScope s_counted_on) := ⟨rfl, rfl, rfl, by decide +kernel, rfl, by decide +kernel, by decide +kernel⟩
abbrev s_Belt___init__ : Stmt := inClass (topS 27) 0
theorem sc_Belt___init__ : FnScope ["self"] ["self"] (defScope s_Belt___init__) := ⟨rfl, rfl, rfl, by decide +kernel, rfl, by decide +kernel, by decide +kernel⟩
abbrev s_Belt_go_by : Stmt := inClass (topS 27) 1
theorem sc_Belt_go_by : FnScope ["self", "number", "told"] ["self", "number"] (defScope s_Belt_go_by) := ⟨rfl, rfl, rfl, by decide +kernel, rfl, by decide +kernel, by decide +kernel⟩
abbrev s_Belt_come : Stmt := inClass (topS 27) 2
theorem sc_Belt_come : FnScope ["self", "taker"] ["self", "taker"] (defScope s_Belt_come) := ⟨rfl, rfl, rfl, by decide +kernel, rfl, by decide +kernel, by decide +kernel⟩
abbrev s_Belt_leave : Stmt := inClass (topS 27) 3
theorem sc_Belt_leave : FnScope ["self", "place"] ["self", "place"] (defScope s_Belt_leave) := ⟨rfl, rfl, rfl, by decide +kernel, rfl, by decide +kernel, by decide +kernel⟩
abbrev s_Belt_change : Stmt := inClass (topS 27) 4
theorem sc_Belt_change : FnScope ["self", "place", "other", "standing"] ["self", "place", "other"] (defScope s_Belt_change) := ⟨rfl, rfl, rfl, by decide +kernel, rfl, by decide +kernel, by decide +kernel⟩
abbrev s_Belt_row : Stmt := inClass (topS 27) 5
theorem sc_Belt_row : FnScope ["self"] ["self"] (defScope s_Belt_row) := ⟨rfl, rfl, rfl, by decide +kernel, rfl, by decide +kernel, by decide +kernel⟩
abbrev s_Belt_gone : Stmt := inClass (topS 27) 6
theorem sc_Belt_gone : FnScope ["self"] ["self"] (defScope s_Belt_gone) := ⟨rfl, rfl, rfl, by decide +kernel, rfl, by decide +kernel, by decide +kernel⟩
abbrev s_Belt_left_over : Stmt := inClass (topS 27) 7
theorem sc_Belt_left_over : FnScope ["self"] ["self"] (defScope s_Belt_left_over) := ⟨rfl, rfl, rfl, by decide +kernel, rfl, by decide +kernel, by decide +kernel⟩
abbrev s_Belt___len__ : Stmt := inClass (topS 27) 8
theorem sc_Belt___len__ : FnScope ["self"] ["self"] (defScope s_Belt___len__) := ⟨rfl, rfl, rfl, by decide +kernel, rfl, by decide +kernel, by decide +kernel⟩
abbrev s_Belt___eq__ : Stmt := inClass (topS 27) 9
theorem sc_Belt___eq__ : FnScope ["self", "other"] ["self", "other"] (defScope s_Belt___eq__) := ⟨rfl, rfl, rfl, by decide +kernel, rfl, by decide +kernel, by decide +kernel⟩
abbrev s__law_cell_at : Stmt := topS 29
theorem sc__law_cell_at : FnScope ["script", "k"] ["script", "k"] (defScope s__law_cell_at) := ⟨rfl, rfl, rfl, by decide +kernel, rfl, by decide +kernel, by decide +kernel⟩
abbrev s__law_draws : Stmt := topS 30
theorem sc__law_draws : FnScope ["cell", "many", "size", "found", "rest", "stirred", "k"] ["cell", "many", "size"] (defScope s__law_draws) := ⟨rfl, rfl, rfl, by decide +kernel, rfl, by decide +kernel, by decide +kernel⟩
abbrev s__law_from : Stmt := topS 31
theorem sc__law_from : FnScope ["thing", "least", "top"] ["thing", "least", "top"] (defScope s__law_from) := ⟨rfl, rfl, rfl, by decide +kernel, rfl, by decide +kernel, by decide +kernel⟩
abbrev s__law_bag : Stmt := topS 32
theorem sc__law_bag : FnScope ["script", "k"] ["script", "k"] (defScope s__law_bag) := ⟨rfl, rfl, rfl, by decide +kernel, rfl, by decide +kernel, by decide +kernel⟩
abbrev s__law_bags : Stmt := topS 33
theorem sc__law_bags : FnScope ["script", "limit", "k"] ["script", "limit"] (defScope s__law_bags) := ⟨rfl, rfl, rfl, by decide +kernel, rfl, by decide +kernel, by decide +kernel⟩
abbrev s__law_take : Stmt := topS 34
theorem sc__law_take : FnScope ["bag", "many"] ["bag", "many"] (defScope s__law_take) := ⟨rfl, rfl, rfl, by decide +kernel, rfl, by decide +kernel, by decide +kernel⟩
abbrev s__law_far_draw : Stmt := topS 35
theorem sc__law_far_draw : FnScope ["bag", "many", "found", "much"] ["bag", "many"] (defScope s__law_far_draw) := ⟨rfl, rfl, rfl, by decide +kernel, rfl, by decide +kernel, by decide +kernel⟩
abbrev s__law_taker : Stmt := topS 36
theorem sc__law_taker : FnScope ["bag", "far", "every"] ["bag", "far"] (defScope s__law_taker) := ⟨rfl, rfl, rfl, by decide +kernel, rfl, by decide +kernel, by decide +kernel⟩
abbrev s__law_gone : Stmt := topS 37
theorem sc__law_gone : FnScope ["house", "many", "piece", "counted", "found", "took", "place", "one", "every", "begun"] ["house", "many"] (defScope s__law_gone) := ⟨rfl, rfl, rfl, by decide +kernel, rfl, by decide +kernel, by decide +kernel⟩
abbrev s__law_numbers : Stmt := topS 38
theorem sc__law_numbers : FnScope ["house", "seen", "place"] ["house", "seen"] (defScope s__law_numbers) := ⟨rfl, rfl, rfl, by decide +kernel, rfl, by decide +kernel, by decide +kernel⟩
abbrev s__law_refused : Stmt := topS 39
theorem sc__law_refused : FnScope ["call", "one", "two", "three", "kin", "e", "words", "word", "there"] ["call", "one", "two", "three"] (defScope s__law_refused) := ⟨rfl, rfl, rfl, by decide +kernel, rfl, by decide +kernel, by decide +kernel⟩
abbrev s__law_after : Stmt := topS 40
theorem sc__law_after : FnScope ["state", "deed", "place", "rows", "house", "gone", "over", "word", "one", "other", "some", "seen", "counted", "taker", "number"] ["state", "deed"] (defScope s__law_after) := ⟨rfl, rfl, rfl, by decide +kernel, rfl, by decide +kernel, by decide +kernel⟩
abbrev s__law_do : Stmt := topS 41
theorem sc__law_do : FnScope ["belt", "deed", "word", "one", "other"] ["belt", "deed"] (defScope s__law_do) := ⟨rfl, rfl, rfl, by decide +kernel, rfl, by decide +kernel, by decide +kernel⟩
abbrev s__law_done : Stmt := topS 42
theorem sc__law_done : FnScope ["belt", "deed", "told", "kin"] ["belt", "deed"] (defScope s__law_done) := ⟨rfl, rfl, rfl, by decide +kernel, rfl, by decide +kernel, by decide +kernel⟩
abbrev s__law_a_deed : Stmt := topS 43
theorem sc__law_a_deed : FnScope ["bag", "many", "word", "places", "one", "other"] ["bag", "many"] (defScope s__law_a_deed) := ⟨rfl, rfl, rfl, by decide +kernel, rfl, by decide +kernel, by decide +kernel⟩
abbrev s_law : Stmt := topS 44
theorem sc_law : FnScope ["script", "bag", "turn", "far", "part", "due", "belt", "other", "state", "deed", "some", "rest", "told", "kin", "one", "two"] ["script"] (defScope s_law) := ⟨rfl, rfl, rfl, by decide +kernel, rfl, by decide +kernel, by decide +kernel⟩
structure Top (K : PySem.W.Frag) (mg : Str → Option Value) where
  C_Belt : Addr
  a_is_whole : Addr
  fd_is_whole : FuncData
  F_is_whole : Fun K "is_whole" "is_whole" s_is_whole a_is_whole fd_is_whole
  b_is_whole : Binds K fd_is_whole ["thing", "least", "most"] []
  g_is_whole : mg "is_whole" = some (.ref a_is_whole)
  a_check_number : Addr
  fd_check_number : FuncData
  F_check_number : Fun K "check_number" "check_number" s_check_number a_check_number fd_check_number
  b_check_number : Binds K fd_check_number ["thing", "least", "most"] []
  g_check_number : mg "check_number" = some (.ref a_check_number)
  a_is_taker : Addr
  fd_is_taker : FuncData
  F_is_taker : Fun K "is_taker" "is_taker" s_is_taker a_is_taker fd_is_taker
  b_is_taker : Binds K fd_is_taker ["thing"] []
  g_is_taker : mg "is_taker" = some (.ref a_is_taker)
  a_is_row : Addr
  fd_is_row : FuncData
  F_is_row : Fun K "is_row" "is_row" s_is_row a_is_row fd_is_row
  b_is_row : Binds K fd_is_row ["thing"] []
  g_is_row : mg "is_row" = some (.ref a_is_row)
  a_check_row : Addr
  fd_check_row : FuncData
  F_check_row : Fun K "check_row" "check_row" s_check_row a_check_row fd_check_row
  b_check_row : Binds K fd_check_row ["thing"] []
  g_check_row : mg "check_row" = some (.ref a_check_row)
  a_taken : Addr
  fd_taken : FuncData
  F_taken : Fun K "taken" "taken" s_taken a_taken fd_taken
  b_taken : Binds K fd_taken ["row", "number"] []
  g_taken : mg "taken" = some (.ref a_taken)
  a_check_place : Addr
  fd_check_place : FuncData
  F_check_place : Fun K "check_place" "check_place" s_check_place a_check_place fd_check_place
  b_check_place : Binds K fd_check_place ["row", "thing"] []
  g_check_place : mg "check_place" = some (.ref a_check_place)
  a_counted_on : Addr
  fd_counted_on : FuncData
  F_counted_on : Fun K "counted_on" "counted_on" s_counted_on a_counted_on fd_counted_on
  b_counted_on : Binds K fd_counted_on ["row", "number"] []
  g_counted_on : mg "counted_on" = some (.ref a_counted_on)
  a_Belt___init__ : Addr
  fd_Belt___init__ : FuncData
  F_Belt___init__ : Fun K "__init__" "Belt.__init__" s_Belt___init__ a_Belt___init__ fd_Belt___init__
  b_Belt___init__ : Binds K fd_Belt___init__ ["self"] []
  m_Belt___init__ : Meth K C_Belt "__init__" a_Belt___init__
  a_Belt_go_by : Addr
  fd_Belt_go_by : FuncData
  F_Belt_go_by : Fun K "go_by" "Belt.go_by" s_Belt_go_by a_Belt_go_by fd_Belt_go_by
  b_Belt_go_by : Binds K fd_Belt_go_by ["self", "number"] []
  m_Belt_go_by : Meth K C_Belt "go_by" a_Belt_go_by
  a_Belt_come : Addr
  fd_Belt_come : FuncData
  F_Belt_come : Fun K "come" "Belt.come" s_Belt_come a_Belt_come fd_Belt_come
  b_Belt_come : Binds K fd_Belt_come ["self", "taker"] []
  m_Belt_come : Meth K C_Belt "come" a_Belt_come
  a_Belt_leave : Addr
  fd_Belt_leave : FuncData
  F_Belt_leave : Fun K "leave" "Belt.leave" s_Belt_leave a_Belt_leave fd_Belt_leave
  b_Belt_leave : Binds K fd_Belt_leave ["self", "place"] []
  m_Belt_leave : Meth K C_Belt "leave" a_Belt_leave
  a_Belt_change : Addr
  fd_Belt_change : FuncData
  F_Belt_change : Fun K "change" "Belt.change" s_Belt_change a_Belt_change fd_Belt_change
  b_Belt_change : Binds K fd_Belt_change ["self", "place", "other"] []
  m_Belt_change : Meth K C_Belt "change" a_Belt_change
  a_Belt_row : Addr
  fd_Belt_row : FuncData
  F_Belt_row : Fun K "row" "Belt.row" s_Belt_row a_Belt_row fd_Belt_row
  b_Belt_row : Binds K fd_Belt_row ["self"] []
  m_Belt_row : Meth K C_Belt "row" a_Belt_row
  a_Belt_gone : Addr
  fd_Belt_gone : FuncData
  F_Belt_gone : Fun K "gone" "Belt.gone" s_Belt_gone a_Belt_gone fd_Belt_gone
  b_Belt_gone : Binds K fd_Belt_gone ["self"] []
  m_Belt_gone : Meth K C_Belt "gone" a_Belt_gone
  a_Belt_left_over : Addr
  fd_Belt_left_over : FuncData
  F_Belt_left_over : Fun K "left_over" "Belt.left_over" s_Belt_left_over a_Belt_left_over fd_Belt_left_over
  b_Belt_left_over : Binds K fd_Belt_left_over ["self"] []
  m_Belt_left_over : Meth K C_Belt "left_over" a_Belt_left_over
  a_Belt___len__ : Addr
  fd_Belt___len__ : FuncData
  F_Belt___len__ : Fun K "__len__" "Belt.__len__" s_Belt___len__ a_Belt___len__ fd_Belt___len__
  b_Belt___len__ : Binds K fd_Belt___len__ ["self"] []
  m_Belt___len__ : Meth K C_Belt "__len__" a_Belt___len__
  a_Belt___eq__ : Addr
  fd_Belt___eq__ : FuncData
  F_Belt___eq__ : Fun K "__eq__" "Belt.__eq__" s_Belt___eq__ a_Belt___eq__ fd_Belt___eq__
  b_Belt___eq__ : Binds K fd_Belt___eq__ ["self", "other"] []
  m_Belt___eq__ : Meth K C_Belt "__eq__" a_Belt___eq__
  a__law_cell_at : Addr
  fd__law_cell_at : FuncData
  F__law_cell_at : Fun K "_law_cell_at" "_law_cell_at" s__law_cell_at a__law_cell_at fd__law_cell_at
  b__law_cell_at : Binds K fd__law_cell_at ["script", "k"] []
  g__law_cell_at : mg "_law_cell_at" = some (.ref a__law_cell_at)
  a__law_draws : Addr
  fd__law_draws : FuncData
  F__law_draws : Fun K "_law_draws" "_law_draws" s__law_draws a__law_draws fd__law_draws
  b__law_draws : Binds K fd__law_draws ["cell", "many", "size"] []
  g__law_draws : mg "_law_draws" = some (.ref a__law_draws)
  a__law_from : Addr
  fd__law_from : FuncData
  F__law_from : Fun K "_law_from" "_law_from" s__law_from a__law_from fd__law_from
  b__law_from : Binds K fd__law_from ["thing", "least", "top"] []
  g__law_from : mg "_law_from" = some (.ref a__law_from)
  a__law_bag : Addr
  fd__law_bag : FuncData
  F__law_bag : Fun K "_law_bag" "_law_bag" s__law_bag a__law_bag fd__law_bag
  b__law_bag : Binds K fd__law_bag ["script", "k"] []
  g__law_bag : mg "_law_bag" = some (.ref a__law_bag)
  a__law_bags : Addr
  fd__law_bags : FuncData
  F__law_bags : Fun K "_law_bags" "_law_bags" s__law_bags a__law_bags fd__law_bags
  b__law_bags : Binds K fd__law_bags ["script", "limit"] []
  g__law_bags : mg "_law_bags" = some (.ref a__law_bags)
  a__law_take : Addr
  fd__law_take : FuncData
  F__law_take : Fun K "_law_take" "_law_take" s__law_take a__law_take fd__law_take
  b__law_take : Binds K fd__law_take ["bag", "many"] []
  g__law_take : mg "_law_take" = some (.ref a__law_take)
  a__law_far_draw : Addr
  fd__law_far_draw : FuncData
  F__law_far_draw : Fun K "_law_far_draw" "_law_far_draw" s__law_far_draw a__law_far_draw fd__law_far_draw
  b__law_far_draw : Binds K fd__law_far_draw ["bag", "many"] []
  g__law_far_draw : mg "_law_far_draw" = some (.ref a__law_far_draw)
  a__law_taker : Addr
  fd__law_taker : FuncData
  F__law_taker : Fun K "_law_taker" "_law_taker" s__law_taker a__law_taker fd__law_taker
  b__law_taker : Binds K fd__law_taker ["bag", "far"] []
  g__law_taker : mg "_law_taker" = some (.ref a__law_taker)
  a__law_gone : Addr
  fd__law_gone : FuncData
  F__law_gone : Fun K "_law_gone" "_law_gone" s__law_gone a__law_gone fd__law_gone
  b__law_gone : Binds K fd__law_gone ["house", "many"] []
  g__law_gone : mg "_law_gone" = some (.ref a__law_gone)
  a__law_numbers : Addr
  fd__law_numbers : FuncData
  F__law_numbers : Fun K "_law_numbers" "_law_numbers" s__law_numbers a__law_numbers fd__law_numbers
  b__law_numbers : Binds K fd__law_numbers ["house", "seen"] []
  g__law_numbers : mg "_law_numbers" = some (.ref a__law_numbers)
  a__law_refused : Addr
  fd__law_refused : FuncData
  F__law_refused : Fun K "_law_refused" "_law_refused" s__law_refused a__law_refused fd__law_refused
  b__law_refused : Binds K fd__law_refused ["call", "one", "two", "three"] []
  g__law_refused : mg "_law_refused" = some (.ref a__law_refused)
  a__law_after : Addr
  fd__law_after : FuncData
  F__law_after : Fun K "_law_after" "_law_after" s__law_after a__law_after fd__law_after
  b__law_after : Binds K fd__law_after ["state", "deed"] []
  g__law_after : mg "_law_after" = some (.ref a__law_after)
  a__law_do : Addr
  fd__law_do : FuncData
  F__law_do : Fun K "_law_do" "_law_do" s__law_do a__law_do fd__law_do
  b__law_do : Binds K fd__law_do ["belt", "deed"] []
  g__law_do : mg "_law_do" = some (.ref a__law_do)
  a__law_done : Addr
  fd__law_done : FuncData
  F__law_done : Fun K "_law_done" "_law_done" s__law_done a__law_done fd__law_done
  b__law_done : Binds K fd__law_done ["belt", "deed"] []
  g__law_done : mg "_law_done" = some (.ref a__law_done)
  a__law_a_deed : Addr
  fd__law_a_deed : FuncData
  F__law_a_deed : Fun K "_law_a_deed" "_law_a_deed" s__law_a_deed a__law_a_deed fd__law_a_deed
  b__law_a_deed : Binds K fd__law_a_deed ["bag", "many"] []
  g__law_a_deed : mg "_law_a_deed" = some (.ref a__law_a_deed)
  a_law : Addr
  fd_law : FuncData
  F_law : Fun K "law" "law" s_law a_law fd_law
  b_law : Binds K fd_law ["script"] []
  g_law : mg "law" = some (.ref a_law)
  cl_Belt : Cls K C_Belt
  mk_Belt : Mk K C_Belt a_Belt___init__
  g_Belt : mg "Belt" = some (.ref C_Belt)
  n_Belt_takers : NoAttr K C_Belt "takers"
  n_Belt_pieces : NoAttr K C_Belt "pieces"
  n_Belt_passed : NoAttr K C_Belt "passed"
  ins_Belt : C8.InsC K C_Belt
  st_Belt : PySem.W.subIn K (.type "tuple") (.ref C_Belt) = some false
  ty_Belt : PySem.W.typeIn K (.ref C_Belt) = some (.type "type")
  C_TakeError : Addr
  C_NoRow : Addr
  C_NoNumber : Addr
  C_NoTaker : Addr
  C_NoSeen : Addr
  C_NoCounts : Addr
  C_NoPlace : Addr
  C_Unlike : Addr
  C_Full : Addr
  C_TooMany : Addr
  g_TakeError : mg "TakeError" = some (.ref C_TakeError)
  b_TakeError : PySem.W.subIn K (.ref C_TakeError) (.type "BaseException") = some true
  t_TakeError : PySem.W.typeIn K (.ref C_TakeError) = some (.type "type")
  d_TakeError : PySem.W.hasDictIn K C_TakeError = true
  r_TakeError : PySem.W.subIn K (.ref C_TakeError) (.ref C_TakeError) = some true
  g_NoRow : mg "NoRow" = some (.ref C_NoRow)
  b_NoRow : PySem.W.subIn K (.ref C_NoRow) (.type "BaseException") = some true
  t_NoRow : PySem.W.typeIn K (.ref C_NoRow) = some (.type "type")
  d_NoRow : PySem.W.hasDictIn K C_NoRow = true
  r_NoRow : PySem.W.subIn K (.ref C_NoRow) (.ref C_NoRow) = some true
  g_NoNumber : mg "NoNumber" = some (.ref C_NoNumber)
  b_NoNumber : PySem.W.subIn K (.ref C_NoNumber) (.type "BaseException") = some true
  t_NoNumber : PySem.W.typeIn K (.ref C_NoNumber) = some (.type "type")
  d_NoNumber : PySem.W.hasDictIn K C_NoNumber = true
  r_NoNumber : PySem.W.subIn K (.ref C_NoNumber) (.ref C_NoNumber) = some true
  g_NoTaker : mg "NoTaker" = some (.ref C_NoTaker)
  b_NoTaker : PySem.W.subIn K (.ref C_NoTaker) (.type "BaseException") = some true
  t_NoTaker : PySem.W.typeIn K (.ref C_NoTaker) = some (.type "type")
  d_NoTaker : PySem.W.hasDictIn K C_NoTaker = true
  r_NoTaker : PySem.W.subIn K (.ref C_NoTaker) (.ref C_NoTaker) = some true
  g_NoSeen : mg "NoSeen" = some (.ref C_NoSeen)
  b_NoSeen : PySem.W.subIn K (.ref C_NoSeen) (.type "BaseException") = some true
  t_NoSeen : PySem.W.typeIn K (.ref C_NoSeen) = some (.type "type")
  d_NoSeen : PySem.W.hasDictIn K C_NoSeen = true
  r_NoSeen : PySem.W.subIn K (.ref C_NoSeen) (.ref C_NoSeen) = some true
  g_NoCounts : mg "NoCounts" = some (.ref C_NoCounts)
  b_NoCounts : PySem.W.subIn K (.ref C_NoCounts) (.type "BaseException") = some true
  t_NoCounts : PySem.W.typeIn K (.ref C_NoCounts) = some (.type "type")
  d_NoCounts : PySem.W.hasDictIn K C_NoCounts = true
  r_NoCounts : PySem.W.subIn K (.ref C_NoCounts) (.ref C_NoCounts) = some true
  g_NoPlace : mg "NoPlace" = some (.ref C_NoPlace)
  b_NoPlace : PySem.W.subIn K (.ref C_NoPlace) (.type "BaseException") = some true
  t_NoPlace : PySem.W.typeIn K (.ref C_NoPlace) = some (.type "type")
  d_NoPlace : PySem.W.hasDictIn K C_NoPlace = true
  r_NoPlace : PySem.W.subIn K (.ref C_NoPlace) (.ref C_NoPlace) = some true
  g_Unlike : mg "Unlike" = some (.ref C_Unlike)
  b_Unlike : PySem.W.subIn K (.ref C_Unlike) (.type "BaseException") = some true
  t_Unlike : PySem.W.typeIn K (.ref C_Unlike) = some (.type "type")
  d_Unlike : PySem.W.hasDictIn K C_Unlike = true
  r_Unlike : PySem.W.subIn K (.ref C_Unlike) (.ref C_Unlike) = some true
  g_Full : mg "Full" = some (.ref C_Full)
  b_Full : PySem.W.subIn K (.ref C_Full) (.type "BaseException") = some true
  t_Full : PySem.W.typeIn K (.ref C_Full) = some (.type "type")
  d_Full : PySem.W.hasDictIn K C_Full = true
  r_Full : PySem.W.subIn K (.ref C_Full) (.ref C_Full) = some true
  g_TooMany : mg "TooMany" = some (.ref C_TooMany)
  b_TooMany : PySem.W.subIn K (.ref C_TooMany) (.type "BaseException") = some true
  t_TooMany : PySem.W.typeIn K (.ref C_TooMany) = some (.type "type")
  d_TooMany : PySem.W.hasDictIn K C_TooMany = true
  r_TooMany : PySem.W.subIn K (.ref C_TooMany) (.ref C_TooMany) = some true
  q_n : PySem.W.specialIn K (.builtin "object.__class__") "__get__" = some (some (.builtin "getset_descriptor.__get__"))
  q_t : PySem.W.takesIn K (.builtin "object.__class__") = some true
  x_NoNumber : PySem.W.excIn K C_NoNumber [.type "ValueError", .type "Exception", .type "BaseException", .type "object"] "ValueError.__new__" = true
  k_NoNumber : PySem.W.keepIn K (.ref C_NoNumber) = true
  y_NoNumber : PySem.W.findIn K (.ref C_NoNumber) "__getattribute__" = some (some (.builtin "BaseException.__getattribute__"))
  w_NoNumber : PySem.W.findIn K (.ref C_NoNumber) "__getattr__" = some none
  u_NoNumber : PySem.W.findIn K (.ref C_NoNumber) "__class__" = some (some (.builtin "object.__class__"))
  m_NoNumber : PySem.W.mroIn K C_NoNumber (.type "object") = some true
  v_NoNumber : PySem.W.subIn K (.ref C_NoNumber) (.type "ValueError") = some true
  s_NoNumber_NoRow : PySem.W.subIn K (.ref C_NoNumber) (.ref C_NoRow) = some false
  s_NoNumber_NoTaker : PySem.W.subIn K (.ref C_NoNumber) (.ref C_NoTaker) = some false
  s_NoNumber_NoSeen : PySem.W.subIn K (.ref C_NoNumber) (.ref C_NoSeen) = some false
  s_NoNumber_NoCounts : PySem.W.subIn K (.ref C_NoNumber) (.ref C_NoCounts) = some false
  s_NoNumber_NoPlace : PySem.W.subIn K (.ref C_NoNumber) (.ref C_NoPlace) = some false
  s_NoNumber_Unlike : PySem.W.subIn K (.ref C_NoNumber) (.ref C_Unlike) = some false
  s_NoNumber_Full : PySem.W.subIn K (.ref C_NoNumber) (.ref C_Full) = some false
  s_NoNumber_TooMany : PySem.W.subIn K (.ref C_NoNumber) (.ref C_TooMany) = some false
  s_NoNumber_TakeError : PySem.W.subIn K (.ref C_NoNumber) (.ref C_TakeError) = some true
  x_NoTaker : PySem.W.excIn K C_NoTaker [.type "ValueError", .type "Exception", .type "BaseException", .type "object"] "ValueError.__new__" = true
  k_NoTaker : PySem.W.keepIn K (.ref C_NoTaker) = true
  y_NoTaker : PySem.W.findIn K (.ref C_NoTaker) "__getattribute__" = some (some (.builtin "BaseException.__getattribute__"))
  w_NoTaker : PySem.W.findIn K (.ref C_NoTaker) "__getattr__" = some none
  u_NoTaker : PySem.W.findIn K (.ref C_NoTaker) "__class__" = some (some (.builtin "object.__class__"))
  m_NoTaker : PySem.W.mroIn K C_NoTaker (.type "object") = some true
  v_NoTaker : PySem.W.subIn K (.ref C_NoTaker) (.type "ValueError") = some true
  s_NoTaker_NoRow : PySem.W.subIn K (.ref C_NoTaker) (.ref C_NoRow) = some false
  s_NoTaker_NoNumber : PySem.W.subIn K (.ref C_NoTaker) (.ref C_NoNumber) = some false
  s_NoTaker_NoSeen : PySem.W.subIn K (.ref C_NoTaker) (.ref C_NoSeen) = some false
  s_NoTaker_NoCounts : PySem.W.subIn K (.ref C_NoTaker) (.ref C_NoCounts) = some false
  s_NoTaker_NoPlace : PySem.W.subIn K (.ref C_NoTaker) (.ref C_NoPlace) = some false
  s_NoTaker_Unlike : PySem.W.subIn K (.ref C_NoTaker) (.ref C_Unlike) = some false
  s_NoTaker_Full : PySem.W.subIn K (.ref C_NoTaker) (.ref C_Full) = some false
  s_NoTaker_TooMany : PySem.W.subIn K (.ref C_NoTaker) (.ref C_TooMany) = some false
  s_NoTaker_TakeError : PySem.W.subIn K (.ref C_NoTaker) (.ref C_TakeError) = some true
  x_NoPlace : PySem.W.excIn K C_NoPlace [.type "ValueError", .type "Exception", .type "BaseException", .type "object"] "ValueError.__new__" = true
  k_NoPlace : PySem.W.keepIn K (.ref C_NoPlace) = true
  y_NoPlace : PySem.W.findIn K (.ref C_NoPlace) "__getattribute__" = some (some (.builtin "BaseException.__getattribute__"))
  w_NoPlace : PySem.W.findIn K (.ref C_NoPlace) "__getattr__" = some none
  u_NoPlace : PySem.W.findIn K (.ref C_NoPlace) "__class__" = some (some (.builtin "object.__class__"))
  m_NoPlace : PySem.W.mroIn K C_NoPlace (.type "object") = some true
  v_NoPlace : PySem.W.subIn K (.ref C_NoPlace) (.type "ValueError") = some true
  s_NoPlace_NoRow : PySem.W.subIn K (.ref C_NoPlace) (.ref C_NoRow) = some false
  s_NoPlace_NoNumber : PySem.W.subIn K (.ref C_NoPlace) (.ref C_NoNumber) = some false
  s_NoPlace_NoTaker : PySem.W.subIn K (.ref C_NoPlace) (.ref C_NoTaker) = some false
  s_NoPlace_NoSeen : PySem.W.subIn K (.ref C_NoPlace) (.ref C_NoSeen) = some false
  s_NoPlace_NoCounts : PySem.W.subIn K (.ref C_NoPlace) (.ref C_NoCounts) = some false
  s_NoPlace_Unlike : PySem.W.subIn K (.ref C_NoPlace) (.ref C_Unlike) = some false
  s_NoPlace_Full : PySem.W.subIn K (.ref C_NoPlace) (.ref C_Full) = some false
  s_NoPlace_TooMany : PySem.W.subIn K (.ref C_NoPlace) (.ref C_TooMany) = some false
  s_NoPlace_TakeError : PySem.W.subIn K (.ref C_NoPlace) (.ref C_TakeError) = some true
  x_Full : PySem.W.excIn K C_Full [.type "ValueError", .type "Exception", .type "BaseException", .type "object"] "ValueError.__new__" = true
  k_Full : PySem.W.keepIn K (.ref C_Full) = true
  y_Full : PySem.W.findIn K (.ref C_Full) "__getattribute__" = some (some (.builtin "BaseException.__getattribute__"))
  w_Full : PySem.W.findIn K (.ref C_Full) "__getattr__" = some none
  u_Full : PySem.W.findIn K (.ref C_Full) "__class__" = some (some (.builtin "object.__class__"))
  m_Full : PySem.W.mroIn K C_Full (.type "object") = some true
  v_Full : PySem.W.subIn K (.ref C_Full) (.type "ValueError") = some true
  s_Full_NoRow : PySem.W.subIn K (.ref C_Full) (.ref C_NoRow) = some false
  s_Full_NoNumber : PySem.W.subIn K (.ref C_Full) (.ref C_NoNumber) = some false
  s_Full_NoTaker : PySem.W.subIn K (.ref C_Full) (.ref C_NoTaker) = some false
  s_Full_NoSeen : PySem.W.subIn K (.ref C_Full) (.ref C_NoSeen) = some false
  s_Full_NoCounts : PySem.W.subIn K (.ref C_Full) (.ref C_NoCounts) = some false
  s_Full_NoPlace : PySem.W.subIn K (.ref C_Full) (.ref C_NoPlace) = some false
  s_Full_Unlike : PySem.W.subIn K (.ref C_Full) (.ref C_Unlike) = some false
  s_Full_TooMany : PySem.W.subIn K (.ref C_Full) (.ref C_TooMany) = some false
  s_Full_TakeError : PySem.W.subIn K (.ref C_Full) (.ref C_TakeError) = some true
  cc__law_done : Addr
  pt__law_done : Addr
  hc__law_done : fd__law_done.code = .ref cc__law_done
  t_MOST_TAKERS : Tok
  g_MOST_TAKERS : mg "MOST_TAKERS" = some (.int 8 t_MOST_TAKERS)
  t_LEAST_EVERY : Tok
  g_LEAST_EVERY : mg "LEAST_EVERY" = some (.int 2 t_LEAST_EVERY)
  t_MOST_EVERY : Tok
  g_MOST_EVERY : mg "MOST_EVERY" = some (.int 1000 t_MOST_EVERY)
  t_MOST_PIECES : Tok
  g_MOST_PIECES : mg "MOST_PIECES" = some (.int 1000000000000000000 t_MOST_PIECES)
  t_MOST_AT_ONCE : Tok
  g_MOST_AT_ONCE : mg "MOST_AT_ONCE" = some (.int 1000000000000 t_MOST_AT_ONCE)
  z_ValueError : mg "ValueError" = none
  z_all : mg "all" = none
  z_bool : mg "bool" = none
  z_divmod : mg "divmod" = none
  z_enumerate : mg "enumerate" = none
  z_int : mg "int" = none
  z_isinstance : mg "isinstance" = none
  z_len : mg "len" = none
  z_list : mg "list" = none
  z_max : mg "max" = none
  z_min : mg "min" = none
  z_range : mg "range" = none
  z_tuple : mg "tuple" = none
  z_zip : mg "zip" = none
section
variable {P : Program} {w : World} {K : PySem.W.Frag} {mg : Str → Option Value} {base : Heap}
/-! the program: whole numbers, rows of takers -/
def spWhole : Sp := fun vs H Q _ => ∃ n lo hi : Int, vs = [.int n, .int lo, .int hi] ∧ Q (.bl (decide (lo ≤ n) && decide (n ≤ hi))) H
theorem ok_is_whole (T : Top K mg) : FnOk P w K mg base CX0 1 T.a_is_whole T.fd_is_whole ["thing", "least", "most"] spWhole := by
  refine T.F_is_whole.ok sc_is_whole (fun vs H Q E h => ?_) (fun cdv A outer s H vs Q E hr h => ?_)
  · obtain ⟨n, lo, hi, rfl, _⟩ := h
    rfl
  · obtain ⟨n, lo, hi, rfl, q⟩ := h
    refine ⟨_, (pss_cons (ps_if (PW.pt (pw_or (pt_not (pt_val (pe_callB call_isi (by rfl) T.z_isinstance (by decide +kernel) (pa_cons (pv 0) (pa_cons (pe_bltn (v := .ty "int") (by rfl) T.z_int (by decide +kernel) rfl) pa_nil))))) (pw_or1 (pt_val (pe_callB call_isi (by rfl) T.z_isinstance (by decide +kernel) (pa_cons (pv 0) (pa_cons (pe_bltn (v := .ty "bool") (by rfl) T.z_bool (by decide +kernel) rfl) pa_nil))))))) (pss_one (ps_ret pe_bl)) pss_nil)
      (pss_one (ps_ret (pe_chain op_le op_le (pv 1) (pv 0) (pv 2))))), ?_⟩
    refine ⟨.int n, rfl, .int n, .ty "int", .type "int", .type "int", true, rfl, .ty _, .base (.int n), kit_ty (by decide +kernel), true, rfl, iteF ?_⟩
    refine ⟨.int n, rfl, .int n, .ty "bool", .type "int", .type "bool", false, rfl, .ty _, .base (.int n), kit_ty (by decide +kernel), false, rfl, iteF ?_⟩
    refine ⟨.int lo, rfl, .int n, rfl, lo, n, rfl, rfl, _, rfl, ite2 (fun e => ?_) (fun e => ?_)⟩
    · refine ⟨.int hi, rfl, n, hi, rfl, rfl, ?_⟩
      rw [e, Bool.true_and] at q
      exact q
    · rw [show decide (lo ≤ n) = false by simpa using e, Bool.false_and] at q
      exact q
def spTaker : Sp := fun vs H Q _ => ∃ (t : Addr) (e c : Int), vs = [.ref t] ∧ H t = some (.tup [.int e, .int c]) ∧ okT (e, c) ∧ Q (.bl true) H
theorem ok_is_taker (T : Top K mg) : FnOk P w K mg base CX0 2 T.a_is_taker T.fd_is_taker ["thing"] spTaker := by
  refine T.F_is_taker.ok sc_is_taker (fun vs H Q E h => ?_) (fun cdv A outer s H vs Q E hr h => ?_)
  · obtain ⟨t, e, c, rfl, _⟩ := h
    rfl
  · obtain ⟨t, e, c, rfl, ht, ok, q⟩ := h
    obtain ⟨o1, o2, o3, o4⟩ := ok
    simp only at o1 o2 o3 o4
    refine ⟨_, (pss_cons (ps_if (PW.pt (pw_or (pt_not (pt_val (pe_callB call_isi (by rfl) T.z_isinstance (by decide +kernel) (pa_cons (pv 0) (pa_cons (pe_bltn (v := .ty "tuple") (by rfl) T.z_tuple (by decide +kernel) rfl) pa_nil))))) (pw_or1 (pt_cmpR op_ne (pe_callB call_len_seq (by rfl) T.z_len (by decide +kernel) (pa_cons (pv 0) pa_nil)) pe_int (nomark _))))) (pss_one (ps_ret pe_bl)) pss_nil)
      (pss_cons (ps_asg (pv 0) (pg_tup (by rfl) (pgs_cons (pg_name (i := 1) sc_is_taker.nd rfl (.inl rfl)) (pgs_cons (pg_name (i := 2) sc_is_taker.nd rfl (.inl rfl)) pgs_nil))))
      (pss_one (ps_ret (pe_and (pe_call (ok_is_whole T) (hr.mono (by decide)) (by rfl) T.g_is_whole T.F_is_whole.kp T.b_is_whole .nil pass0 (pa_cons (pv 1) (pa_cons (pe_glob (v := .int 2) (by rfl) T.g_LEAST_EVERY ⟨_, rfl⟩) (pa_cons (pe_glob (v := .int 1000) (by rfl) T.g_MOST_EVERY ⟨_, rfl⟩) pa_nil)))) (pe_one (pe_call (ok_is_whole T) (hr.mono (by decide)) (by rfl) T.g_is_whole T.F_is_whole.kp T.b_is_whole .nil pass0 (pa_cons (pv 2) (pa_cons pe_int (pa_cons (pe_op op_sub (pv 1) pe_int) pa_nil)))))))))), ?_⟩
    refine ⟨.ref t, rfl, .ref t, .ty "tuple", .type "tuple", .type "tuple", true, rfl, .ty _, .base (.tup ht), kit_ty (by decide +kernel), true, rfl, iteF ?_⟩
    refine ⟨.ref t, rfl, t, _, rfl, .inr (st_of ht), rfl, false, rfl, iteF ?_⟩
    refine ⟨.ref t, rfl, t, _, rfl, st_of ht, rfl, .int e, _, rfl, .int c, _, rfl, rfl, ?_⟩
    refine ⟨.int e, rfl, e, 2, 1000, rfl, ?_⟩
    rw [decide_eq_true o1, decide_eq_true o2]
    refine ⟨_, rfl, iteT ?_⟩
    refine ⟨.int c, rfl, .int e, rfl, e, 1, rfl, rfl, c, 0, e - 1, rfl, ?_⟩
    rw [decide_eq_true o3, decide_eq_true o4]
    exact q
def spRow : Sp := fun vs H Q _ => ∃ (p : Addr) (r : List (Int × Int)), vs = [.ref p] ∧ RowAt H p r ∧ (∀ ec ∈ r, okT ec) ∧ r.length ≤ 8 ∧ ∀ H', Same H H' → Q (.bl true) H'
theorem ok_is_row (T : Top K mg) : FnOk P w K mg base CX0 3 T.a_is_row T.fd_is_row ["thing"] spRow := by
  refine T.F_is_row.ok sc_is_row (fun vs H Q E h => ?_) (fun cdv A outer s H vs Q E hr h => ?_)
  · obtain ⟨p, r, rfl, _⟩ := h
    rfl
  · obtain ⟨p, r, rfl, hR, ok, hlen, q⟩ := h
    obtain ⟨ts, h1, h2, h3⟩ := id hR
    refine ⟨_, (pss_cons (ps_if (PW.pt (pw_or (pt_not (pt_val (pe_callB call_isi (by rfl) T.z_isinstance (by decide +kernel) (pa_cons (pv 0) (pa_cons (pe_bltn (v := .ty "tuple") (by rfl) T.z_tuple (by decide +kernel) rfl) pa_nil))))) (pw_or1 (pt_cmpR op_gt (pe_callB call_len_seq (by rfl) T.z_len (by decide +kernel) (pa_cons (pv 0) pa_nil)) (pe_glob (v := .int 8) (by rfl) T.g_MOST_TAKERS ⟨_, rfl⟩) (nomark _))))) (pss_one (ps_ret pe_bl)) pss_nil)
      (pss_one (ps_ret (pe_callB (cr_all rfl) (by rfl) T.z_all (by decide +kernel) (pa_cons (pe_lc (own := [("part", 1)]) (by rfl) sc_is_row.nd (pi_tup (pv 0))
        (blkOk_by (own := [("part", 1)]) (N := ["thing", "part"]) (sc := defScope s_is_row) (by decide +kernel))
        (fun _ _ _ _ _ => (pg_name (i := 1) sc_is_row.nd rfl (.inl rfl))) (fun _ _ _ _ _ => pts_nil) (fun _ _ _ _ _ => (pe_call (ok_is_taker T) (hr.mono (by decide)) (by rfl) T.g_is_taker T.F_is_taker.kp T.b_is_taker .nil pass0 (pa_cons (pv 1) pa_nil)))) pa_nil))))), ?_⟩
    refine ⟨.ref p, rfl, .ref p, .ty "tuple", .type "tuple", .type "tuple", true, rfl, .ty _, .base (.tup h1), kit_ty (by decide +kernel), true, rfl, iteF ?_⟩
    refine ⟨.ref p, rfl, p, _, rfl, .inr (st_of h1), _, _, rfl, rfl, false, ?_, iteF ?_⟩
    · rw [List.length_map, h2]
      have : ¬ ((8 : Int) < (r.length : Int)) := by omega
      show V.bl (decide ((8 : Int) < (r.length : Int))) = _
      rw [decide_eq_false this]
    refine ⟨.ref p, rfl, p, rfl, ⟨_, st_of h1⟩, fun D hD => ?_⟩
    refine lc_tup (K := K) (a := p) (xs := ts.map V.ref) (fun i H' => Same H H' ∧ H' D = some (.lst ((List.replicate i true).map V.bl))) ⟨same_new hD, upd_same⟩ (fun i H' _ hp => st_of (hp.1 _ _ h1)) (fun i x H' hx hp => ?_) (fun H' hp => ?_)
    · obtain ⟨sm, hd⟩ := hp
      rw [List.getElem?_map] at hx
      cases ht : ts[i]? with
      | none => rw [ht] at hx; cases hx
      | some t =>
        rw [ht] at hx
        cases hx
        have hi : i < r.length := h2 ▸ (List.getElem?_eq_some_iff.mp ht).1
        have hi8 : i < 8 := by omega
        have hrt := h3 i t r[i] ht (List.getElem?_eq_getElem hi)
        refine ⟨rfl, yesT ?_⟩
        refine ⟨.ref t, rfl, t, _, _, rfl, sm _ _ hrt, ok _ (List.getElem_mem hi), _, hd, ?_, ?_, ?_⟩
        · rw [List.length_map, List.length_replicate]
          exact small1000 (by omega)
        · exact same_upd_new hD sm
        · rw [upd_same, List.replicate_succ', List.map_append]
          rfl
    · obtain ⟨sm, hd⟩ := hp
      refine ⟨D, _, rfl, sq_of hd, ?_⟩
      have e : (List.replicate (ts.map V.ref).length true).all id = true := by simp
      rw [e]
      exact q H' sm
def spChk : Sp := fun vs H Q _ => ∃ (p : Addr) (r : List (Int × Int)), vs = [.ref p] ∧ RowAt H p r ∧ (∀ ec ∈ r, okT ec) ∧ r.length ≤ 8 ∧ ∀ H', Same H H' → Q .non H'
theorem ok_check_row (T : Top K mg) : FnOk P w K mg base CX0 4 T.a_check_row T.fd_check_row ["thing"] spChk := by
  refine T.F_check_row.ok sc_check_row (fun vs H Q E h => ?_) (fun cdv A outer s H vs Q E hr h => ?_)
  · obtain ⟨p, r, rfl, _⟩ := h
    rfl
  · obtain ⟨p, r, rfl, hR, ok, hlen, q⟩ := h
    refine ⟨_, (pss_one (ps_if (pt_not (pt_val (pe_call (ok_is_row T) (hr.mono (by decide)) (by rfl) T.g_is_row T.F_is_row.kp T.b_is_row .nil pass0 (pa_cons (pv 0) pa_nil)))) (pss_one ps_never) pss_nil)), ?_⟩
    exact ⟨.ref p, rfl, p, r, rfl, hR, ok, hlen, fun H' sm => ⟨true, rfl, iteF (q H' sm)⟩⟩

def spNum : Sp := fun vs H Q _ => ∃ n lo hi : Int, vs = [.int n, .int lo, .int hi] ∧ lo ≤ n ∧ n ≤ hi ∧ Q .non H
theorem ok_check_number (T : Top K mg) : FnOk P w K mg base CX0 2 T.a_check_number T.fd_check_number ["thing", "least", "most"] spNum := by
  refine T.F_check_number.ok sc_check_number (fun vs H Q E h => ?_) (fun cdv A outer s H vs Q E hr h => ?_)
  · obtain ⟨n, lo, hi, rfl, _⟩ := h
    rfl
  · obtain ⟨n, lo, hi, rfl, h1, h2, q⟩ := h
    refine ⟨_, (pss_one (ps_if (pt_not (pt_val (pe_call (ok_is_whole T) (hr.mono (by decide)) (by rfl) T.g_is_whole T.F_is_whole.kp T.b_is_whole .nil pass0 (pa_cons (pv 0) (pa_cons (pv 1) (pa_cons (pv 2) pa_nil)))))) (pss_one ps_never) pss_nil)), ?_⟩
    refine ⟨.int n, rfl, .int lo, rfl, .int hi, rfl, n, lo, hi, rfl, ?_⟩
    rw [decide_eq_true h1, decide_eq_true h2]
    exact ⟨true, rfl, iteF q⟩

def spTaken : Sp := fun vs H Q _ => ∃ (p : Addr) (r : List (Int × Int)) (n : Int), vs = [.ref p, .int n] ∧ RowAt H p r ∧ (∀ ec ∈ r, okT ec) ∧ r.length ≤ 8 ∧ 0 ≤ n ∧ n ≤ 1000000000000000000 ∧
  ∀ H' q, Same H H' → H q = none → H' q = some (.lst ((takenF r n).map V.int)) → Q (.ref q) H'
theorem ok_taken (T : Top K mg) : FnOk P w K mg base CX0 5 T.a_taken T.fd_taken ["row", "number"] spTaken := by
  refine T.F_taken.ok sc_taken (fun vs H Q E h => ?_) (fun cdv A outer s H vs Q E hr h => ?_)
  · obtain ⟨p, r, n, rfl, _⟩ := h
    rfl
  · obtain ⟨p, r, n, rfl, hR, ok, hlen, n1, n2, q⟩ := h
    refine ⟨_, (pss_cons (ps_expr (pe_call (ok_check_row T) (hr.mono (by decide)) (by rfl) T.g_check_row T.F_check_row.kp T.b_check_row .nil pass0 (pa_cons (pv 0) pa_nil)))
      (pss_cons (ps_expr (pe_call (ok_check_number T) (hr.mono (by decide)) (by rfl) T.g_check_number T.F_check_number.kp T.b_check_number .nil pass0 (pa_cons (pv 1) (pa_cons pe_int (pa_cons (pe_glob (v := .int 1000000000000000000) (by rfl) T.g_MOST_PIECES ⟨_, rfl⟩) pa_nil)))))
      (pss_cons (ps_set (i := 2) sc_taken.nd rfl (.inl rfl) (pe_lst pa_nil))
      (pss_cons (ps_set (i := 3) sc_taken.nd rfl (.inl rfl) (pv 1))
      (pss_cons (ps_for PassesOwn.never rfl (pi_tup (pv 0)) (pg_tup (by rfl) (pgs_cons (pg_name (i := 4) sc_taken.nd rfl (.inl rfl)) (pgs_cons (pg_name (i := 5) sc_taken.nd rfl (.inl rfl)) pgs_nil)))
        (pss_cons (ps_set (i := 6) sc_taken.nd rfl (.inl rfl) (pe_op op_fdiv (pe_op op_add (pv 5) (pv 3)) (pv 4)))
      (pss_cons (ps_expr (pe_bm PySem.F.plainAttrs_list PySem.F.slot_list_append PySem.F.type_list_append mt_append (pv 2) (pa_cons (pv 6) pa_nil)))
      (pss_one (ps_aug (i := 3) sc_taken.nd rfl (.inl rfl) (pv 6) ip_sub)))))
      (pss_cons (ps_expr (pe_bm PySem.F.plainAttrs_list PySem.F.slot_list_append PySem.F.type_list_append mt_append (pv 2) (pa_cons (pv 3) pa_nil)))
      (pss_one (ps_ret (pv 2))))))))), ?_⟩
    refine ⟨.ref p, rfl, p, r, rfl, hR, ok, hlen, fun H1 s1 => ?_⟩
    refine ⟨.int n, rfl, n, 0, 1000000000000000000, rfl, n1, n2, ?_⟩
    refine ⟨Nat.zero_le _, fun o no => ?_⟩
    refine ⟨.int n, rfl, ?_⟩
    have noH : H o = none := s1.free no
    have s2 : Same H1 (upd H1 o (.lst [])) := same_new no
    obtain ⟨ts, h1, h2, h3⟩ := hR.keep (tupS_of (s1.trans s2))
    refine ⟨.ref p, rfl, p, rfl, ⟨_, st_of h1⟩, ?_⟩
    refine for_tup (K := K) (a := p) (xs := ts.map V.ref) (fun i σ H' => Same H1 H' ∧ H' o = some (.lst (((takenF r n).take i).map V.int)) ∧ ∃ z y4 y5 y6, σ = [some (.ref p), some (.int n), some (.ref o), some (.int z), y4, y5, y6] ∧ z = comeF r i n)
      ⟨s2, upd_same, n, none, none, none, rfl, (come_zero r n).symm⟩ (fun i σ H' _ hp => st_of (hp.1 _ _ ?_)) (fun i x σ H2 hx hp => ?_) (fun σ H' hp => ?_)
    · obtain ⟨ts', g1, _⟩ := hR.keep (tupS_of s1)
      have := s2 _ _ g1
      rw [h1] at this
      rw [Option.some.inj this]
      exact g1
    · obtain ⟨sm, ho, z, y4, y5, y6, rfl, rfl⟩ := hp
      rw [List.getElem?_map] at hx
      cases ht : ts[i]? with
      | none => rw [ht] at hx; cases hx
      | some t =>
        rw [ht] at hx
        cases hx
        have hir : i < r.length := h2 ▸ (List.getElem?_eq_some_iff.mp ht).1
        have he := List.getElem?_eq_getElem hir
        obtain ⟨⟨e, c⟩, hec⟩ : ∃ ec, r[i] = ec := ⟨_, rfl⟩
        rw [hec] at he
        have hok : okT (e, c) := hec ▸ ok _ (List.getElem_mem hir)
        have o1 : 2 ≤ e := hok.1
        have o2 : e ≤ 1000 := hok.2.1
        have hrt : H2 t = some (.tup [.int e, .int c]) := by
          obtain ⟨ts', g1, g2, g3⟩ := hR.keep (tupS_of (s1.trans sm))
          have e1 := sm _ _ (show H1 p = some (.tup (ts.map V.ref)) by
            obtain ⟨ts', g1, _⟩ := hR.keep (tupS_of s1)
            have := s2 _ _ g1
            rw [h1] at this
            rw [Option.some.inj this]
            exact g1)
          rw [g1] at e1
          have e2 : ts'.map V.ref = ts.map V.ref := HO.tup.inj (Option.some.inj e1)
          have e3 : ts' = ts := (List.map_inj_right (fun a b h => V.ref.inj h)).mp e2
          subst e3
          exact g3 i t _ ht he
        refine ⟨t, _, rfl, st_of hrt, rfl, _, _, rfl, _, _, rfl, rfl, ?_⟩
        refine ⟨.int c, rfl, .int (comeF r i n), rfl, c, _, rfl, rfl, .int e, rfl, _, e, rfl, rfl, ⟨by omega, by omega⟩, ?_⟩
        refine ⟨.ref o, rfl, .inl ⟨rfl, _, sq_of ho⟩, _, rfl, o, _, _, rfl, rfl, ho, ?_, ?_⟩
        · rw [List.length_map, List.length_take]
          exact Nat.lt_of_le_of_lt (Nat.min_le_left _ _) (small1000 (by omega))
        · refine ⟨_, rfl, _, rfl, _, _, rfl, rfl, same_upd_new no sm, ?_, _, _, _, _, rfl, (come_succ r n i e c he).symm⟩
          rw [upd_same, List.take_add_one, taken_get r n i e c he, List.map_append]
          rfl
    · obtain ⟨sm, ho, z, y4, y5, y6, rfl, rfl⟩ := hp
      have hl : (ts.map V.ref).length = r.length := by rw [List.length_map]; exact h2
      rw [hl] at ho ⊢
      refine ⟨.ref o, rfl, .inl ⟨rfl, _, sq_of ho⟩, _, rfl, o, _, _, rfl, rfl, ho, ?_, ?_⟩
      · rw [List.length_map, List.length_take]
        exact Nat.lt_of_le_of_lt (Nat.min_le_left _ _) (small1000 (by omega))
      · refine ⟨.ref o, rfl, q _ o (s1.trans (same_upd_new no sm)) noH ?_⟩
        rw [upd_same]
        have e1 : takenF r n = (takenF r n).take r.length ++ [comeF r r.length n] := by
          have e2 : (takenF r n).take (r.length + 1) = takenF r n := List.take_of_length_le (by rw [len_takenF]; exact Nat.le_refl _)
          rw [List.take_add_one, taken_last] at e2
          exact e2.symm
        conv => rhs; rw [e1, List.map_append]
        rfl

/-! a belt kept -/
theorem d_tp : ¬ (("takers" : Str) = "pieces") := by decide +kernel
theorem d_td : ¬ (("takers" : Str) = "passed") := by decide +kernel
theorem d_pt : ¬ (("pieces" : Str) = "takers") := by decide +kernel
theorem d_pd : ¬ (("pieces" : Str) = "passed") := by decide +kernel
theorem d_dt : ¬ (("passed" : Str) = "takers") := by decide +kernel
theorem d_dp : ¬ (("passed" : Str) = "pieces") := by decide +kernel
def bf (t : Addr) (n k : Int) : List (Str × V) := [("takers", .ref t), ("pieces", .int n), ("passed", .int k)]
theorem bf_init (t : Addr) : putF "passed" (.int 0) (putF "pieces" (.int 0) (putF "takers" (.ref t) [])) = bf t 0 0 := by
  have e1 : putF "takers" (V.ref t) [] = [(("takers" : Str), V.ref t)] := rfl
  have e2 : putF "pieces" (V.int 0) [(("takers" : Str), V.ref t)] = [(("takers" : Str), V.ref t), ("pieces", .int 0)] := by
    show (if ("takers" : Str) = "pieces" then _ else (("takers" : Str), V.ref t) :: putF "pieces" (V.int 0) []) = _
    rw [if_neg d_tp]
    rfl
  rw [e1, e2]
  show (if ("takers" : Str) = "passed" then _ else (("takers" : Str), V.ref t) :: (if ("pieces" : Str) = "passed" then _ else (("pieces" : Str), V.int 0) :: putF "passed" (V.int 0) [])) = _
  rw [if_neg d_td, if_neg d_pd]
  rfl
theorem bf_t (t : Addr) (n k : Int) : (bf t n k).lookup ("takers" : Str) = some (.ref t) := by
  unfold bf
  rw [List.lookup_cons]
  simp
theorem bf_p (t : Addr) (n k : Int) : (bf t n k).lookup ("pieces" : Str) = some (.int n) := by
  unfold bf
  rw [List.lookup_cons, show (("pieces" : Str) == "takers") = false from beq_eq_false_iff_ne.mpr d_pt]
  rw [List.lookup_cons]
  simp
theorem bf_d (t : Addr) (n k : Int) : (bf t n k).lookup ("passed" : Str) = some (.int k) := by
  unfold bf
  rw [List.lookup_cons, show (("passed" : Str) == "takers") = false from beq_eq_false_iff_ne.mpr d_dt]
  rw [List.lookup_cons, show (("passed" : Str) == "pieces") = false from beq_eq_false_iff_ne.mpr d_dp]
  rw [List.lookup_cons]
  simp
theorem bf_no (t : Addr) (n k : Int) {m : Str} (h1 : ¬ m = "takers") (h2 : ¬ m = "pieces") (h3 : ¬ m = "passed") : (bf t n k).lookup m = none := by
  unfold bf
  rw [List.lookup_cons, show (m == "takers") = false from beq_eq_false_iff_ne.mpr h1]
  rw [List.lookup_cons, show (m == "pieces") = false from beq_eq_false_iff_ne.mpr h2]
  rw [List.lookup_cons, show (m == "passed") = false from beq_eq_false_iff_ne.mpr h3]
  rfl
theorem bf_put_t (t u : Addr) (n k : Int) : putF "takers" (.ref u) (bf t n k) = bf u n k := by
  show (if ("takers" : Str) = "takers" then (("takers" : Str), V.ref u) :: _ else _) = _
  rw [if_pos rfl]
  rfl
theorem bf_put_p (t : Addr) (n m k : Int) : putF "pieces" (.int m) (bf t n k) = bf t m k := by
  show (if ("takers" : Str) = "pieces" then _ else (("takers" : Str), V.ref t) :: (if ("pieces" : Str) = "pieces" then (("pieces" : Str), V.int m) :: _ else _)) = _
  rw [if_neg d_tp, if_pos rfl]
  rfl
theorem bf_put_d (t : Addr) (n k m : Int) : putF "passed" (.int m) (bf t n k) = bf t n m := by
  show (if ("takers" : Str) = "passed" then _ else (("takers" : Str), V.ref t) :: (if ("pieces" : Str) = "passed" then _ else (("pieces" : Str), V.int n) :: (if ("passed" : Str) = "passed" then (("passed" : Str), V.int m) :: _ else _))) = _
  rw [if_neg d_td, if_neg d_pd, if_pos rfl]
  rfl
/-- a belt: its row, how many went by, how many were left over -/
def BeltAt (C : Addr) (H : Hp) (p : Addr) (r : List (Int × Int)) (n k : Int) : Prop := ∃ dx t, H p = some (.ins C dx (bf t n k)) ∧ RowAt H t r
theorem row_upd {H : Hp} {p t C dx : Addr} {fs : List (Str × V)} {o : HO} {r : List (Int × Int)} (h : RowAt H t r) (hp : H p = some (.ins C dx fs)) : RowAt (upd H p o) t r :=
  h.keep fun a xs e => by rw [upd_ne (ne_of e hp (by intro z; cases z))]; exact e
theorem kp_upd {H : Hp} {p : Addr} {o : HO} : Kb p H (upd H p o) := fun a o' hn h => by rw [upd_ne hn]; exact h
/-- all but the belt stands: another row, another belt -/
theorem BeltAt.other {C : Addr} {H H' : Hp} {p q : Addr} {r : List (Int × Int)} {n k : Int} (h : BeltAt C H q r n k) (kb : Kb p H H') (hne : q ≠ p) (hp : ∃ dx fs, H p = some (.ins C dx fs)) : BeltAt C H' q r n k := by
  obtain ⟨dx, t, h1, h2⟩ := h
  obtain ⟨dp, fs, hp⟩ := hp
  exact ⟨dx, t, kb _ _ hne h1, h2.keep fun a xs e => kb _ _ (ne_of e hp (by intro z; cases z)) e⟩
theorem BeltAt.same {C : Addr} {H H' : Hp} {q : Addr} {r : List (Int × Int)} {n k : Int} (h : BeltAt C H q r n k) (s : Same H H') : BeltAt C H' q r n k := by
  obtain ⟨dx, t, h1, h2⟩ := h
  exact ⟨dx, t, s _ _ h1, h2.keep (tupS_of s)⟩
theorem BeltAt.tup {C : Addr} {H H' : Hp} {p : Addr} {r : List (Int × Int)} {n k : Int} (h : BeltAt C H p r n k) (kb : Kb p H H') : TupS H H' := fun a xs e => by
  obtain ⟨dx, t, h1, _⟩ := h
  exact kb _ _ (ne_of e h1 (by intro z; cases z)) e
def spBInit (C : Addr) : Sp := fun vs H Q _ => ∃ (p dx : Addr), vs = [.ref p] ∧ H p = some (.ins C dx []) ∧ ∀ H', Kb p H H' → BeltAt C H' p [] 0 0 → Q .non H'
theorem ok_Belt___init__ (T : Top K mg) : FnOk P w K mg base CX0 1 T.a_Belt___init__ T.fd_Belt___init__ ["self"] (spBInit T.C_Belt) := by
  refine T.F_Belt___init__.ok sc_Belt___init__ (fun vs H Q E h => ?_) (fun cdv A outer s H vs Q E hr h => ?_)
  · obtain ⟨p, dx, rfl, _⟩ := h
    rfl
  · obtain ⟨p, dx, rfl, hp, q⟩ := h
    refine ⟨_, (pss_cons (ps_fld (pv 0) (pe_tup pa_nil) rfl)
      (pss_cons (ps_fld (pv 0) pe_int rfl)
      (pss_one (ps_fld (pv 0) pe_int rfl)))), ?_⟩
    refine ⟨Nat.zero_le _, fun t nt => ?_⟩
    have npt : p ≠ t := ne_of_none hp nt
    refine ⟨.ref p, rfl, p, T.C_Belt, dx, _, rfl, (by rw [upd_ne npt]; exact hp), T.cl_Belt, T.n_Belt_takers, (by show 0 < 1000; decide), ?_⟩
    refine ⟨.ref p, rfl, p, T.C_Belt, dx, _, rfl, upd_same, T.cl_Belt, T.n_Belt_pieces, (by show 1 < 1000; decide), ?_⟩
    refine ⟨.ref p, rfl, p, T.C_Belt, dx, _, rfl, upd_same, T.cl_Belt, T.n_Belt_passed, (by rw [show putF "pieces" (V.int 0) (putF "takers" (.ref t) []) = [(("takers" : Str), V.ref t), ("pieces", .int 0)] by show (if ("takers" : Str) = "pieces" then _ else (("takers" : Str), V.ref t) :: putF "pieces" (V.int 0) []) = _; rw [if_neg d_tp]; rfl]; show 2 < 1000; decide), ?_⟩
    rw [bf_init]
    refine q _ (fun a o hn h => ?_) ⟨dx, t, upd_same, ?_⟩
    · rw [upd_ne hn, upd_ne hn, upd_ne hn, upd_ne (ne_of_none h nt)]
      exact h
    · refine row_upd (row_upd (row_upd (row0 upd_same) (by rw [upd_ne npt]; exact hp)) upd_same) upd_same
/-! how far each has counted behind n pieces -/
def stB (r : List (Int × Int)) (n : Int) : List (Int × Int) := (r.map (·.1)).zip (cntF r n)
def spOn : Sp := fun vs H Q _ => ∃ (p : Addr) (r : List (Int × Int)) (n : Int), vs = [.ref p, .int n] ∧ RowAt H p r ∧ (∀ ec ∈ r, okT ec) ∧ r.length ≤ 8 ∧
  ∀ H' t, Same H H' → RowAt H' t (stB r n) → Q (.ref t) H'
theorem stB_get {r : List (Int × Int)} {n e c : Int} {i : Nat} (h : r[i]? = some (e, c)) : (stB r n)[i]? = some (e, (c + comeF r i n) % e) := by
  unfold stB
  rw [List.getElem?_zip_eq_some]
  exact ⟨by rw [List.getElem?_map, h]; rfl, cnt_get r n i e c h⟩
theorem stB_len (r : List (Int × Int)) (n : Int) : (stB r n).length = r.length := by
  unfold stB
  rw [List.length_zip, List.length_map, len_cntF]
  omega
theorem stB_ok {r : List (Int × Int)} (ok : ∀ ec ∈ r, okT ec) (n : Int) : ∀ ec ∈ stB r n, okT ec := fun ec hm => by
  obtain ⟨i, hi⟩ := List.mem_iff_getElem?.mp hm
  have hl := (List.getElem?_eq_some_iff.mp hi).1
  rw [stB_len] at hl
  have he := List.getElem?_eq_getElem hl
  obtain ⟨⟨e, c⟩, hec⟩ : ∃ ec, r[i] = ec := ⟨_, rfl⟩
  rw [hec] at he
  rw [stB_get he] at hi
  cases hi
  have o := ok _ (List.mem_of_getElem? he)
  have o1 : 2 ≤ e := o.1
  have m1 := Int.emod_lt_of_pos (c + comeF r i n) (show 0 < e by omega)
  exact ⟨o.1, o.2.1, Int.emod_nonneg _ (by omega), by show (c + comeF r i n) % e ≤ e - 1; omega⟩
theorem ok_counted_on (T : Top K mg) : FnOk P w K mg base CX0 1 T.a_counted_on T.fd_counted_on ["row", "number"] spOn := by
  refine T.F_counted_on.ok sc_counted_on (fun vs H Q E h => ?_) (fun cdv A outer s H vs Q E hr h => ?_)
  · obtain ⟨p, r, n, rfl, _⟩ := h
    rfl
  · obtain ⟨p, r, n, rfl, hR, ok, hlen, q⟩ := h
    obtain ⟨ts, h1, hpa⟩ := hR.pairs
    have h2 := hpa.1
    refine ⟨_, (pss_cons (ps_set (i := 2) sc_counted_on.nd rfl (.inl rfl) (pe_lst pa_nil))
      (pss_cons (ps_set (i := 3) sc_counted_on.nd rfl (.inl rfl) (pv 1))
      (pss_cons (ps_for PassesOwn.never rfl (pi_tup (pv 0)) (pg_tup (by rfl) (pgs_cons (pg_name (i := 4) sc_counted_on.nd rfl (.inl rfl)) (pgs_cons (pg_name (i := 5) sc_counted_on.nd rfl (.inl rfl)) pgs_nil)))
        (pss_cons (ps_asg (pe_callB call_divmod (by rfl) T.z_divmod (by decide +kernel) (pa_cons (pe_op op_add (pv 5) (pv 3)) (pa_cons (pv 4) pa_nil))) (pg_tup (by rfl) (pgs_cons (pg_name (i := 6) sc_counted_on.nd rfl (.inl rfl)) (pgs_cons (pg_name (i := 7) sc_counted_on.nd rfl (.inl rfl)) pgs_nil))))
      (pss_cons (ps_expr (pe_bm PySem.F.plainAttrs_list PySem.F.slot_list_append PySem.F.type_list_append mt_append (pv 2) (pa_cons (pe_tup (pa_cons (pv 4) (pa_cons (pv 7) pa_nil))) pa_nil)))
      (pss_one (ps_aug (i := 3) sc_counted_on.nd rfl (.inl rfl) (pv 6) ip_sub)))))
      (pss_one (ps_ret (pe_callTy call_tuple_of (by rfl) T.z_tuple (by decide +kernel) (pa_cons (pv 2) pa_nil))))))), ?_⟩
    refine ⟨Nat.zero_le _, fun o no => ?_⟩
    refine ⟨.int n, rfl, ?_⟩
    have so := same_new (o := .lst []) no
    refine ⟨.ref p, rfl, p, rfl, ⟨_, st_of (so _ _ h1)⟩, ?_⟩
    refine for_tup (K := K) (a := p) (xs := ts.map V.ref) (fun i σ H' => Same H H' ∧ (∃ us : List Addr, H' o = some (.lst (us.map V.ref)) ∧ PairsAt H' us ((stB r n).take i)) ∧ ∃ y4 y5 y6 y7, σ = [some (.ref p), some (.int n), some (.ref o), some (.int (comeF r i n)), y4, y5, y6, y7])
      ⟨so, ⟨[], upd_same, rfl, fun i t ec h => nomatch h⟩, none, none, none, none, by rw [come_zero]; rfl⟩ (fun i σ H' _ hp => st_of (hp.1 _ _ h1)) (fun i x σ H2 hx hp => ?_) (fun σ H2 hp => ?_)
    · obtain ⟨s2, ⟨us, u1, u2⟩, y4, y5, y6, y7, rfl⟩ := hp
      rw [List.getElem?_map] at hx
      obtain ⟨t, ht, hxe⟩ := Option.map_eq_some_iff.mp hx
      subst hxe
      have hir : i < r.length := h2 ▸ (List.getElem?_eq_some_iff.mp ht).1
      have he := List.getElem?_eq_getElem hir
      obtain ⟨⟨e, c⟩, hec⟩ : ∃ ec, r[i] = ec := ⟨_, rfl⟩
      rw [hec] at he
      have hok : okT (e, c) := hec ▸ ok _ (List.getElem_mem hir)
      have o1 : 2 ≤ e := hok.1
      have o2 : e ≤ 1000 := hok.2.1
      have hrt := s2 _ _ (hpa.2 i t _ ht he)
      refine ⟨t, _, rfl, st_of hrt, rfl, _, _, rfl, _, _, rfl, rfl, ?_⟩
      refine ⟨.int c, rfl, .int (comeF r i n), rfl, c, _, rfl, rfl, .int e, rfl, _, e, rfl, ⟨by omega, by omega⟩, fun D hD => ?_⟩
      have sD := same_new (o := .tup [.int ((c + comeF r i n) / e), .int ((c + comeF r i n) % e)]) hD
      refine ⟨D, _, rfl, st_of upd_same, rfl, _, _, rfl, _, _, rfl, rfl, ?_⟩
      have u1' := sD _ _ u1
      refine ⟨.ref o, rfl, .inl ⟨rfl, _, sq_of u1'⟩, .int e, rfl, _, rfl, by show 2 ≤ sizeLine; decide, fun u nu => ?_⟩
      have su := sD.trans (same_new (o := .tup [.int e, .int ((c + comeF r i n) % e)]) nu)
      have u1'' := su _ _ u1
      have ul := u2.1
      rw [List.length_take] at ul
      refine ⟨o, _, _, rfl, rfl, u1'', ?_, ?_⟩
      · rw [List.length_map]
        exact small1000 (by omega)
      refine ⟨_, rfl, _, rfl, _, _, rfl, rfl, same_upd_new no (s2.trans su), ⟨us ++ [u], by rw [upd_same, List.map_append]; rfl, ?_⟩, some (.int e), some (.int c), some (.int ((c + comeF r i n) / e)), some (.int ((c + comeF r i n) % e)), ?_⟩
      · rw [List.take_add_one, stB_get he]
        refine ((u2.keep (tupS_of su)).app (us := [u]) (q := [(e, (c + comeF r i n) % e)]) ⟨rfl, fun i' u' g a1 a2 => ?_⟩).keep (fun a xs e' => by rw [upd_ne (ne_of e' u1'' (by intro z; cases z))]; exact e')
        cases i' with
        | zero => cases a1; cases a2; exact upd_same
        | succ i' => simp at a1
      · rw [come_succ r n i e c he]
        rfl
    · obtain ⟨s2, ⟨us, u1, u2⟩, y4, y5, y6, y7, rfl⟩ := hp
      rw [List.length_map, h2, List.take_of_length_le (by rw [stB_len]; exact Nat.le_refl _)] at u2
      refine ⟨.ref o, rfl, o, _, rfl, .inl ⟨sq_of u1, fun l nl => ?_⟩⟩
      have sl := same_new (o := .tup (us.map V.ref)) nl
      exact q _ l (s2.trans sl) ((u2.keep (tupS_of sl)).row upd_same)
def spGoBy (C : Addr) : Sp := fun vs H Q _ => ∃ (p : Addr) (r : List (Int × Int)) (n k m : Int), vs = [.ref p, .int m] ∧ BeltAt C H p r n k ∧ (∀ ec ∈ r, okT ec) ∧ r.length ≤ 8 ∧ 1 ≤ m ∧ m ≤ 1000000000000 ∧
  ∀ H' q, Kb p H H' → H q = none → H' q = some (.lst ((takenF r m).map V.int)) → BeltAt C H' p (stB r m) (n + m) (k + comeF r r.length m) → Q (.ref q) H'
theorem ok_Belt_go_by (T : Top K mg) : FnOk P w K mg base CX0 6 T.a_Belt_go_by T.fd_Belt_go_by ["self", "number"] (spGoBy T.C_Belt) := by
  refine T.F_Belt_go_by.ok sc_Belt_go_by (fun vs H Q E h => ?_) (fun cdv A outer s H vs Q E hr h => ?_)
  · obtain ⟨p, r, n, k, m, rfl, _⟩ := h
    rfl
  · obtain ⟨p, r, n, k, m, rfl, ⟨dx, t, hp, hR⟩, ok, hlen, m1, m2, q⟩ := h
    refine ⟨_, (pss_cons (ps_expr (pe_call (ok_check_number T) (hr.mono (by decide)) (by rfl) T.g_check_number T.F_check_number.kp T.b_check_number .nil pass0 (pa_cons (pv 1) (pa_cons pe_int (pa_cons (pe_glob (v := .int 1000000000000) (by rfl) T.g_MOST_AT_ONCE ⟨_, rfl⟩) pa_nil)))))
      (pss_cons (ps_set (i := 2) sc_Belt_go_by.nd rfl (.inl rfl) (pe_call (ok_taken T) (hr.mono (by decide)) (by rfl) T.g_taken T.F_taken.kp T.b_taken .nil pass0 (pa_cons (pe_fld (pv 0) rfl) (pa_cons (pv 1) pa_nil))))
      (pss_cons (ps_fld (pv 0) (pe_call (ok_counted_on T) (hr.mono (by decide)) (by rfl) T.g_counted_on T.F_counted_on.kp T.b_counted_on .nil pass0 (pa_cons (pe_fld (pv 0) rfl) (pa_cons (pv 1) pa_nil))) rfl)
      (pss_cons (ps_fldaug (pv 0) (pv 1) in_add)
      (pss_cons (ps_fldaug (pv 0) (pe_ix ix_list (pv 2) (pe_un un_neg pe_int) (fun _ _ => rfl)) in_add)
      (pss_one (ps_ret (pv 2)))))))), ?_⟩
    refine ⟨.int m, rfl, m, 1, 1000000000000, rfl, m1, m2, ?_⟩
    refine ⟨.ref p, rfl, p, _, dx, _, .ref t, rfl, hp, T.cl_Belt, T.n_Belt_takers, bf_t _ _ _, .int m, rfl, t, r, m, rfl, hR, ok, hlen, by omega, by omega, fun H1 g s1 ng hg => ?_⟩
    have hp1 := s1 _ _ hp
    refine ⟨.ref p, rfl, p, _, dx, _, .ref t, rfl, hp1, T.cl_Belt, T.n_Belt_takers, bf_t _ _ _, .int m, rfl, t, r, m, rfl, hR.keep (tupS_of s1), ok, hlen, fun H2 u s2 hu => ?_⟩
    have s12 := s1.trans s2
    have hp2 := s2 _ _ hp1
    have hg2 := s2 _ _ hg
    have ngp : g ≠ p := fun e => by rw [e, hp] at ng; cases ng
    refine ⟨.ref p, rfl, p, _, dx, _, rfl, hp2, T.cl_Belt, T.n_Belt_takers, (by show 3 < 1000; decide), ?_⟩
    rw [bf_put_t]
    refine ⟨.ref p, rfl, p, _, dx, _, .int n, rfl, upd_same, T.cl_Belt, T.n_Belt_pieces, bf_p _ _ _, .int m, rfl, n, m, rfl, rfl, dx, _, upd_same, (by show 3 < 1000; decide), ?_⟩
    rw [bf_put_p]
    have hg3 : (upd (upd H2 p (.ins T.C_Belt dx (bf u n k))) p (.ins T.C_Belt dx (bf u (n + m) k))) g = some (.lst ((takenF r m).map V.int)) := by rw [upd_ne ngp, upd_ne ngp]; exact hg2
    have el : atI ((takenF r m).map V.int) (-1) = some (.int (comeF r r.length m)) := by
      have e2 : (takenF r m).take (r.length + 1) = takenF r m := List.take_of_length_le (by rw [len_takenF]; exact Nat.le_refl _)
      rw [List.take_add_one, taken_last] at e2
      rw [← e2, List.map_append]
      exact atI_last _ _
    refine ⟨.ref p, rfl, p, _, dx, _, .int k, rfl, upd_same, T.cl_Belt, T.n_Belt_passed, bf_d _ _ _, .ref g, rfl, 1, rfl, g, _, -1, .int (comeF r r.length m), rfl, rfl, sq_of hg3, el, k, _, rfl, rfl, dx, _, upd_same, (by show 3 < 1000; decide), ?_⟩
    rw [bf_put_d]
    refine ⟨.ref g, rfl, q _ g (fun a o hn h => ?_) ng (by rw [upd_ne ngp]; exact hg3) ⟨dx, u, upd_same, ?_⟩⟩
    · rw [upd_ne hn, upd_ne hn, upd_ne hn]
      exact s12 _ _ h
    · exact row_upd (row_upd (row_upd hu hp2) upd_same) upd_same
def spCome (C : Addr) : Sp := fun vs H Q _ => ∃ (p t : Addr) (r : List (Int × Int)) (n k : Int) (x : Int × Int), vs = [.ref p, .ref t] ∧ BeltAt C H p r n k ∧ H t = some (.tup [.int x.1, .int x.2]) ∧ okT x ∧ r.length < 8 ∧
  ∀ H', Kb p H H' → BeltAt C H' p (r ++ [x]) n k → Q .non H'
theorem ok_Belt_come (T : Top K mg) : FnOk P w K mg base CX0 3 T.a_Belt_come T.fd_Belt_come ["self", "taker"] (spCome T.C_Belt) := by
  refine T.F_Belt_come.ok sc_Belt_come (fun vs H Q E h => ?_) (fun cdv A outer s H vs Q E hr h => ?_)
  · obtain ⟨p, t, r, n, k, x, rfl, _⟩ := h
    rfl
  · obtain ⟨p, t, r, n, k, x, rfl, ⟨dx, tk, hp, hR⟩, ht, okx, h8, q⟩ := h
    obtain ⟨ts, h1, hpa⟩ := hR.pairs
    have h2 := hpa.1
    refine ⟨_, (pss_cons (ps_if (pt_not (pt_val (pe_call (ok_is_taker T) (hr.mono (by decide)) (by rfl) T.g_is_taker T.F_is_taker.kp T.b_is_taker .nil pass0 (pa_cons (pv 1) pa_nil)))) (pss_one ps_never) pss_nil)
      (pss_cons (ps_if (pt_cmpR op_eq (pe_callB call_len_seq (by rfl) T.z_len (by decide +kernel) (pa_cons (pe_fld (pv 0) rfl) pa_nil)) (pe_glob (v := .int 8) (by rfl) T.g_MOST_TAKERS ⟨_, rfl⟩) (nomark _)) (pss_one ps_never) pss_nil)
      (pss_one (ps_fldaug (pv 0) (pe_tup (pa_cons (pv 1) pa_nil)) in_catA)))), ?_⟩
    refine ⟨.ref t, rfl, t, x.1, x.2, rfl, ht, okx, true, rfl, iteF ?_⟩
    refine ⟨.ref p, rfl, p, _, dx, _, .ref tk, rfl, hp, T.cl_Belt, T.n_Belt_takers, bf_t _ _ _, tk, _, rfl, .inr (st_of h1), rfl, false, ?_, iteF ?_⟩
    · rw [List.length_map, decide_eq_false (fun z => by have := V.int.inj z; omega)]
    refine ⟨.ref p, rfl, p, _, dx, _, .ref tk, rfl, hp, T.cl_Belt, T.n_Belt_takers, bf_t _ _ _, .ref t, rfl, by show 1 ≤ sizeLine; decide, fun u nu => ?_⟩
    have su := same_new (o := .tup [.ref t]) nu
    refine cat_use (su _ _ h1) upd_same (by rw [List.length_map, h2]; exact Nat.le_of_lt (small1000 (by simp; omega))) fun v H2 s2 hv => ?_
    have s2' := su.trans s2
    have hp2 := s2' _ _ hp
    refine ⟨dx, _, hp2, (by show 3 < 1000; decide), ?_⟩
    rw [bf_put_t]
    refine q _ (fun a o hn h => ?_) ⟨dx, v, upd_same, ?_⟩
    · rw [upd_ne hn]
      exact s2' _ _ h
    · refine row_upd (((hpa.keep (tupS_of s2')).app (us := [t]) (q := [x]) ⟨rfl, fun i u' g a1 a2 => ?_⟩).row (by rw [hv, List.map_append]; rfl)) hp2
      cases i with
      | zero => cases a1; cases a2; exact s2' _ _ ht
      | succ i => simp at a1
def spCPlace : Sp := fun vs H Q _ => ∃ (t : Addr) (r : List (Int × Int)) (j : Nat), vs = [.ref t, .int (j : Nat)] ∧ RowAt H t r ∧ j < r.length ∧ Q .non H
theorem ok_check_place (T : Top K mg) : FnOk P w K mg base CX0 2 T.a_check_place T.fd_check_place ["row", "thing"] spCPlace := by
  refine T.F_check_place.ok sc_check_place (fun vs H Q E h => ?_) (fun cdv A outer s H vs Q E hr h => ?_)
  · obtain ⟨t, r, j, rfl, _⟩ := h
    rfl
  · obtain ⟨t, r, j, rfl, hR, hj, q⟩ := h
    obtain ⟨ts, h1, h2, h3⟩ := hR
    refine ⟨_, (pss_one (ps_if (pt_not (pt_val (pe_call (ok_is_whole T) (hr.mono (by decide)) (by rfl) T.g_is_whole T.F_is_whole.kp T.b_is_whole .nil pass0 (pa_cons (pv 1) (pa_cons pe_int (pa_cons (pe_op op_sub (pe_callB call_len_seq (by rfl) T.z_len (by decide +kernel) (pa_cons (pv 0) pa_nil)) pe_int) pa_nil)))))) (pss_one ps_never) pss_nil)), ?_⟩
    refine ⟨.int (j : Nat), rfl, .ref t, rfl, t, _, rfl, .inr (st_of h1), _, 1, rfl, rfl, (j : Int), 0, _, rfl, ?_⟩
    have e1 : (0 : Int) ≤ (j : Int) := by omega
    have e2 : (j : Int) ≤ ((ts.map V.ref).length : Int) - 1 := by rw [List.length_map]; omega
    rw [decide_eq_true e1, decide_eq_true e2]
    exact ⟨true, rfl, iteF q⟩
def spLeave (C : Addr) : Sp := fun vs H Q _ => ∃ (p : Addr) (r : List (Int × Int)) (n k : Int) (j : Nat), vs = [.ref p, .int (j : Nat)] ∧ BeltAt C H p r n k ∧ r.length ≤ 8 ∧ j < r.length ∧
  ∀ H', Kb p H H' → BeltAt C H' p (r.take j ++ r.drop (j + 1)) n k → Q .non H'
theorem ok_Belt_leave (T : Top K mg) : FnOk P w K mg base CX0 3 T.a_Belt_leave T.fd_Belt_leave ["self", "place"] (spLeave T.C_Belt) := by
  refine T.F_Belt_leave.ok sc_Belt_leave (fun vs H Q E h => ?_) (fun cdv A outer s H vs Q E hr h => ?_)
  · obtain ⟨p, r, n, k, j, rfl, _⟩ := h
    rfl
  · obtain ⟨p, r, n, k, j, rfl, ⟨dx, tk, hp, hR⟩, h8, hj, q⟩ := h
    obtain ⟨ts, h1, hpa⟩ := hR.pairs
    have h2 := hpa.1
    refine ⟨_, (pss_cons (ps_expr (pe_call (ok_check_place T) (hr.mono (by decide)) (by rfl) T.g_check_place T.F_check_place.kp T.b_check_place .nil pass0 (pa_cons (pe_fld (pv 0) rfl) (pa_cons (pv 1) pa_nil))))
      (pss_one (ps_fld (pv 0) (pe_op op_catA (pe_slice sl_tupA (pe_fld (pv 0) rfl) po_none (po_some (pv 1))) (pe_slice sl_tupA (pe_fld (pv 0) rfl) (po_some (pe_op op_add (pv 1) pe_int)) po_none)) rfl))), ?_⟩
    refine ⟨.ref p, rfl, p, _, dx, _, .ref tk, rfl, hp, T.cl_Belt, T.n_Belt_takers, bf_t _ _ _, .int (j : Nat), rfl, tk, r, j, rfl, hR, hj, ?_⟩
    refine ⟨.ref p, rfl, p, _, dx, _, .ref tk, rfl, hp, T.cl_Belt, T.n_Belt_takers, bf_t _ _ _, .int (j : Nat), rfl, (j : Int), rfl, slice_use h1 fun q1 H1 s1 hq1 => ?_⟩
    rw [cut_to rfl (by rw [List.length_map]; omega)] at hq1
    refine ⟨.ref p, rfl, p, _, dx, _, .ref tk, rfl, s1 _ _ hp, T.cl_Belt, T.n_Belt_takers, bf_t _ _ _, .int (j : Nat), rfl, (j : Int), 1, rfl, rfl, (j : Int) + 1, rfl, ?_⟩
    dsimp only [tNoPart]
    refine slice_use (K := K) (lo := some ((j : Int) + 1)) (hi := none) (s1 _ _ h1) fun q2 H2 s2 hq2 => ?_
    rw [cut_from (k := j + 1) (by omega) (by rw [List.length_map]; omega)] at hq2
    refine cat_use (s2 _ _ hq1) hq2 (by rw [List.length_take, List.length_drop, List.length_map]; exact Nat.le_of_lt (small1000 (by omega))) fun v H3 s3 hv => ?_
    have s3' := (s1.trans s2).trans s3
    have hp3 := s3' _ _ hp
    have pr := hpa.keep (tupS_of s3')
    refine ⟨.ref p, rfl, p, _, dx, _, rfl, hp3, T.cl_Belt, T.n_Belt_takers, (by show 3 < 1000; decide), ?_⟩
    rw [bf_put_t]
    refine q _ (fun a o hn h => ?_) ⟨dx, v, upd_same, row_upd (((pr.take j).app (pr.drop (j + 1))).row (by rw [hv, List.map_append, List.map_take, List.map_drop])) hp3⟩
    rw [upd_ne hn]
    exact s3' _ _ h
def swapL (r : List (Int × Int)) (i j : Nat) : List (Int × Int) := match r[i]?, r[j]? with
  | some x, some y => (r.set i y).set j x
  | _, _ => r
theorem pairs_set {H : Hp} {ts : List Addr} {r : List (Int × Int)} (h : PairsAt H ts r) {j : Nat} {t : Addr} {x : Int × Int} (ht : H t = some (.tup [.int x.1, .int x.2])) : PairsAt H (ts.set j t) (r.set j x) := by
  refine ⟨by rw [List.length_set, List.length_set, h.1], fun i u g a b => ?_⟩
  by_cases e : j = i
  · subst e
    rw [List.getElem?_set_self' ] at a b
    obtain ⟨_, _, e1⟩ := Option.map_eq_some_iff.mp a
    obtain ⟨_, _, e2⟩ := Option.map_eq_some_iff.mp b
    rw [← e1, ← e2]
    exact ht
  · rw [List.getElem?_set_ne e] at a b
    exact h.2 i u g a b
def spChange (C : Addr) : Sp := fun vs H Q _ => ∃ (p : Addr) (r : List (Int × Int)) (n k : Int) (i j : Nat), vs = [.ref p, .int (i : Nat), .int (j : Nat)] ∧ BeltAt C H p r n k ∧ r.length ≤ 8 ∧ i < r.length ∧ j < r.length ∧
  ∀ H', Kb p H H' → BeltAt C H' p (swapL r i j) n k → Q .non H'
theorem ok_Belt_change (T : Top K mg) : FnOk P w K mg base CX0 3 T.a_Belt_change T.fd_Belt_change ["self", "place", "other"] (spChange T.C_Belt) := by
  refine T.F_Belt_change.ok sc_Belt_change (fun vs H Q E h => ?_) (fun cdv A outer s H vs Q E hr h => ?_)
  · obtain ⟨p, r, n, k, i, j, rfl, _⟩ := h
    rfl
  · obtain ⟨p, r, n, k, i, j, rfl, ⟨dx, tk, hp, hR⟩, h8, hi, hj, q⟩ := h
    obtain ⟨ts, h1, hpa⟩ := hR.pairs
    have h2 := hpa.1
    refine ⟨_, (pss_cons (ps_expr (pe_call (ok_check_place T) (hr.mono (by decide)) (by rfl) T.g_check_place T.F_check_place.kp T.b_check_place .nil pass0 (pa_cons (pe_fld (pv 0) rfl) (pa_cons (pv 1) pa_nil))))
      (pss_cons (ps_expr (pe_call (ok_check_place T) (hr.mono (by decide)) (by rfl) T.g_check_place T.F_check_place.kp T.b_check_place .nil pass0 (pa_cons (pe_fld (pv 0) rfl) (pa_cons (pv 2) pa_nil))))
      (pss_cons (ps_set (i := 3) sc_Belt_change.nd rfl (.inl rfl) (pe_callTy call_list_of (by rfl) T.z_list (by decide +kernel) (pa_cons (pe_fld (pv 0) rfl) pa_nil)))
      (pss_cons (ps_asg (pe_tup (pa_cons (pe_ix ix_list (pv 3) (pv 2) (fun _ _ => rfl)) (pa_cons (pe_ix ix_list (pv 3) (pv 1) (fun _ _ => rfl)) pa_nil))) (pg_tup (by rfl) (pgs_cons (pg_sub (pv 3) (pv 1) set_list) (pgs_cons (pg_sub (pv 3) (pv 2) set_list) pgs_nil))))
      (pss_one (ps_fld (pv 0) (pe_callTy call_tuple_of (by rfl) T.z_tuple (by decide +kernel) (pa_cons (pv 3) pa_nil)) rfl)))))), ?_⟩
    refine ⟨.ref p, rfl, p, _, dx, _, .ref tk, rfl, hp, T.cl_Belt, T.n_Belt_takers, bf_t _ _ _, .int (i : Nat), rfl, tk, r, i, rfl, hR, hi, ?_⟩
    refine ⟨.ref p, rfl, p, _, dx, _, .ref tk, rfl, hp, T.cl_Belt, T.n_Belt_takers, bf_t _ _ _, .int (j : Nat), rfl, tk, r, j, rfl, hR, hj, ?_⟩
    refine ⟨.ref p, rfl, p, _, dx, _, .ref tk, rfl, hp, T.cl_Belt, T.n_Belt_takers, bf_t _ _ _, tk, _, rfl, .inr (st_of h1), fun S nS => ?_⟩
    have sS := same_new (o := .lst (ts.map V.ref)) nS
    have hS : (upd H S (.lst (ts.map V.ref))) S = some (.lst (ts.map V.ref)) := upd_same
    have nSp : S ≠ p := (ne_of_none hp nS).symm
    generalize upd H S (.lst (ts.map V.ref)) = H1 at sS hS ⊢
    have ti : ts[i]? = some ts[i] := List.getElem?_eq_getElem (by omega)
    have tj : ts[j]? = some ts[j] := List.getElem?_eq_getElem (by omega)
    have ri := List.getElem?_eq_getElem hi
    have rj := List.getElem?_eq_getElem hj
    refine ⟨.ref S, rfl, .int (j : Nat), rfl, S, _, (j : Int), .ref ts[j], rfl, rfl, sq_of hS, at_of rfl (by rw [List.getElem?_map, tj]; rfl), .ref S, rfl, .int (i : Nat), rfl, S, _, (i : Int), .ref ts[i], rfl, rfl, sq_of hS, at_of rfl (by rw [List.getElem?_map, ti]; rfl), by show 2 ≤ sizeLine; decide, fun U nU => ?_⟩
    have sU := same_new (o := .tup [.ref ts[j], .ref ts[i]]) nU
    have hS2 := sU _ _ hS
    refine ⟨U, _, rfl, st_of upd_same, rfl, _, _, rfl, ?_⟩
    refine ⟨.ref S, rfl, .int (i : Nat), rfl, S, _, (i : Int), i, rfl, rfl, hS2, ixN_nat rfl (by rw [List.length_map]; omega), ?_⟩
    refine ⟨_, _, rfl, .ref S, rfl, .int (j : Nat), rfl, S, _, (j : Int), j, rfl, rfl, upd_same, ixN_nat rfl (by rw [List.length_set, List.length_map]; omega), ?_⟩
    refine ⟨rfl, ?_⟩
    have sF : Kb S H1 (upd (upd (upd H1 U (.tup [.ref ts[j], .ref ts[i]])) S (.lst ((ts.map V.ref).set i (.ref ts[j])))) S (.lst (((ts.map V.ref).set i (.ref ts[j])).set j (.ref ts[i])))) := fun a o hn h => by
      rw [upd_ne hn, upd_ne hn]
      exact sU _ _ h
    have hS3 : (upd (upd (upd H1 U (.tup [.ref ts[j], .ref ts[i]])) S (.lst ((ts.map V.ref).set i (.ref ts[j])))) S (.lst (((ts.map V.ref).set i (.ref ts[j])).set j (.ref ts[i])))) S = some (.lst (((ts.set i ts[j]).set j ts[i]).map V.ref)) := by
      rw [upd_same, List.map_set, List.map_set]
    generalize upd (upd (upd H1 U (.tup [.ref ts[j], .ref ts[i]])) S (.lst ((ts.map V.ref).set i (.ref ts[j])))) S (.lst (((ts.map V.ref).set i (.ref ts[j])).set j (.ref ts[i]))) = H3 at sF hS3 ⊢
    have old : ∀ a o, H a = some o → H3 a = some o := fun a o h => sF _ _ (ne_of_none h nS) (sS _ _ h)
    refine ⟨.ref S, rfl, S, _, rfl, .inl ⟨sq_of hS3, fun l nl => ?_⟩⟩
    have sl := same_new (o := .tup (((ts.set i ts[j]).set j ts[i]).map V.ref)) nl
    have hpl := sl _ _ (old _ _ hp)
    refine ⟨.ref p, rfl, p, _, dx, _, rfl, hpl, T.cl_Belt, T.n_Belt_takers, (by show 3 < 1000; decide), ?_⟩
    rw [bf_put_t]
    have pr : PairsAt (upd H3 l (.tup (((ts.set i ts[j]).set j ts[i]).map V.ref))) ts r := hpa.keep fun a xs e => sl _ _ (old _ _ e)
    refine q _ (fun a o hn h => ?_) ⟨dx, l, upd_same, row_upd ?_ hpl⟩
    · rw [upd_ne hn]
      exact sl _ _ (old _ _ h)
    · have es : swapL r i j = (r.set i r[j]).set j r[i] := by
        unfold swapL
        rw [ri, rj]
      rw [es]
      exact (pairs_set (pairs_set pr (pr.2 j _ _ tj rj)) (pr.2 i _ _ ti ri)).row upd_same
def spBRow (C : Addr) : Sp := fun vs H Q _ => ∃ (p : Addr) (r : List (Int × Int)) (n k : Int), vs = [.ref p] ∧ BeltAt C H p r n k ∧ ∀ t, RowAt H t r → Q (.ref t) H
theorem ok_Belt_row (T : Top K mg) : FnOk P w K mg base CX0 1 T.a_Belt_row T.fd_Belt_row ["self"] (spBRow T.C_Belt) := by
  refine T.F_Belt_row.ok sc_Belt_row (fun vs H Q E h => ?_) (fun cdv A outer s H vs Q E hr h => ?_)
  · obtain ⟨p, r, n, k, rfl, _⟩ := h
    rfl
  · obtain ⟨p, r, n, k, rfl, ⟨dx, tk, hp, hR⟩, q⟩ := h
    refine ⟨_, (pss_one (ps_ret (pe_fld (pv 0) rfl))), ?_⟩
    exact ⟨.ref p, rfl, p, _, dx, _, .ref tk, rfl, hp, T.cl_Belt, T.n_Belt_takers, bf_t _ _ _, q tk hR⟩
def spBGone (C : Addr) : Sp := fun vs H Q _ => ∃ (p : Addr) (r : List (Int × Int)) (n k : Int), vs = [.ref p] ∧ BeltAt C H p r n k ∧ Q (.int n) H
theorem ok_Belt_gone (T : Top K mg) : FnOk P w K mg base CX0 1 T.a_Belt_gone T.fd_Belt_gone ["self"] (spBGone T.C_Belt) := by
  refine T.F_Belt_gone.ok sc_Belt_gone (fun vs H Q E h => ?_) (fun cdv A outer s H vs Q E hr h => ?_)
  · obtain ⟨p, r, n, k, rfl, _⟩ := h
    rfl
  · obtain ⟨p, r, n, k, rfl, ⟨dx, tk, hp, hR⟩, q⟩ := h
    refine ⟨_, (pss_one (ps_ret (pe_fld (pv 0) rfl))), ?_⟩
    exact ⟨.ref p, rfl, p, _, dx, _, .int n, rfl, hp, T.cl_Belt, T.n_Belt_pieces, bf_p _ _ _, q⟩
def spBLeft (C : Addr) : Sp := fun vs H Q _ => ∃ (p : Addr) (r : List (Int × Int)) (n k : Int), vs = [.ref p] ∧ BeltAt C H p r n k ∧ Q (.int k) H
theorem ok_Belt_left_over (T : Top K mg) : FnOk P w K mg base CX0 1 T.a_Belt_left_over T.fd_Belt_left_over ["self"] (spBLeft T.C_Belt) := by
  refine T.F_Belt_left_over.ok sc_Belt_left_over (fun vs H Q E h => ?_) (fun cdv A outer s H vs Q E hr h => ?_)
  · obtain ⟨p, r, n, k, rfl, _⟩ := h
    rfl
  · obtain ⟨p, r, n, k, rfl, ⟨dx, tk, hp, hR⟩, q⟩ := h
    refine ⟨_, (pss_one (ps_ret (pe_fld (pv 0) rfl))), ?_⟩
    exact ⟨.ref p, rfl, p, _, dx, _, .int k, rfl, hp, T.cl_Belt, T.n_Belt_passed, bf_d _ _ _, q⟩
/-! two belts -/
def bD (r : List (Int × Int)) (n k : Int) : PyData := .tuple [.tuple (r.map tkD), .int n, .int k]
theorem dp_b {K : PySem.W.Frag} {H : Hp} {u t : Addr} {r : List (Int × Int)} {n k : Int} (hu : H u = some (.tup [.ref t, .int n, .int k])) (ht : RowAt H t r) : Dp K H (.ref u) (bD r n k) := .tup (st_of hu) (.cons (dp_row ht) (.cons (.int _) (.cons (.int _) .nil)))
theorem shp_b (r : List (Int × Int)) (n k : Int) : SeqAt.shaped (bD r n k) = true := by
  unfold SeqAt.shaped
  have h1 : PyData.canLay0 (bD r n k) = true := by
    show (PyData.canLayAll0 (r.map tkD) && _) = true
    rw [lay_row]
    rfl
  have h2 : PyData.depth (bD r n k) ≤ 64 := by
    show max (PyData.depthAll (r.map tkD) + 1) (max 0 (max 0 0)) + 1 ≤ 64
    have := deep_row r
    omega
  rw [h1, decide_eq_true h2]
  rfl
theorem eqv_b (r r' : List (Int × Int)) (n k n' k' : Int) : PyData.eqv (bD r n k) (bD r' n' k') = decide (r = r' ∧ n = n' ∧ k = k') := by
  unfold bD
  rw [PyData.eqv]
  show (PyData.eqv (.tuple (r.map tkD)) (.tuple (r'.map tkD)) && ((n == n') && ((k == k') && true))) = _
  rw [PyData.eqv, eqv_tks, Bool.eq_iff_iff]
  simp
def spBEq (C : Addr) : Sp := fun vs H Q _ => ∃ (p p' : Addr) (r r' : List (Int × Int)) (n k n' k' : Int), vs = [.ref p, .ref p'] ∧ BeltAt C H p r n k ∧ BeltAt C H p' r' n' k' ∧ ∀ H', Same H H' → Q (.bl (decide (r = r' ∧ n = n' ∧ k = k'))) H'
theorem ok_Belt___eq__ (T : Top K mg) : FnOk P w K mg base CX0 1 T.a_Belt___eq__ T.fd_Belt___eq__ ["self", "other"] (spBEq T.C_Belt) := by
  refine T.F_Belt___eq__.ok sc_Belt___eq__ (fun vs H Q E h => ?_) (fun cdv A outer s H vs Q E hr h => ?_)
  · obtain ⟨p, p', r, r', n, k, n', k', rfl, _⟩ := h
    rfl
  · obtain ⟨p, p', r, r', n, k, n', k', rfl, ⟨dx, t, hp, hR⟩, ⟨dx', t', hp', hR'⟩, q⟩ := h
    refine ⟨_, (pss_cons (ps_if (pt_not (pt_val (pe_callB call_isi (by rfl) T.z_isinstance (by decide +kernel) (pa_cons (pv 1) (pa_cons (pe_glob (v := .ref T.C_Belt) (by rfl) T.g_Belt rfl) pa_nil))))) (pss_one (ps_ret pe_bl)) pss_nil)
      (pss_one (ps_ret (pe_cmpR (op_eqD hr.units) (pe_tup (pa_cons (pe_fld (pv 0) rfl) (pa_cons (pe_fld (pv 0) rfl) (pa_cons (pe_fld (pv 0) rfl) pa_nil)))) (pe_tup (pa_cons (pe_fld (pv 1) rfl) (pa_cons (pe_fld (pv 1) rfl) (pa_cons (pe_fld (pv 1) rfl) pa_nil)))) (nomark _))))), ?_⟩
    have ic := T.ins_Belt
    refine ⟨.ref p', rfl, .ref p', .ref T.C_Belt, .ref T.C_Belt, .ref T.C_Belt, true, rfl, .own _, .base (.ins hp' ic.cl ic.ha ic.hn ic.htk ic.hm), ic.me, true, rfl, iteF ?_⟩
    refine ⟨.ref p, rfl, p, _, dx, _, .ref t, rfl, hp, T.cl_Belt, T.n_Belt_takers, bf_t _ _ _, .ref p, rfl, p, _, dx, _, .int n, rfl, hp, T.cl_Belt, T.n_Belt_pieces, bf_p _ _ _, .ref p, rfl, p, _, dx, _, .int k, rfl, hp, T.cl_Belt, T.n_Belt_passed, bf_d _ _ _, by show 3 ≤ sizeLine; decide, fun u nu => ?_⟩
    have su := same_new (o := .tup [.ref t, .int n, .int k]) nu
    have hp2 := su _ _ hp'
    refine ⟨.ref p', rfl, p', _, dx', _, .ref t', rfl, hp2, T.cl_Belt, T.n_Belt_takers, bf_t _ _ _, .ref p', rfl, p', _, dx', _, .int n', rfl, hp2, T.cl_Belt, T.n_Belt_pieces, bf_p _ _ _, .ref p', rfl, p', _, dx', _, .int k', rfl, hp2, T.cl_Belt, T.n_Belt_passed, bf_d _ _ _, by show 3 ≤ sizeLine; decide, fun u' nu' => ?_⟩
    have su' := same_new (o := .tup [.ref t', .int n', .int k']) nu'
    have s2 := su.trans su'
    refine ⟨_, _, dp_b (su' _ _ upd_same) (hR.keep (tupS_of s2)), dp_b upd_same (hR'.keep (tupS_of s2)), shp_b _ _ _, shp_b _ _ _, ?_⟩
    rw [eqv_b]
    exact q _ s2

/-! the program, of anything -/
def spWholeD (K : PySem.W.Frag) : Sp := fun vs H Q _ => ∃ (v : V) (d : PyData) (lo hi : Int), vs = [v, .int lo, .int hi] ∧ Dp K H v d ∧ Q (.bl (wholeD d lo hi)) H
theorem okD_is_whole (T : Top K mg) : FnOk P w K mg base CX0 1 T.a_is_whole T.fd_is_whole ["thing", "least", "most"] (spWholeD K) := by
  refine T.F_is_whole.ok sc_is_whole (fun vs H Q E h => ?_) (fun cdv A outer s H vs Q E hr h => ?_)
  · obtain ⟨v, d, lo, hi, rfl, _⟩ := h
    rfl
  · obtain ⟨v, d, lo, hi, rfl, hD, q⟩ := h
    refine ⟨_, (pss_cons (ps_if (PW.pt (pw_or (pt_not (pt_val (pe_callB call_isi (by rfl) T.z_isinstance (by decide +kernel) (pa_cons (pv 0) (pa_cons (pe_bltn (v := .ty "int") (by rfl) T.z_int (by decide +kernel) rfl) pa_nil))))) (pw_or1 (pt_val (pe_callB call_isi (by rfl) T.z_isinstance (by decide +kernel) (pa_cons (pv 0) (pa_cons (pe_bltn (v := .ty "bool") (by rfl) T.z_bool (by decide +kernel) rfl) pa_nil))))))) (pss_one (ps_ret pe_bl)) pss_nil)
      (pss_one (ps_ret (pe_chain op_le op_le (pv 1) (pv 0) (pv 2))))), ?_⟩
    cases d with
    | none => exact ⟨v, rfl, v, .ty "int", _, _, false, rfl, .ty _, tyD hD, kit_ty (a := "NoneType") (b := "int") (r := false) (by decide +kernel), false, rfl, iteT (iteT q)⟩
    | str x => exact ⟨v, rfl, v, .ty "int", _, _, false, rfl, .ty _, tyD hD, kit_ty (a := "str") (b := "int") (r := false) (by decide +kernel), false, rfl, iteT (iteT q)⟩
    | list x => exact ⟨v, rfl, v, .ty "int", _, _, false, rfl, .ty _, tyD hD, kit_ty (a := "list") (b := "int") (r := false) (by decide +kernel), false, rfl, iteT (iteT q)⟩
    | tuple x => exact ⟨v, rfl, v, .ty "int", _, _, false, rfl, .ty _, tyD hD, kit_ty (a := "tuple") (b := "int") (r := false) (by decide +kernel), false, rfl, iteT (iteT q)⟩
    | dict x => exact absurd rfl (nodict hD x)
    | bool x =>
      refine ⟨v, rfl, v, .ty "int", _, _, true, rfl, .ty _, tyD hD, kit_ty (a := "bool") (b := "int") (r := true) (by decide +kernel), true, rfl, iteF ?_⟩
      exact ⟨v, rfl, v, .ty "bool", _, _, true, rfl, .ty _, tyD hD, kit_ty (a := "bool") (b := "bool") (r := true) (by decide +kernel), true, rfl, iteT q⟩
    | int n =>
      cases hD
      refine ⟨.int n, rfl, .int n, .ty "int", _, _, true, rfl, .ty _, tyD (.int n), kit_ty (a := "int") (b := "int") (r := true) (by decide +kernel), true, rfl, iteF ?_⟩
      refine ⟨.int n, rfl, .int n, .ty "bool", _, _, false, rfl, .ty _, tyD (.int n), kit_ty (a := "int") (b := "bool") (r := false) (by decide +kernel), false, rfl, iteF ?_⟩
      have q : Q (.bl (decide (lo ≤ n) && decide (n ≤ hi))) H := q
      refine ⟨.int lo, rfl, .int n, rfl, lo, n, rfl, rfl, _, rfl, ite2 (fun e => ?_) (fun e => ?_)⟩
      · refine ⟨.int hi, rfl, n, hi, rfl, rfl, ?_⟩
        rw [e, Bool.true_and] at q
        exact q
      · rw [show decide (lo ≤ n) = false by simpa using e, Bool.false_and] at q
        exact q
def spTakerD (K : PySem.W.Frag) : Sp := fun vs H Q _ => ∃ (v : V) (d : PyData), vs = [v] ∧ Dp K H v d ∧ Q (.bl (takerD d)) H
theorem taker_long {ds : List PyData} (h : ds.length ≠ 2) : takerD (.tuple ds) = false := by
  match ds, h with
  | [], _ => rfl
  | [_], _ => rfl
  | [_, _], h => exact absurd rfl h
  | _ :: _ :: _ :: _, _ => rfl
theorem two_of {xs : List V} {ds : List PyData} {H : Hp} (h : DpAll K H xs ds) (hl : xs.length = 2) : ∃ x1 x2 d1 d2, xs = [x1, x2] ∧ ds = [d1, d2] ∧ Dp K H x1 d1 ∧ Dp K H x2 d2 := by
  match xs, hl with
  | [x1, x2], _ =>
    cases h with
    | cons a b =>
      cases b with
      | cons b c =>
        cases c
        exact ⟨_, _, _, _, rfl, rfl, a, b⟩
theorem whole_int {d : PyData} {lo hi : Int} (h : wholeD d lo hi = true) : ∃ n, d = .int n := by
  cases d with
  | int n => exact ⟨n, rfl⟩
  | _ => cases h
theorem okD_is_taker (T : Top K mg) : FnOk P w K mg base CX0 2 T.a_is_taker T.fd_is_taker ["thing"] (spTakerD K) := by
  refine T.F_is_taker.ok sc_is_taker (fun vs H Q E h => ?_) (fun cdv A outer s H vs Q E hr h => ?_)
  · obtain ⟨v, d, rfl, _⟩ := h
    rfl
  · obtain ⟨v, d, rfl, hD, q⟩ := h
    refine ⟨_, (pss_cons (ps_if (PW.pt (pw_or (pt_not (pt_val (pe_callB call_isi (by rfl) T.z_isinstance (by decide +kernel) (pa_cons (pv 0) (pa_cons (pe_bltn (v := .ty "tuple") (by rfl) T.z_tuple (by decide +kernel) rfl) pa_nil))))) (pw_or1 (pt_cmpR op_ne (pe_callB call_len_seq (by rfl) T.z_len (by decide +kernel) (pa_cons (pv 0) pa_nil)) pe_int (nomark _))))) (pss_one (ps_ret pe_bl)) pss_nil)
      (pss_cons (ps_asg (pv 0) (pg_tup (by rfl) (pgs_cons (pg_name (i := 1) sc_is_taker.nd rfl (.inl rfl)) (pgs_cons (pg_name (i := 2) sc_is_taker.nd rfl (.inl rfl)) pgs_nil))))
      (pss_one (ps_ret (pe_and (pe_call (okD_is_whole T) (hr.mono (by decide)) (by rfl) T.g_is_whole T.F_is_whole.kp T.b_is_whole .nil pass0 (pa_cons (pv 1) (pa_cons (pe_glob (v := .int 2) (by rfl) T.g_LEAST_EVERY ⟨_, rfl⟩) (pa_cons (pe_glob (v := .int 1000) (by rfl) T.g_MOST_EVERY ⟨_, rfl⟩) pa_nil)))) (pe_one (pe_call (okD_is_whole T) (hr.mono (by decide)) (by rfl) T.g_is_whole T.F_is_whole.kp T.b_is_whole .nil pass0 (pa_cons (pv 2) (pa_cons pe_int (pa_cons (pe_op op_sub (pv 1) pe_int) pa_nil)))))))))), ?_⟩
    refine ⟨v, rfl, v, .ty "tuple", _, _, _, rfl, .ty _, tyD hD, kit_tup d (nodict hD) _, _, rfl, ?_⟩
    cases ht : isT d with
    | false =>
      have e : takerD d = false := by cases d <;> first | rfl | cases ht
      rw [e] at q
      exact iteT (iteT q)
    | true =>
      refine iteF ?_
      cases hD with
      | @tup a xs ds hT hA =>
        refine ⟨.ref a, rfl, a, xs, rfl, .inr hT, rfl, _, rfl, ite2 (fun z => ?_) (fun z => ?_)⟩
        · have e : ds.length ≠ 2 := fun e => by
            rw [← hA.len] at e
            rw [e] at z
            exact absurd z (by decide)
          rw [taker_long e] at q
          exact q
        · have e : xs.length = 2 := by
            by_cases e : xs.length = 2
            · exact e
            · refine absurd ?_ z
              rw [decide_eq_false (fun w => e (by have := V.int.inj w; omega))]
              rfl
          obtain ⟨x1, x2, d1, d2, rfl, rfl, a1, a2⟩ := two_of hA e
          refine ⟨.ref a, rfl, a, _, rfl, hT, rfl, x1, _, rfl, x2, _, rfl, rfl, ?_⟩
          refine ⟨x1, rfl, x1, d1, 2, 1000, rfl, a1, _, rfl, ite2 (fun w1 => ?_) (fun w1 => ?_)⟩
          · obtain ⟨e1, rfl⟩ := whole_int w1
            cases a1
            refine ⟨x2, rfl, .int e1, rfl, e1, 1, rfl, rfl, x2, d2, 0, e1 - 1, rfl, a2, ?_⟩
            have q : Q (.bl (wholeD (.int e1) 2 1000 && wholeD d2 0 (e1 - 1))) H := q
            rw [w1, Bool.true_and] at q
            exact q
          · have e3 : wholeD d1 2 1000 = false := by simpa using w1
            have e4 : takerD (.tuple [d1, d2]) = false := by
              show (wholeD d1 2 1000 && _) = false
              rw [e3, Bool.false_and]
            rw [e4] at q
            exact q
      | _ => cases ht
theorem ok__law_from (T : Top K mg) : FnOk P w K mg base CX0 1 T.a__law_from T.fd__law_from ["thing", "least", "top"] (spWholeD K) := by
  refine T.F__law_from.ok sc__law_from (fun vs H Q E h => ?_) (fun cdv A outer s H vs Q E hr h => ?_)
  · obtain ⟨v, d, lo, hi, rfl, _⟩ := h
    rfl
  · obtain ⟨v, d, lo, hi, rfl, hD, q⟩ := h
    refine ⟨_, (pss_one (ps_ret (pe_and (pe_callB call_isi (by rfl) T.z_isinstance (by decide +kernel) (pa_cons (pv 0) (pa_cons (pe_bltn (v := .ty "int") (by rfl) T.z_int (by decide +kernel) rfl) pa_nil))) (pe_and (pe_not (pe_callB call_isi (by rfl) T.z_isinstance (by decide +kernel) (pa_cons (pv 0) (pa_cons (pe_bltn (v := .ty "bool") (by rfl) T.z_bool (by decide +kernel) rfl) pa_nil)))) (pe_and (pe_cmpR op_le (pv 1) (pv 0) (nomark _)) (pe_one (pe_cmpR op_le (pv 0) (pv 2) (nomark _)))))))), ?_⟩
    cases d with
    | none => exact ⟨v, rfl, v, .ty "int", _, _, false, rfl, .ty _, tyD hD, kit_ty (a := "NoneType") (b := "int") (r := false) (by decide +kernel), false, rfl, iteF q⟩
    | str x => exact ⟨v, rfl, v, .ty "int", _, _, false, rfl, .ty _, tyD hD, kit_ty (a := "str") (b := "int") (r := false) (by decide +kernel), false, rfl, iteF q⟩
    | list x => exact ⟨v, rfl, v, .ty "int", _, _, false, rfl, .ty _, tyD hD, kit_ty (a := "list") (b := "int") (r := false) (by decide +kernel), false, rfl, iteF q⟩
    | tuple x => exact ⟨v, rfl, v, .ty "int", _, _, false, rfl, .ty _, tyD hD, kit_ty (a := "tuple") (b := "int") (r := false) (by decide +kernel), false, rfl, iteF q⟩
    | dict x => exact absurd rfl (nodict hD x)
    | bool x =>
      refine ⟨v, rfl, v, .ty "int", _, _, true, rfl, .ty _, tyD hD, kit_ty (a := "bool") (b := "int") (r := true) (by decide +kernel), true, rfl, iteT ?_⟩
      exact ⟨v, rfl, v, .ty "bool", _, _, true, rfl, .ty _, tyD hD, kit_ty (a := "bool") (b := "bool") (r := true) (by decide +kernel), true, rfl, false, rfl, iteF q⟩
    | int n =>
      cases hD
      refine ⟨.int n, rfl, .int n, .ty "int", _, _, true, rfl, .ty _, tyD (.int n), kit_ty (a := "int") (b := "int") (r := true) (by decide +kernel), true, rfl, iteT ?_⟩
      refine ⟨.int n, rfl, .int n, .ty "bool", _, _, false, rfl, .ty _, tyD (.int n), kit_ty (a := "int") (b := "bool") (r := false) (by decide +kernel), false, rfl, true, rfl, iteT ?_⟩
      have q : Q (.bl (decide (lo ≤ n) && decide (n ≤ hi))) H := q
      refine ⟨.int lo, rfl, .int n, rfl, lo, n, rfl, rfl, _, rfl, ite2 (fun e => ?_) (fun e => ?_)⟩
      · refine ⟨.int n, rfl, .int hi, rfl, n, hi, rfl, rfl, ?_⟩
        rw [e, Bool.true_and] at q
        exact q
      · rw [show decide (lo ≤ n) = false by simpa using e, Bool.false_and] at q
        exact q

/-! the belt's refusals -/
def spNumX (K : PySem.W.Frag) (C : Addr) : Sp := fun vs H _ E => ∃ (v : V) (d : PyData), vs = [v, .int 1, .int 1000000000000] ∧ Dp K H v d ∧ wholeD d 1 1000000000000 = false ∧ E (.ref C) none H
theorem rx_check_number (T : Top K mg) : FnOk P w K mg base (L2N.CX P w) 2 T.a_check_number T.fd_check_number ["thing", "least", "most"] (spNumX K T.C_NoNumber) := by
  refine okN T.F_check_number sc_check_number (fun vs H Q E h => ?_) (fun cdv A outer s H vs Q E hr h => ?_)
  · obtain ⟨v, d, rfl, _⟩ := h
    rfl
  · obtain ⟨v, d, rfl, hd, hw, q⟩ := h
    refine ⟨_, (pss_one (ps_if (pt_not (pt_val (pe_call (okD_is_whole T) (hr.mono (by decide)) (by rfl) T.g_is_whole T.F_is_whole.kp T.b_is_whole .nil pass0 (pa_cons (pv 0) (pa_cons (pv 1) (pa_cons (pv 2) pa_nil)))))) (pss_one (L2N.ps_raise rfl (L2N.takes_of rfl rfl rfl rfl) (pmkNA PySem.F.excBase_ValueError T.x_NoNumber T.g_NoNumber T.k_NoNumber (raises_own T.b_NoNumber T.t_NoNumber) rfl (pa_cons (pe_joined (PJ.cons pe_str (PJ.cons (pe_fmt (pv 1)) (PJ.cons pe_str (PJ.cons (pe_fmt (pv 2)) PJ.nil))))) pa_nil)))) pss_nil)), ?_⟩
    refine ⟨v, rfl, .int 1, rfl, .int 1000000000000, rfl, v, d, 1, 1000000000000, rfl, hd, ?_⟩
    rw [hw]
    refine ⟨false, rfl, iteT ?_⟩
    exact ⟨_, rfl, by decide +kernel, .int 1, rfl, .inr ⟨1, rfl, by decide +kernel, _, rfl, by decide +kernel, _, rfl, by decide +kernel, .int 1000000000000, rfl, .inr ⟨1000000000000, rfl, by decide +kernel, _, rfl, by decide +kernel, by decide, q⟩⟩⟩
def spGoX (K : PySem.W.Frag) (CB C : Addr) : Sp := fun vs H _ E => ∃ (p : Addr) (v : V) (d : PyData) (r : List (Int × Int)) (n k : Int), vs = [.ref p, v] ∧ BeltAt CB H p r n k ∧ Dp K H v d ∧ wholeD d 1 1000000000000 = false ∧ E (.ref C) none H
theorem rx_go_by (T : Top K mg) : FnOk P w K mg base (L2N.CX P w) 6 T.a_Belt_go_by T.fd_Belt_go_by ["self", "number"] (spGoX K T.C_Belt T.C_NoNumber) := by
  refine okN T.F_Belt_go_by sc_Belt_go_by (fun vs H Q E h => ?_) (fun cdv A outer s H vs Q E hr h => ?_)
  · obtain ⟨p, v, d, r, n, k, rfl, _⟩ := h
    rfl
  · obtain ⟨p, v, d, r, n, k, rfl, hB, hd, hw, q⟩ := h
    refine ⟨_, (pss_cons (ps_expr (pe_call (rx_check_number T) (hr.mono (by decide)) (by rfl) T.g_check_number T.F_check_number.kp T.b_check_number .nil (L2N.passes_call (L2N.takes_of rfl rfl rfl rfl) (fun _ _ _ _ h => h)) (pa_cons (pv 1) (pa_cons pe_int (pa_cons (pe_glob (v := .int 1000000000000) (by rfl) T.g_MOST_AT_ONCE ⟨_, rfl⟩) pa_nil)))))
      (pss_cons (ps_set (i := 2) sc_Belt_go_by.nd rfl (.inl rfl) (pe_call (ok_taken T) (hr.mono (by decide)) (by rfl) T.g_taken T.F_taken.kp T.b_taken .nil pass0 (pa_cons (pe_fld (pv 0) rfl) (pa_cons (pv 1) pa_nil))))
      (pss_cons (ps_fld (pv 0) (pe_call (ok_counted_on T) (hr.mono (by decide)) (by rfl) T.g_counted_on T.F_counted_on.kp T.b_counted_on .nil pass0 (pa_cons (pe_fld (pv 0) rfl) (pa_cons (pv 1) pa_nil))) rfl)
      (pss_cons (ps_fldaug (pv 0) (pv 1) in_add)
      (pss_cons (ps_fldaug (pv 0) (pe_ix ix_list (pv 2) (pe_un un_neg pe_int) (fun _ _ => rfl)) in_add)
      (pss_one (ps_ret (pv 2)))))))), ?_⟩
    exact ⟨v, rfl, v, d, rfl, hd, hw, q⟩
def spComeX (K : PySem.W.Frag) (CB C1 C2 : Addr) : Sp := fun vs H _ E => ∃ (p : Addr) (v : V) (d : PyData) (r : List (Int × Int)) (n k : Int), vs = [.ref p, v] ∧ BeltAt CB H p r n k ∧ Dp K H v d ∧ ((takerD d = false ∧ E (.ref C1) none H) ∨ (takerD d = true ∧ r.length = 8 ∧ E (.ref C2) none H))
theorem rx_come (T : Top K mg) : FnOk P w K mg base (L2N.CX P w) 3 T.a_Belt_come T.fd_Belt_come ["self", "taker"] (spComeX K T.C_Belt T.C_NoTaker T.C_Full) := by
  refine okN T.F_Belt_come sc_Belt_come (fun vs H Q E h => ?_) (fun cdv A outer s H vs Q E hr h => ?_)
  · obtain ⟨p, v, d, r, n, k, rfl, _⟩ := h
    rfl
  · obtain ⟨p, v, d, r, n, k, rfl, ⟨dx, tk, hp, hR⟩, hd, hc⟩ := h
    obtain ⟨ts, h1, hpa⟩ := hR.pairs
    refine ⟨_, (pss_cons (ps_if (pt_not (pt_val (pe_call (okD_is_taker T) (hr.mono (by decide)) (by rfl) T.g_is_taker T.F_is_taker.kp T.b_is_taker .nil pass0 (pa_cons (pv 1) pa_nil)))) (pss_one (L2N.ps_raise rfl (L2N.takes_of rfl rfl rfl rfl) (L2N.pmk_own PySem.F.excBase_ValueError T.x_NoTaker T.g_NoTaker T.k_NoTaker (raises_own T.b_NoTaker T.t_NoTaker) rfl))) pss_nil)
      (pss_cons (ps_if (pt_cmpR op_eq (pe_callB call_len_seq (by rfl) T.z_len (by decide +kernel) (pa_cons (pe_fld (pv 0) rfl) pa_nil)) (pe_glob (v := .int 8) (by rfl) T.g_MOST_TAKERS ⟨_, rfl⟩) (nomark _)) (pss_one (L2N.ps_raise rfl (L2N.takes_of rfl rfl rfl rfl) (pmkNA PySem.F.excBase_ValueError T.x_Full T.g_Full T.k_Full (raises_own T.b_Full T.t_Full) rfl (pa_cons (pe_joined (PJ.cons (pe_fmt (pe_glob (v := .int 8) (by rfl) T.g_MOST_TAKERS ⟨_, rfl⟩)) (PJ.cons pe_str PJ.nil))) pa_nil)))) pss_nil)
      (pss_one (ps_fldaug (pv 0) (pe_tup (pa_cons (pv 1) pa_nil)) in_catA)))), ?_⟩
    refine ⟨v, rfl, v, d, rfl, hd, ?_⟩
    rcases hc with ⟨hf, q⟩ | ⟨ht, hl, q⟩
    · rw [hf]
      exact ⟨false, rfl, iteT q⟩
    · rw [ht]
      refine ⟨true, rfl, iteF ?_⟩
      refine ⟨.ref p, rfl, p, _, dx, _, .ref tk, rfl, hp, T.cl_Belt, T.n_Belt_takers, bf_t _ _ _, tk, _, rfl, .inr (st_of h1), rfl, true, ?_, iteT ?_⟩
      · rw [List.length_map, hpa.1, hl]
        rfl
      · exact .inr ⟨8, rfl, by decide +kernel, _, rfl, by decide +kernel, _, rfl, by decide +kernel, by decide, q⟩
def spPlX (K : PySem.W.Frag) (C : Addr) : Sp := fun vs H _ E => ∃ (t : Addr) (v : V) (d : PyData) (r : List (Int × Int)), vs = [.ref t, v] ∧ RowAt H t r ∧ Dp K H v d ∧ wholeD d 0 ((r.length : Int) - 1) = false ∧ E (.ref C) none H
theorem rx_check_place (T : Top K mg) : FnOk P w K mg base (L2N.CX P w) 2 T.a_check_place T.fd_check_place ["row", "thing"] (spPlX K T.C_NoPlace) := by
  refine okN T.F_check_place sc_check_place (fun vs H Q E h => ?_) (fun cdv A outer s H vs Q E hr h => ?_)
  · obtain ⟨t, v, d, r, rfl, _⟩ := h
    rfl
  · obtain ⟨t, v, d, r, rfl, hR, hd, hw, q⟩ := h
    obtain ⟨ts, h1, h2, h3⟩ := hR
    refine ⟨_, (pss_one (ps_if (pt_not (pt_val (pe_call (okD_is_whole T) (hr.mono (by decide)) (by rfl) T.g_is_whole T.F_is_whole.kp T.b_is_whole .nil pass0 (pa_cons (pv 1) (pa_cons pe_int (pa_cons (pe_op op_sub (pe_callB call_len_seq (by rfl) T.z_len (by decide +kernel) (pa_cons (pv 0) pa_nil)) pe_int) pa_nil)))))) (pss_one (L2N.ps_raise rfl (L2N.takes_of rfl rfl rfl rfl) (L2N.pmk_own PySem.F.excBase_ValueError T.x_NoPlace T.g_NoPlace T.k_NoPlace (raises_own T.b_NoPlace T.t_NoPlace) rfl))) pss_nil)), ?_⟩
    refine ⟨v, rfl, .ref t, rfl, t, _, rfl, .inr (st_of h1), _, 1, rfl, rfl, v, d, 0, _, rfl, hd, ?_⟩
    rw [List.length_map, h2, hw]
    exact ⟨false, rfl, iteT q⟩
theorem okB_check_place (T : Top K mg) : FnOk P w K mg base (L2N.CX P w) 2 T.a_check_place T.fd_check_place ["row", "thing"] (fun vs H Q E => spCPlace vs H Q E ∨ spPlX K T.C_NoPlace vs H Q E) := TK.FnOk.or (TK.FnOk.toN (ok_check_place T)) (rx_check_place T)
def spLeaveX (K : PySem.W.Frag) (CB C : Addr) : Sp := fun vs H _ E => ∃ (p : Addr) (v : V) (d : PyData) (r : List (Int × Int)) (n k : Int), vs = [.ref p, v] ∧ BeltAt CB H p r n k ∧ Dp K H v d ∧ wholeD d 0 ((r.length : Int) - 1) = false ∧ E (.ref C) none H
theorem rx_leave (T : Top K mg) : FnOk P w K mg base (L2N.CX P w) 3 T.a_Belt_leave T.fd_Belt_leave ["self", "place"] (spLeaveX K T.C_Belt T.C_NoPlace) := by
  refine okN T.F_Belt_leave sc_Belt_leave (fun vs H Q E h => ?_) (fun cdv A outer s H vs Q E hr h => ?_)
  · obtain ⟨p, v, d, r, n, k, rfl, _⟩ := h
    rfl
  · obtain ⟨p, v, d, r, n, k, rfl, ⟨dx, tk, hp, hR⟩, hd, hw, q⟩ := h
    refine ⟨_, (pss_cons (ps_expr (pe_call (okB_check_place T) (hr.mono (by decide)) (by rfl) T.g_check_place T.F_check_place.kp T.b_check_place .nil (L2N.passes_call (L2N.takes_of rfl rfl rfl rfl) (fun _ _ _ _ h => h)) (pa_cons (pe_fld (pv 0) rfl) (pa_cons (pv 1) pa_nil))))
      (pss_one (ps_fld (pv 0) (pe_op op_catA (pe_slice sl_tupA (pe_fld (pv 0) rfl) po_none (po_some (pv 1))) (pe_slice sl_tupA (pe_fld (pv 0) rfl) (po_some (pe_op op_add (pv 1) pe_int)) po_none)) rfl))), ?_⟩
    exact ⟨.ref p, rfl, p, _, dx, _, .ref tk, rfl, hp, T.cl_Belt, T.n_Belt_takers, bf_t _ _ _, v, rfl, .inr ⟨tk, v, d, r, rfl, hR, hd, hw, q⟩⟩
def spChangeX (K : PySem.W.Frag) (CB C : Addr) : Sp := fun vs H _ E => ∃ (p : Addr) (v v' : V) (d d' : PyData) (r : List (Int × Int)) (n k : Int), vs = [.ref p, v, v'] ∧ BeltAt CB H p r n k ∧ Dp K H v d ∧ Dp K H v' d' ∧
  (wholeD d 0 ((r.length : Int) - 1) = false ∨ ((∃ j : Nat, v = .int (j : Nat) ∧ j < r.length) ∧ wholeD d' 0 ((r.length : Int) - 1) = false)) ∧ E (.ref C) none H
theorem rx_change (T : Top K mg) : FnOk P w K mg base (L2N.CX P w) 3 T.a_Belt_change T.fd_Belt_change ["self", "place", "other"] (spChangeX K T.C_Belt T.C_NoPlace) := by
  refine okN T.F_Belt_change sc_Belt_change (fun vs H Q E h => ?_) (fun cdv A outer s H vs Q E hr h => ?_)
  · obtain ⟨p, v, v', d, d', r, n, k, rfl, _⟩ := h
    rfl
  · obtain ⟨p, v, v', d, d', r, n, k, rfl, ⟨dx, tk, hp, hR⟩, hd, hd', hc, q⟩ := h
    refine ⟨_, (pss_cons (ps_expr (pe_call (okB_check_place T) (hr.mono (by decide)) (by rfl) T.g_check_place T.F_check_place.kp T.b_check_place .nil (L2N.passes_call (L2N.takes_of rfl rfl rfl rfl) (fun _ _ _ _ h => h)) (pa_cons (pe_fld (pv 0) rfl) (pa_cons (pv 1) pa_nil))))
      (pss_cons (ps_expr (pe_call (okB_check_place T) (hr.mono (by decide)) (by rfl) T.g_check_place T.F_check_place.kp T.b_check_place .nil (L2N.passes_call (L2N.takes_of rfl rfl rfl rfl) (fun _ _ _ _ h => h)) (pa_cons (pe_fld (pv 0) rfl) (pa_cons (pv 2) pa_nil))))
      (pss_cons (ps_set (i := 3) sc_Belt_change.nd rfl (.inl rfl) (pe_callTy call_list_of (by rfl) T.z_list (by decide +kernel) (pa_cons (pe_fld (pv 0) rfl) pa_nil)))
      (pss_cons (ps_asg (pe_tup (pa_cons (pe_ix ix_list (pv 3) (pv 2) (fun _ _ => rfl)) (pa_cons (pe_ix ix_list (pv 3) (pv 1) (fun _ _ => rfl)) pa_nil))) (pg_tup (by rfl) (pgs_cons (pg_sub (pv 3) (pv 1) set_list) (pgs_cons (pg_sub (pv 3) (pv 2) set_list) pgs_nil))))
      (pss_one (ps_fld (pv 0) (pe_callTy call_tuple_of (by rfl) T.z_tuple (by decide +kernel) (pa_cons (pv 3) pa_nil)) rfl)))))), ?_⟩
    refine ⟨.ref p, rfl, p, _, dx, _, .ref tk, rfl, hp, T.cl_Belt, T.n_Belt_takers, bf_t _ _ _, v, rfl, ?_⟩
    rcases hc with hw | ⟨⟨j, rfl, hj⟩, hw⟩
    · exact .inr ⟨tk, v, d, r, rfl, hR, hd, hw, q⟩
    · refine .inl ⟨tk, r, j, rfl, hR, hj, ?_⟩
      exact ⟨.ref p, rfl, p, _, dx, _, .ref tk, rfl, hp, T.cl_Belt, T.n_Belt_takers, bf_t _ _ _, v', rfl, .inr ⟨tk, v', d', r, rfl, hR, hd', hw, q⟩⟩
def spBLen (C : Addr) : Sp := fun vs H Q _ => ∃ (p : Addr) (r : List (Int × Int)) (n k : Int), vs = [.ref p] ∧ BeltAt C H p r n k ∧ Q (.int (r.length : Nat)) H
theorem ok_Belt___len__ (T : Top K mg) : FnOk P w K mg base CX0 1 T.a_Belt___len__ T.fd_Belt___len__ ["self"] (spBLen T.C_Belt) := by
  refine T.F_Belt___len__.ok sc_Belt___len__ (fun vs H Q E h => ?_) (fun cdv A outer s H vs Q E hr h => ?_)
  · obtain ⟨p, r, n, k, rfl, _⟩ := h
    rfl
  · obtain ⟨p, r, n, k, rfl, ⟨dx, tk, hp, hR⟩, q⟩ := h
    obtain ⟨ts, h1, hpa⟩ := hR.pairs
    refine ⟨_, (pss_one (ps_ret (pe_callB call_len_seq (by rfl) T.z_len (by decide +kernel) (pa_cons (pe_fld (pv 0) rfl) pa_nil)))), ?_⟩
    refine ⟨.ref p, rfl, p, _, dx, _, .ref tk, rfl, hp, T.cl_Belt, T.n_Belt_takers, bf_t _ _ _, tk, _, rfl, .inr (st_of h1), ?_⟩
    rw [List.length_map, hpa.1]
    exact q

/-! who refuses -/
/-- the class D0 of an error, by what isinstance says of it -/
structure KinOf (T : Top K mg) (D0 : Addr) (b0 b1 b2 b3 b4 b5 b6 b7 : Bool) : Prop where
  ex : ExcC K D0
  tm : PySem.W.exmOne K (.ref D0) (.ref T.C_TooMany) = some false
  te : PySem.W.exmOne K (.ref D0) (.ref T.C_TakeError) = some true
  k0 : PySem.W.kitOne K (.ref D0) (.ref T.C_NoRow) = some b0
  k1 : PySem.W.kitOne K (.ref D0) (.ref T.C_NoNumber) = some b1
  k2 : PySem.W.kitOne K (.ref D0) (.ref T.C_NoTaker) = some b2
  k3 : PySem.W.kitOne K (.ref D0) (.ref T.C_NoSeen) = some b3
  k4 : PySem.W.kitOne K (.ref D0) (.ref T.C_NoCounts) = some b4
  k5 : PySem.W.kitOne K (.ref D0) (.ref T.C_NoPlace) = some b5
  k6 : PySem.W.kitOne K (.ref D0) (.ref T.C_Unlike) = some b6
  k7 : PySem.W.kitOne K (.ref D0) (.ref T.C_Full) = some b7
  kv : PySem.W.kitOne K (.ref D0) (.type "ValueError") = some true
def kinF (ws : List (Str × Bool)) : List V := (ws.filter (·.2)).map fun x => V.str x.1
theorem kinF_succ (ws : List (Str × Bool)) (i : Nat) (x : Str × Bool) (h : ws[i]? = some x) : kinF (ws.take (i + 1)) = kinF (ws.take i) ++ (if x.2 = true then [V.str x.1] else []) := by
  unfold kinF
  rw [List.take_add_one, h, List.filter_append, List.map_append]
  cases hx : x.2 <;> simp [hx]
def kinL (b0 b1 b2 b3 b4 b5 b6 b7 : Bool) : List (Str × Bool) := [("NoRow", b0), ("NoNumber", b1), ("NoTaker", b2), ("NoSeen", b3), ("NoCounts", b4), ("NoPlace", b5), ("Unlike", b6), ("Full", b7)]
theorem refused_body (T : Top K mg) {cdv : Value} {A : Around} {outer : List Env} {s : Shared} {H : Hp} {E : XK} {Q : VK} {f : Addr} {v1 v2 v3 : V} {tc : WX → TE}
    (hcall : ∀ (W : WX) (pn : List (Addr × Obj)) (xe : Value → Shared → Prop) (p1 p2 p3 p4 p5 : Pos), L2N.Takes ((cxOf CX0 P w K mg base ["call", "one", "two", "three", "kin", "e", "words", "word", "there"] "_law_refused" (defScope s__law_refused) T.a__law_refused cdv A outer s H E).nox.tr pn xe) W →
      PE ((cxOf CX0 P w K mg base ["call", "one", "two", "three", "kin", "e", "words", "word", "there"] "_law_refused" (defScope s__law_refused) T.a__law_refused cdv A outer s H E).nox.tr pn xe) (.Call (.Name "call" p1) [.Name "one" p2, .Name "two" p3, .Name "three" p4] [] p5) (tc W))
    (h : ∀ D, H D = none → ∀ (W : WX) (Q' : VK), (∀ v H2, Q (.ref D) H2 → Q' v H2) →
      (∀ D0 b0 b1 b2 b3 b4 b5 b6 b7 H2, KinOf T D0 b0 b1 b2 b3 b4 b5 b6 b7 → (∀ H3 p, Same H2 H3 → H2 p = none → H3 p = some (.lst (kinF (kinL b0 b1 b2 b3 b4 b5 b6 b7) ++ [.bl true])) → Q (.ref p) H3) → W (.ref D0) none [some (.ref f), some v1, some v2, some v3, some (.ref D), none, none, none, none] H2) →
      tc W [some (.ref f), some v1, some v2, some v3, some (.ref D), none, none, none, none] (upd H D (.lst [])) Q') :
    ∃ t, PSs (cxOf CX0 P w K mg base ["call", "one", "two", "three", "kin", "e", "words", "word", "there"] "_law_refused" (defScope s__law_refused) T.a__law_refused cdv A outer s H E).nox (defBody s__law_refused) t ∧ t { nx := fun _ H' => Q .non H', rt := Q } (start ["call", "one", "two", "three", "kin", "e", "words", "word", "there"] [.ref f, v1, v2, v3]) H := by
    refine ⟨_, (pss_cons (ps_set (i := 4) sc__law_refused.nd rfl (.inl rfl) (pe_lst pa_nil))
      (pss_cons (ps_try_manyA (i := 5) rfl rfl sc__law_refused.nd rfl rfl takesN0 (fun W pn xe tk _ => (pss_one (ps_expr (hcall W pn xe _ _ _ _ _ tk))))
      (clause_never ⟨rfl, by decide, .inl T.g_TooMany⟩
        (clause_exc ⟨rfl, by decide, .inl T.g_TakeError⟩ (fun a oe pn D0 hz hf hE hh => (pss_cons (ps_set (i := 6) sc__law_refused.nd rfl (.inl rfl) (pe_lst (pa_cons (pe_tup (pa_cons pe_str (pa_cons (pe_callB (call_isE hE hz.zc hf) (by rfl) T.z_isinstance (by decide +kernel) (pa_cons (pv 5) (pa_cons (pe_glob (v := .ref T.C_NoRow) (by rfl) T.g_NoRow rfl) pa_nil))) pa_nil))) (pa_cons (pe_tup (pa_cons pe_str (pa_cons (pe_callB (call_isE hE hz.zc hf) (by rfl) T.z_isinstance (by decide +kernel) (pa_cons (pv 5) (pa_cons (pe_glob (v := .ref T.C_NoNumber) (by rfl) T.g_NoNumber rfl) pa_nil))) pa_nil))) pa_nil))))
      (pss_cons (ps_set (i := 6) sc__law_refused.nd rfl (.inl rfl) (pe_op op_cat (pv 6) (pe_lst (pa_cons (pe_tup (pa_cons pe_str (pa_cons (pe_callB (call_isE hE hz.zc hf) (by rfl) T.z_isinstance (by decide +kernel) (pa_cons (pv 5) (pa_cons (pe_glob (v := .ref T.C_NoTaker) (by rfl) T.g_NoTaker rfl) pa_nil))) pa_nil))) pa_nil))))
      (pss_cons (ps_set (i := 6) sc__law_refused.nd rfl (.inl rfl) (pe_op op_cat (pv 6) (pe_lst (pa_cons (pe_tup (pa_cons pe_str (pa_cons (pe_callB (call_isE hE hz.zc hf) (by rfl) T.z_isinstance (by decide +kernel) (pa_cons (pv 5) (pa_cons (pe_glob (v := .ref T.C_NoSeen) (by rfl) T.g_NoSeen rfl) pa_nil))) pa_nil))) (pa_cons (pe_tup (pa_cons pe_str (pa_cons (pe_callB (call_isE hE hz.zc hf) (by rfl) T.z_isinstance (by decide +kernel) (pa_cons (pv 5) (pa_cons (pe_glob (v := .ref T.C_NoCounts) (by rfl) T.g_NoCounts rfl) pa_nil))) pa_nil))) pa_nil)))))
      (pss_cons (ps_set (i := 6) sc__law_refused.nd rfl (.inl rfl) (pe_op op_cat (pv 6) (pe_lst (pa_cons (pe_tup (pa_cons pe_str (pa_cons (pe_callB (call_isE hE hz.zc hf) (by rfl) T.z_isinstance (by decide +kernel) (pa_cons (pv 5) (pa_cons (pe_glob (v := .ref T.C_NoPlace) (by rfl) T.g_NoPlace rfl) pa_nil))) pa_nil))) (pa_cons (pe_tup (pa_cons pe_str (pa_cons (pe_callB (call_isE hE hz.zc hf) (by rfl) T.z_isinstance (by decide +kernel) (pa_cons (pv 5) (pa_cons (pe_glob (v := .ref T.C_Unlike) (by rfl) T.g_Unlike rfl) pa_nil))) pa_nil))) pa_nil)))))
      (pss_cons (ps_set (i := 6) sc__law_refused.nd rfl (.inl rfl) (pe_op op_cat (pv 6) (pe_lst (pa_cons (pe_tup (pa_cons pe_str (pa_cons (pe_callB (call_isE hE hz.zc hf) (by rfl) T.z_isinstance (by decide +kernel) (pa_cons (pv 5) (pa_cons (pe_glob (v := .ref T.C_Full) (by rfl) T.g_Full rfl) pa_nil))) pa_nil))) pa_nil))))
      (pss_one (ps_set (i := 4) sc__law_refused.nd rfl (.inl rfl) (pe_op op_cat (pe_lcH (K := K) (g := (gTup K 2 (gCons (gName 7) (gCons (gName 8) gNil)))) (own := [("word", 7), ("there", 8)]) sc__law_refused.nd (pv 6)
        (blkOk_by (own := [("word", 7), ("there", 8)]) (N := ["call", "one", "two", "three", "kin", "e", "words", "word", "there"]) (sc := defScope s__law_refused) (by decide +kernel))
        (fun _ _ _ _ _ hb => (pg_tupH hb (pgs_cons (pg_name (i := 7) sc__law_refused.nd rfl (.inl rfl)) (pgs_cons (pg_name (i := 8) sc__law_refused.nd rfl (.inl rfl)) pgs_nil)))) (fun _ _ _ _ _ => (pts_one (pt_val (pv 8)))) (fun _ _ _ _ _ => (pv 7)) hh) (pe_lst (pa_cons (pe_callB (call_isE hE hz.zc hf) (by rfl) T.z_isinstance (by decide +kernel) (pa_cons (pv 5) (pa_cons (pe_bltn (v := .ty "ValueError") (by rfl) T.z_ValueError (by decide +kernel) rfl) pa_nil))) pa_nil)))))))))))
        Clauses.nil)))
      (pss_one (ps_ret (pv 4))))), ?_⟩
    refine ⟨Nat.zero_le _, fun D nD => ?_⟩
    refine h D nD _ _ (fun v H2 q => ⟨.ref D, rfl, q⟩) (fun D0 b0 b1 b2 b3 b4 b5 b6 b7 H2 kin q => ?_)
    refine ⟨false, kin.tm, nofun, fun _ => ⟨true, kin.te, fun _ a na => ?_, nofun⟩⟩
    refine ⟨D0, rfl, rfl, kin.ex, ?_⟩
    refine ⟨.ref a, rfl, .ref T.C_NoRow, _, b0, rfl, fun u h => h, kin.k0, by show 2 ≤ sizeLine; decide, fun t0 n0 => ?_⟩
    have s0 := same_new (o := .tup [.str "NoRow", .bl b0]) n0
    have h0 : (upd H2 t0 (.tup [.str "NoRow", .bl b0])) t0 = some (.tup [.str "NoRow", .bl b0]) := upd_same
    generalize upd H2 t0 (.tup [.str "NoRow", .bl b0]) = G0 at s0 h0 ⊢
    refine ⟨.ref a, rfl, .ref T.C_NoNumber, _, b1, rfl, fun u h => h, kin.k1, by show 2 ≤ sizeLine; decide, fun t1 n1 => ?_⟩
    have s1 := same_new (o := .tup [.str "NoNumber", .bl b1]) n1
    have h1 : (upd G0 t1 (.tup [.str "NoNumber", .bl b1])) t1 = some (.tup [.str "NoNumber", .bl b1]) := upd_same
    generalize upd G0 t1 (.tup [.str "NoNumber", .bl b1]) = G1 at s1 h1 ⊢
    refine ⟨by show 2 ≤ sizeLine; decide, fun L0 nL0 => ?_⟩
    have e0 := same_new (o := .lst [.ref t0, .ref t1]) nL0
    have g0 : (upd G1 L0 (.lst [.ref t0, .ref t1])) L0 = some (.lst [.ref t0, .ref t1]) := upd_same
    generalize upd G1 L0 (.lst [.ref t0, .ref t1]) = G2 at e0 g0 ⊢
    -- the second
    refine ⟨.ref L0, rfl, .ref a, rfl, .ref T.C_NoTaker, _, b2, rfl, fun u h => h, kin.k2, by show 2 ≤ sizeLine; decide, fun t2 n2 => ?_⟩
    have s2 := same_new (o := .tup [.str "NoTaker", .bl b2]) n2
    have h2 : (upd G2 t2 (.tup [.str "NoTaker", .bl b2])) t2 = some (.tup [.str "NoTaker", .bl b2]) := upd_same
    generalize upd G2 t2 (.tup [.str "NoTaker", .bl b2]) = G3 at s2 h2 ⊢
    refine ⟨by show 1 ≤ sizeLine; decide, fun M1 nM1 => ?_⟩
    have e1 := same_new (o := .lst [.ref t2]) nM1
    refine ⟨L0, M1, _, _, rfl, rfl, e1 _ _ (s2 _ _ g0), upd_same, by show 3 ≤ sizeLine; decide, fun L1 nL1 => ?_⟩
    have e2 := e1.trans (same_new (o := .lst ([.ref t0, .ref t1] ++ [.ref t2])) nL1)
    have g1 : (upd (upd G3 M1 (.lst [.ref t2])) L1 (.lst ([.ref t0, .ref t1] ++ [.ref t2]))) L1 = some (.lst [.ref t0, .ref t1, .ref t2]) := upd_same
    generalize upd (upd G3 M1 (.lst [.ref t2])) L1 (.lst ([.ref t0, .ref t1] ++ [.ref t2])) = G4 at e2 g1 ⊢
    -- the third
    refine ⟨.ref L1, rfl, .ref a, rfl, .ref T.C_NoSeen, _, b3, rfl, fun u h => h, kin.k3, by show 2 ≤ sizeLine; decide, fun t3 n3 => ?_⟩
    have s3 := same_new (o := .tup [.str "NoSeen", .bl b3]) n3
    have h3 : (upd G4 t3 (.tup [.str "NoSeen", .bl b3])) t3 = some (.tup [.str "NoSeen", .bl b3]) := upd_same
    generalize upd G4 t3 (.tup [.str "NoSeen", .bl b3]) = G5 at s3 h3 ⊢
    refine ⟨.ref a, rfl, .ref T.C_NoCounts, _, b4, rfl, fun u h => h, kin.k4, by show 2 ≤ sizeLine; decide, fun t4 n4 => ?_⟩
    have s4 := same_new (o := .tup [.str "NoCounts", .bl b4]) n4
    have h4 : (upd G5 t4 (.tup [.str "NoCounts", .bl b4])) t4 = some (.tup [.str "NoCounts", .bl b4]) := upd_same
    generalize upd G5 t4 (.tup [.str "NoCounts", .bl b4]) = G6 at s4 h4 ⊢
    refine ⟨by show 2 ≤ sizeLine; decide, fun M2 nM2 => ?_⟩
    have e3 := same_new (o := .lst [.ref t3, .ref t4]) nM2
    refine ⟨L1, M2, _, _, rfl, rfl, e3 _ _ (s4 _ _ (s3 _ _ g1)), upd_same, by show 5 ≤ sizeLine; decide, fun L2' nL2 => ?_⟩
    have e4 := e3.trans (same_new (o := .lst ([.ref t0, .ref t1, .ref t2] ++ [.ref t3, .ref t4])) nL2)
    have g2 : (upd (upd G6 M2 (.lst [.ref t3, .ref t4])) L2' (.lst ([.ref t0, .ref t1, .ref t2] ++ [.ref t3, .ref t4]))) L2' = some (.lst [.ref t0, .ref t1, .ref t2, .ref t3, .ref t4]) := upd_same
    generalize upd (upd G6 M2 (.lst [.ref t3, .ref t4])) L2' (.lst ([.ref t0, .ref t1, .ref t2] ++ [.ref t3, .ref t4])) = G7 at e4 g2 ⊢
    -- the fourth
    refine ⟨.ref L2', rfl, .ref a, rfl, .ref T.C_NoPlace, _, b5, rfl, fun u h => h, kin.k5, by show 2 ≤ sizeLine; decide, fun t5 n5 => ?_⟩
    have s5 := same_new (o := .tup [.str "NoPlace", .bl b5]) n5
    have h5 : (upd G7 t5 (.tup [.str "NoPlace", .bl b5])) t5 = some (.tup [.str "NoPlace", .bl b5]) := upd_same
    generalize upd G7 t5 (.tup [.str "NoPlace", .bl b5]) = G8 at s5 h5 ⊢
    refine ⟨.ref a, rfl, .ref T.C_Unlike, _, b6, rfl, fun u h => h, kin.k6, by show 2 ≤ sizeLine; decide, fun t6 n6 => ?_⟩
    have s6 := same_new (o := .tup [.str "Unlike", .bl b6]) n6
    have h6 : (upd G8 t6 (.tup [.str "Unlike", .bl b6])) t6 = some (.tup [.str "Unlike", .bl b6]) := upd_same
    generalize upd G8 t6 (.tup [.str "Unlike", .bl b6]) = G9 at s6 h6 ⊢
    refine ⟨by show 2 ≤ sizeLine; decide, fun M3 nM3 => ?_⟩
    have e5 := same_new (o := .lst [.ref t5, .ref t6]) nM3
    refine ⟨L2', M3, _, _, rfl, rfl, e5 _ _ (s6 _ _ (s5 _ _ g2)), upd_same, by show 7 ≤ sizeLine; decide, fun L3 nL3 => ?_⟩
    have e6 := e5.trans (same_new (o := .lst ([.ref t0, .ref t1, .ref t2, .ref t3, .ref t4] ++ [.ref t5, .ref t6])) nL3)
    have g3 : (upd (upd G9 M3 (.lst [.ref t5, .ref t6])) L3 (.lst ([.ref t0, .ref t1, .ref t2, .ref t3, .ref t4] ++ [.ref t5, .ref t6]))) L3 = some (.lst [.ref t0, .ref t1, .ref t2, .ref t3, .ref t4, .ref t5, .ref t6]) := upd_same
    generalize upd (upd G9 M3 (.lst [.ref t5, .ref t6])) L3 (.lst ([.ref t0, .ref t1, .ref t2, .ref t3, .ref t4] ++ [.ref t5, .ref t6])) = G10 at e6 g3 ⊢
    -- the last
    refine ⟨.ref L3, rfl, .ref a, rfl, .ref T.C_Full, _, b7, rfl, fun u h => h, kin.k7, by show 2 ≤ sizeLine; decide, fun t7 n7 => ?_⟩
    have s7 := same_new (o := .tup [.str "Full", .bl b7]) n7
    have h7 : (upd G10 t7 (.tup [.str "Full", .bl b7])) t7 = some (.tup [.str "Full", .bl b7]) := upd_same
    generalize upd G10 t7 (.tup [.str "Full", .bl b7]) = G11 at s7 h7 ⊢
    refine ⟨by show 1 ≤ sizeLine; decide, fun M4 nM4 => ?_⟩
    have e7 := same_new (o := .lst [.ref t7]) nM4
    refine ⟨L3, M4, _, _, rfl, rfl, e7 _ _ (s7 _ _ g3), upd_same, by show 8 ≤ sizeLine; decide, fun L4 nL4 => ?_⟩
    have e8 := e7.trans (same_new (o := .lst ([.ref t0, .ref t1, .ref t2, .ref t3, .ref t4, .ref t5, .ref t6] ++ [.ref t7])) nL4)
    have g4 : (upd (upd G11 M4 (.lst [.ref t7])) L4 (.lst ([.ref t0, .ref t1, .ref t2, .ref t3, .ref t4, .ref t5, .ref t6] ++ [.ref t7]))) L4 = some (.lst ([t0, t1, t2, t3, t4, t5, t6, t7].map V.ref)) := upd_same
    generalize upd (upd G11 M4 (.lst [.ref t7])) L4 (.lst ([.ref t0, .ref t1, .ref t2, .ref t3, .ref t4, .ref t5, .ref t6] ++ [.ref t7])) = G12 at e8 g4 ⊢
    -- all of it
    have r67 := (s7.trans e8)
    have r56 := e6.trans r67
    have r5 := s6.trans r56
    have r4 := s5.trans r5
    have r34 := e4.trans r4
    have r3 := s4.trans r34
    have r2 := s3.trans r3
    have r23 := e2.trans r2
    have r1 := s2.trans r23
    have r12 := e0.trans r1
    have r0 := s1.trans r12
    have rr := s0.trans r0
    have hw : ∀ (i : Nat) (t : Addr) (x : Str × Bool), [t0, t1, t2, t3, t4, t5, t6, t7][i]? = some t → (kinL b0 b1 b2 b3 b4 b5 b6 b7)[i]? = some x → G12 t = some (.tup [.str x.1, .bl x.2]) := by
      intro i t x ht hx
      match i, ht, hx with
      | 0, ht, hx => cases ht; cases hx; exact r0 _ _ h0
      | 1, ht, hx => cases ht; cases hx; exact r12 _ _ h1
      | 2, ht, hx => cases ht; cases hx; exact r23 _ _ h2
      | 3, ht, hx => cases ht; cases hx; exact r3 _ _ h3
      | 4, ht, hx => cases ht; cases hx; exact r34 _ _ h4
      | 5, ht, hx => cases ht; cases hx; exact r5 _ _ h5
      | 6, ht, hx => cases ht; cases hx; exact r56 _ _ h6
      | 7, ht, hx => cases ht; cases hx; exact e8 _ _ h7
      | (i + 8), ht, _ => simp at ht
    obtain ⟨ws, hws⟩ : ∃ ws, kinL b0 b1 b2 b3 b4 b5 b6 b7 = ws := ⟨_, rfl⟩
    have hwl : ws.length = 8 := by rw [← hws]; rfl
    rw [hws] at hw q
    clear s0 s1 s2 s3 s4 s5 s6 s7 e0 e1 e2 e3 e4 e5 e6 e7 e8 g0 g1 g2 g3 r0 r1 r2 r3 r4 r5 r12 r23 r34 r56 r67 h0 h1 h2 h3 h4 h5 h6 h7
    obtain ⟨ts, hts⟩ : ∃ ts, [t0, t1, t2, t3, t4, t5, t6, t7] = ts := ⟨_, rfl⟩
    have htl : ts.length = 8 := by rw [← hts]; rfl
    rw [hts] at hw g4
    refine ⟨.ref L4, rfl, L4, rfl, ⟨_, sq_of g4⟩, fun W nW => ?_⟩
    refine lc_list (K := K) (a := L4) (xs := ts.map V.ref) (fun i H' => Same G12 H' ∧ H' W = some (.lst (kinF (ws.take i)))) ⟨same_new nW, upd_same⟩ (fun i H' _ hp => sq_of (hp.1 _ _ g4)) (fun i x H' hx hp => ?_) (fun H' hp => ?_)
    · obtain ⟨sm, hd⟩ := hp
      rw [List.getElem?_map] at hx
      obtain ⟨t, ht, hxe⟩ := Option.map_eq_some_iff.mp hx
      subst hxe
      have hi : i < ws.length := by rw [hwl, ← htl]; exact (List.getElem?_eq_some_iff.mp ht).1
      have hx := List.getElem?_eq_getElem hi
      obtain ⟨⟨nm, b⟩, hnb⟩ : ∃ x, ws[i] = x := ⟨_, rfl⟩
      rw [hnb] at hx
      have hv := sm _ _ (hw i t _ ht hx)
      have ks := kinF_succ ws i _ hx
      refine ⟨t, _, rfl, st_of hv, rfl, _, _, rfl, _, _, rfl, rfl, ?_⟩
      refine ⟨rfl, .bl b, rfl, b, rfl, ite2 (fun z => ⟨_, rfl, _, hd, ?_, same_upd_new nW sm, ?_⟩) (fun z => ⟨sm, ?_⟩)⟩
      · unfold kinF
        rw [List.length_map]
        refine Nat.lt_of_le_of_lt (List.length_filter_le _ _) ?_
        rw [List.length_take]
        exact small1000 (by omega)
      · rw [upd_same, ks, if_pos z]
      · rw [ks, if_neg z, List.append_nil]
        exact hd
    · obtain ⟨sm, hd⟩ := hp
      rw [List.length_map, htl, ← hwl, List.take_length] at hd
      refine ⟨.ref a, rfl, .ty "ValueError", _, true, rfl, fun u h => h, kin.kv, by show 1 ≤ sizeLine; decide, fun M nM => ?_⟩
      have sM := same_new (o := .lst [.bl true]) nM
      refine ⟨W, M, _, _, rfl, rfl, sM _ _ hd, upd_same, ?_, fun p np => ?_⟩
      · unfold kinF
        rw [List.length_map]
        have := List.length_filter_le (fun x : Str × Bool => x.2) ws
        exact Nat.le_of_lt (small1000 (by simp; omega))
      · refine ⟨.ref p, rfl, q _ p (rr.trans (sm.trans (sM.trans (same_new np)))) ?_ upd_same⟩
        exact (rr.trans (sm.trans sM)).free np
theorem kin_mk (T : Top K mg) {D0 : Addr} {b0 b1 b2 b3 b4 b5 b6 b7 : Bool} (ex : ExcC K D0) (tm : PySem.W.subIn K (.ref D0) (.ref T.C_TooMany) = some false) (te : PySem.W.subIn K (.ref D0) (.ref T.C_TakeError) = some true)
    (k0 : PySem.W.subIn K (.ref D0) (.ref T.C_NoRow) = some b0) (k1 : PySem.W.subIn K (.ref D0) (.ref T.C_NoNumber) = some b1) (k2 : PySem.W.subIn K (.ref D0) (.ref T.C_NoTaker) = some b2) (k3 : PySem.W.subIn K (.ref D0) (.ref T.C_NoSeen) = some b3)
    (k4 : PySem.W.subIn K (.ref D0) (.ref T.C_NoCounts) = some b4) (k5 : PySem.W.subIn K (.ref D0) (.ref T.C_NoPlace) = some b5) (k6 : PySem.W.subIn K (.ref D0) (.ref T.C_Unlike) = some b6) (k7 : PySem.W.subIn K (.ref D0) (.ref T.C_Full) = some b7)
    (kv : PySem.W.subIn K (.ref D0) (.type "ValueError") = some true) : KinOf T D0 b0 b1 b2 b3 b4 b5 b6 b7 :=
  ⟨ex, PySem.W.exm_ref T.b_TooMany T.d_TooMany T.t_TooMany tm, PySem.W.exm_ref T.b_TakeError T.d_TakeError T.t_TakeError te, kit_of T.d_NoRow T.t_NoRow T.r_NoRow k0, kit_of T.d_NoNumber T.t_NoNumber T.r_NoNumber k1, kit_of T.d_NoTaker T.t_NoTaker T.r_NoTaker k2, kit_of T.d_NoSeen T.t_NoSeen T.r_NoSeen k3,
    kit_of T.d_NoCounts T.t_NoCounts T.r_NoCounts k4, kit_of T.d_NoPlace T.t_NoPlace T.r_NoPlace k5, kit_of T.d_Unlike T.t_Unlike T.r_Unlike k6, kit_of T.d_Full T.t_Full T.r_Full k7, kit_val kv⟩

/-! deeds -/
inductive Outc
  | no (j : Nat)
  | ok (r : List (Int × Int)) (n k : Int) (ret : Option (List Int))
/-- what a deed does to a belt -/
inductive Does (r : List (Int × Int)) (n k : Int) : Str → PyData → PyData → Outc → Prop
  | goN {d d' : PyData} : wholeD d 1 1000000000000 = false → Does r n k "go" d d' (.no 1)
  | go {d' : PyData} (m : Int) : 1 ≤ m → m ≤ 900 → Does r n k "go" (.int m) d' (.ok (stB r m) (n + m) (k + comeF r r.length m) (some (takenF r m)))
  | comeN {d d' : PyData} : takerD d = false → Does r n k "come" d d' (.no 2)
  | comeF {d' : PyData} (x : Int × Int) : okT x → r.length = 8 → Does r n k "come" (tkD x) d' (.no 7)
  | come {d' : PyData} (x : Int × Int) : okT x → r.length < 8 → Does r n k "come" (tkD x) d' (.ok (r ++ [x]) n k none)
  | leaveN {d d' : PyData} : wholeD d 0 ((r.length : Int) - 1) = false → Does r n k "leave" d d' (.no 5)
  | leave {d' : PyData} (j : Nat) : j < r.length → Does r n k "leave" (.int (j : Nat)) d' (.ok (r.take j ++ r.drop (j + 1)) n k none)
  | chg1 {d d' : PyData} : wholeD d 0 ((r.length : Int) - 1) = false → Does r n k "change" d d' (.no 5)
  | chg2 {d' : PyData} (j : Nat) : j < r.length → wholeD d' 0 ((r.length : Int) - 1) = false → Does r n k "change" (.int (j : Nat)) d' (.no 5)
  | chg (i j : Nat) : i < r.length → j < r.length → Does r n k "change" (.int (i : Nat)) (.int (j : Nat)) (.ok (swapL r i j) n k none)
def kcls (T : Top K mg) (j : Nat) : Addr := match j with
  | 1 => T.C_NoNumber
  | 2 => T.C_NoTaker
  | 5 => T.C_NoPlace
  | _ => T.C_Full
def kname (j : Nat) : Str := match j with
  | 1 => "NoNumber"
  | 2 => "NoTaker"
  | 5 => "NoPlace"
  | _ => "Full"
def RetAt (H H' : Hp) (v : V) (ret : Option (List Int)) : Prop := match ret with
  | none => v = .non
  | some xs => ∃ q, v = .ref q ∧ H q = none ∧ H' q = some (.lst (xs.map V.int))
/-- a thing that a deed speaks of -/
inductive Th (H : Hp) : V → PyData → Prop
  | int (n : Int) : Th H (.int n) (.int n)
  | non : Th H .non .none
  | bl (b : Bool) : Th H (.bl b) (.bool b)
  | tk {t : Addr} (x : Int × Int) : H t = some (.tup [.int x.1, .int x.2]) → Th H (.ref t) (tkD x)
  | one {t : Addr} (x : Int) : H t = some (.tup [.int x]) → Th H (.ref t) (.tuple [.int x])
  | two {t : Addr} (x : Int) (b : Bool) : H t = some (.tup [.int x, .bl b]) → Th H (.ref t) (.tuple [.int x, .bool b])
  | lst {t : Addr} (x y : Int) : H t = some (.lst [.int x, .int y]) → Th H (.ref t) (.list [.int x, .int y])
theorem Th.dp {H : Hp} {v : V} {d : PyData} (h : Th H v d) : Dp K H v d := by
  cases h with
  | int n => exact .int n
  | non => exact .non
  | bl b => exact .bl b
  | tk x h => exact .tup (st_of h) (.cons (.int _) (.cons (.int _) .nil))
  | one x h => exact .tup (st_of h) (.cons (.int _) .nil)
  | two x b h => exact .tup (st_of h) (.cons (.int _) (.cons (.bl _) .nil))
  | lst x y h => exact .lst (sq_of h) (.cons (.int _) (.cons (.int _) .nil))
/-- all tuples and lists stand -/
def Sd (H H' : Hp) : Prop := (∀ a xs, H a = some (.tup xs) → H' a = some (.tup xs)) ∧ ∀ a xs, H a = some (.lst xs) → H' a = some (.lst xs)
theorem Sd.of {H H' : Hp} (h : Same H H') : Sd H H' := ⟨fun _ _ e => h _ _ e, fun _ _ e => h _ _ e⟩
theorem Sd.trans {H H' H'' : Hp} (h : Sd H H') (g : Sd H' H'') : Sd H H'' := ⟨fun _ _ e => g.1 _ _ (h.1 _ _ e), fun _ _ e => g.2 _ _ (h.2 _ _ e)⟩
theorem Th.keep {H H' : Hp} {v : V} {d : PyData} (h : Th H v d) (s : Sd H H') : Th H' v d := by
  cases h with
  | int n => exact .int n
  | non => exact .non
  | bl b => exact .bl b
  | tk x h => exact .tk x (s.1 _ _ h)
  | one x h => exact .one x (s.1 _ _ h)
  | two x b h => exact .two x b (s.1 _ _ h)
  | lst x y h => exact .lst x y (s.2 _ _ h)
def DeedAt (H : Hp) (q : Addr) (word : Str) (d d' : PyData) : Prop := ∃ v v', H q = some (.tup [.str word, v, v']) ∧ Th H v d ∧ Th H v' d'
theorem DeedAt.keep {H H' : Hp} {q : Addr} {word : Str} {d d' : PyData} (h : DeedAt H q word d d') (s : Sd H H') : DeedAt H' q word d d' := by
  obtain ⟨v, v', h1, h2, h3⟩ := h
  exact ⟨v, v', s.1 _ _ h1, h2.keep s, h3.keep s⟩
/-- all but the belt and the tables stand -/
def KbN (p : Addr) (H H' : Hp) : Prop := ∀ a o, a ≠ p → H a = some o → (∀ ps, o ≠ .tbl ps) → H' a = some o
theorem sd_kb {C : Addr} {H H' : Hp} {p : Addr} {r : List (Int × Int)} {n k : Int} (h : BeltAt C H p r n k) (kb : Kb p H H') : Sd H H' := by
  obtain ⟨dx, t, h1, _⟩ := h
  exact ⟨fun a xs e => kb _ _ (ne_of e h1 (by intro z; cases z)) e, fun a xs e => kb _ _ (ne_of e h1 (by intro z; cases z)) e⟩
theorem sd_kbn {C : Addr} {H H' : Hp} {p : Addr} {r : List (Int × Int)} {n k : Int} (h : BeltAt C H p r n k) (kb : KbN p H H') : Sd H H' := by
  obtain ⟨dx, t, h1, _⟩ := h
  exact ⟨fun a xs e => kb _ _ (ne_of e h1 (by intro z; cases z)) e (by intro ps z; cases z), fun a xs e => kb _ _ (ne_of e h1 (by intro z; cases z)) e (by intro ps z; cases z)⟩
theorem okB_go_by (T : Top K mg) : FnOk P w K mg base (L2N.CX P w) 6 T.a_Belt_go_by T.fd_Belt_go_by ["self", "number"] (fun vs H Q E => spGoBy T.C_Belt vs H Q E ∨ spGoX K T.C_Belt T.C_NoNumber vs H Q E) := TK.FnOk.or (TK.FnOk.toN (ok_Belt_go_by T)) (rx_go_by T)
theorem okB_come (T : Top K mg) : FnOk P w K mg base (L2N.CX P w) 3 T.a_Belt_come T.fd_Belt_come ["self", "taker"] (fun vs H Q E => spCome T.C_Belt vs H Q E ∨ spComeX K T.C_Belt T.C_NoTaker T.C_Full vs H Q E) := TK.FnOk.or (TK.FnOk.toN (ok_Belt_come T)) (rx_come T)
theorem okB_leave (T : Top K mg) : FnOk P w K mg base (L2N.CX P w) 3 T.a_Belt_leave T.fd_Belt_leave ["self", "place"] (fun vs H Q E => spLeave T.C_Belt vs H Q E ∨ spLeaveX K T.C_Belt T.C_NoPlace vs H Q E) := TK.FnOk.or (TK.FnOk.toN (ok_Belt_leave T)) (rx_leave T)
theorem okB_change (T : Top K mg) : FnOk P w K mg base (L2N.CX P w) 3 T.a_Belt_change T.fd_Belt_change ["self", "place", "other"] (fun vs H Q E => spChange T.C_Belt vs H Q E ∨ spChangeX K T.C_Belt T.C_NoPlace vs H Q E) := TK.FnOk.or (TK.FnOk.toN (ok_Belt_change T)) (rx_change T)
/-- what a deed's outcome asks of those who come after -/
def After (T : Top K mg) (p : Addr) (H : Hp) (Q : VK) (E : XK) : Outc → Prop
  | .no j => E (.ref (kcls T j)) none H
  | .ok r' n' k' ret => ∀ H' w, Kb p H H' → BeltAt T.C_Belt H' p r' n' k' → RetAt H H' w ret → Q w H'
def spDo (T : Top K mg) : Sp := fun vs H Q E => ∃ (p q : Addr) (word : Str) (d d' : PyData) (r : List (Int × Int)) (n k : Int) (o : Outc), vs = [.ref p, .ref q] ∧ BeltAt T.C_Belt H p r n k ∧ (∀ ec ∈ r, okT ec) ∧ r.length ≤ 8 ∧
  DeedAt H q word d d' ∧ Does r n k word d d' o ∧ After T p H Q E o
theorem taker_ok {x : Int × Int} (h : okT x) : takerD (tkD x) = true := by
  obtain ⟨e, c⟩ := x
  obtain ⟨h1, h2, h3, h4⟩ := h
  show ((decide (2 ≤ e) && decide (e ≤ 1000)) && (decide (0 ≤ c) && decide (c ≤ e - 1))) = true
  simp only [Bool.and_eq_true, decide_eq_true_eq]
  exact ⟨⟨h1, h2⟩, h3, h4⟩
theorem th_tk {H : Hp} {v : V} {x : Int × Int} (h : Th H v (tkD x)) : ∃ t, v = .ref t ∧ H t = some (.tup [.int x.1, .int x.2]) := by
  obtain ⟨e, c⟩ := x
  generalize hd : tkD (e, c) = d at h
  cases h with
  | tk x h =>
    obtain ⟨e', c'⟩ := x
    cases hd
    exact ⟨_, rfl, h⟩
  | _ => cases hd
theorem BeltAt.cell {C : Addr} {H : Hp} {p : Addr} {r : List (Int × Int)} {n k : Int} (h : BeltAt C H p r n k) (m : Str) (h1 : ¬ m = "takers") (h2 : ¬ m = "pieces") (h3 : ¬ m = "passed") : ∃ dx fs, H p = some (.ins C dx fs) ∧ fs.lookup m = none := by
  obtain ⟨dx, t, hp, _⟩ := h
  exact ⟨dx, _, hp, bf_no _ _ _ h1 h2 h3⟩
theorem BeltAt.ins {C : Addr} {H : Hp} {p : Addr} {r : List (Int × Int)} {n k : Int} (h : BeltAt C H p r n k) : ∃ dx fs, H p = some (.ins C dx fs) := by
  obtain ⟨dx, t, hp, _⟩ := h
  exact ⟨dx, _, hp⟩
theorem th_int {H : Hp} {v : V} {m : Int} (h : Th H v (.int m)) : v = .int m := by
  cases h
  rfl
theorem s_cg : eqV (.str "come") (.str "go") = false := by decide +kernel
theorem s_lg : eqV (.str "leave") (.str "go") = false := by decide +kernel
theorem s_lc : eqV (.str "leave") (.str "come") = false := by decide +kernel
theorem s_hg : eqV (.str "change") (.str "go") = false := by decide +kernel
theorem s_hc : eqV (.str "change") (.str "come") = false := by decide +kernel
theorem s_hl : eqV (.str "change") (.str "leave") = false := by decide +kernel
theorem ok__law_do (T : Top K mg) : FnOk P w K mg base (L2N.CX P w) 7 T.a__law_do T.fd__law_do ["belt", "deed"] (spDo T) := by
  refine okN T.F__law_do sc__law_do (fun vs H Q E h => ?_) (fun cdv A outer s H vs Q E hr h => ?_)
  · obtain ⟨p, q, word, d, d', r, n, k, o, rfl, _⟩ := h
    rfl
  · obtain ⟨p, q, word, d, d', r, n, k, o, rfl, hB, ok, hl, ⟨v, v', hq, hv, hv'⟩, hd, ha⟩ := h
    refine ⟨_, (pss_cons (ps_asg (pv 1) (pg_tup (by rfl) (pgs_cons (pg_name (i := 2) sc__law_do.nd rfl (.inl rfl)) (pgs_cons (pg_name (i := 3) sc__law_do.nd rfl (.inl rfl)) (pgs_cons (pg_name (i := 4) sc__law_do.nd rfl (.inl rfl)) pgs_nil)))))
      (pss_cons (ps_if (pt_cmpR op_eq (pv 2) pe_str (nomark _)) (pss_one (ps_ret (pe_meth (pv 0) T.cl_Belt T.m_Belt_go_by (okB_go_by T) (hr.mono (by decide)) T.b_Belt_go_by .nil (L2N.passes_call (L2N.takes_of rfl rfl rfl rfl) (fun _ _ _ _ h => h)) (pa_cons (pv 3) pa_nil)))) pss_nil)
      (pss_cons (ps_if (pt_cmpR op_eq (pv 2) pe_str (nomark _)) (pss_one (ps_ret (pe_meth (pv 0) T.cl_Belt T.m_Belt_come (okB_come T) (hr.mono (by decide)) T.b_Belt_come .nil (L2N.passes_call (L2N.takes_of rfl rfl rfl rfl) (fun _ _ _ _ h => h)) (pa_cons (pv 3) pa_nil)))) pss_nil)
      (pss_one (ps_ret (pe_ifExp (pt_cmpR op_eq (pv 2) pe_str (nomark _)) (pe_meth (pv 0) T.cl_Belt T.m_Belt_leave (okB_leave T) (hr.mono (by decide)) T.b_Belt_leave .nil (L2N.passes_call (L2N.takes_of rfl rfl rfl rfl) (fun _ _ _ _ h => h)) (pa_cons (pv 3) pa_nil)) (pe_meth (pv 0) T.cl_Belt T.m_Belt_change (okB_change T) (hr.mono (by decide)) T.b_Belt_change .nil (L2N.passes_call (L2N.takes_of rfl rfl rfl rfl) (fun _ _ _ _ h => h)) (pa_cons (pv 3) (pa_cons (pv 4) pa_nil))))))))), ?_⟩
    refine ⟨.ref q, rfl, q, _, rfl, st_of hq, rfl, _, _, rfl, _, _, rfl, _, _, rfl, rfl, ?_⟩
    obtain ⟨dg, fg, hg, ng⟩ := hB.cell "go_by" (by decide +kernel) (by decide +kernel) (by decide +kernel)
    obtain ⟨dc, fc, hc, nc⟩ := hB.cell "come" (by decide +kernel) (by decide +kernel) (by decide +kernel)
    obtain ⟨dl, fl, hl', nl⟩ := hB.cell "leave" (by decide +kernel) (by decide +kernel) (by decide +kernel)
    obtain ⟨dh, fh, hh, nh⟩ := hB.cell "change" (by decide +kernel) (by decide +kernel) (by decide +kernel)
    cases hd with
    | goN h =>
      refine ⟨.str "go", rfl, rfl, true, rfl, iteT ?_⟩
      exact ⟨.ref p, rfl, p, dg, fg, rfl, hg, ng, v, rfl, .inr ⟨p, v, _, r, n, k, rfl, hB, hv.dp, h, ha⟩⟩
    | go m m1 m2 =>
      cases th_int hv
      refine ⟨.str "go", rfl, rfl, true, rfl, iteT ?_⟩
      exact ⟨.ref p, rfl, p, dg, fg, rfl, hg, ng, _, rfl, .inl ⟨p, r, n, k, m, rfl, hB, ok, hl, m1, by omega, fun H' q kb nq hq hb => ha H' _ kb hb ⟨q, rfl, nq, hq⟩⟩⟩
    | comeN h =>
      refine ⟨.str "come", rfl, rfl, false, congrArg V.bl s_cg, iteF ?_⟩
      refine ⟨.str "come", rfl, rfl, true, rfl, iteT ?_⟩
      exact ⟨.ref p, rfl, p, dc, fc, rfl, hc, nc, v, rfl, .inr ⟨p, v, _, r, n, k, rfl, hB, hv.dp, .inl ⟨h, ha⟩⟩⟩
    | comeF x okx h8 =>
      refine ⟨.str "come", rfl, rfl, false, congrArg V.bl s_cg, iteF ?_⟩
      refine ⟨.str "come", rfl, rfl, true, rfl, iteT ?_⟩
      exact ⟨.ref p, rfl, p, dc, fc, rfl, hc, nc, v, rfl, .inr ⟨p, v, _, r, n, k, rfl, hB, hv.dp, .inr ⟨taker_ok okx, h8, ha⟩⟩⟩
    | come x okx h8 =>
      obtain ⟨t, rfl, ht⟩ := th_tk hv
      refine ⟨.str "come", rfl, rfl, false, congrArg V.bl s_cg, iteF ?_⟩
      refine ⟨.str "come", rfl, rfl, true, rfl, iteT ?_⟩
      exact ⟨.ref p, rfl, p, dc, fc, rfl, hc, nc, _, rfl, .inl ⟨p, t, r, n, k, x, rfl, hB, ht, okx, h8, fun H' kb hb => ha H' _ kb hb rfl⟩⟩
    | leaveN h =>
      refine ⟨.str "leave", rfl, rfl, false, congrArg V.bl s_lg, iteF ?_⟩
      refine ⟨.str "leave", rfl, rfl, false, congrArg V.bl s_lc, iteF ?_⟩
      refine ⟨.str "leave", rfl, rfl, true, rfl, iteT ?_⟩
      exact ⟨.ref p, rfl, p, dl, fl, rfl, hl', nl, v, rfl, .inr ⟨p, v, _, r, n, k, rfl, hB, hv.dp, h, ha⟩⟩
    | leave j hj =>
      cases th_int hv
      refine ⟨.str "leave", rfl, rfl, false, congrArg V.bl s_lg, iteF ?_⟩
      refine ⟨.str "leave", rfl, rfl, false, congrArg V.bl s_lc, iteF ?_⟩
      refine ⟨.str "leave", rfl, rfl, true, rfl, iteT ?_⟩
      exact ⟨.ref p, rfl, p, dl, fl, rfl, hl', nl, _, rfl, .inl ⟨p, r, n, k, j, rfl, hB, hl, hj, fun H' kb hb => ha H' _ kb hb rfl⟩⟩
    | chg1 h =>
      refine ⟨.str "change", rfl, rfl, false, congrArg V.bl s_hg, iteF ?_⟩
      refine ⟨.str "change", rfl, rfl, false, congrArg V.bl s_hc, iteF ?_⟩
      refine ⟨.str "change", rfl, rfl, false, congrArg V.bl s_hl, iteF ?_⟩
      exact ⟨.ref p, rfl, p, dh, fh, rfl, hh, nh, v, rfl, v', rfl, .inr ⟨p, v, v', _, _, r, n, k, rfl, hB, hv.dp, hv'.dp, .inl h, ha⟩⟩
    | chg2 j hj h =>
      cases th_int hv
      refine ⟨.str "change", rfl, rfl, false, congrArg V.bl s_hg, iteF ?_⟩
      refine ⟨.str "change", rfl, rfl, false, congrArg V.bl s_hc, iteF ?_⟩
      refine ⟨.str "change", rfl, rfl, false, congrArg V.bl s_hl, iteF ?_⟩
      exact ⟨.ref p, rfl, p, dh, fh, rfl, hh, nh, _, rfl, v', rfl, .inr ⟨p, _, v', _, _, r, n, k, rfl, hB, hv.dp, hv'.dp, .inr ⟨⟨j, rfl, hj⟩, h⟩, ha⟩⟩
    | chg i j hi hj =>
      cases th_int hv
      cases th_int hv'
      refine ⟨.str "change", rfl, rfl, false, congrArg V.bl s_hg, iteF ?_⟩
      refine ⟨.str "change", rfl, rfl, false, congrArg V.bl s_hc, iteF ?_⟩
      refine ⟨.str "change", rfl, rfl, false, congrArg V.bl s_hl, iteF ?_⟩
      exact ⟨.ref p, rfl, p, dh, fh, rfl, hh, nh, _, rfl, _, rfl, .inl ⟨p, r, n, k, i, j, rfl, hB, hl, hi, hj, fun H' kb hb => ha H' _ kb hb rfl⟩⟩

/-! the table of code objects of the def that makes the lambda -/
def cs0 (T : Top K mg) : List (Addr × Addr) := [(T.cc__law_done, T.pt__law_done)]
def TLs (T : Top K mg) : List (Addr × Str) := [(T.pt__law_done, ("_law_done" : Str) ++ ".<locals>." ++ "<lambda>")]
theorem tabs0 (T : Top K mg) {H : Hp} (h : ∀ p ∈ cs0 T, H p.2 = some (.tbl #[])) : LamX.Tabs (TLs T) H := fun p hp => by
  have e : p = (T.pt__law_done, ("_law_done" : Str) ++ ".<locals>." ++ "<lambda>") := List.mem_singleton.mp hp
  subst e
  exact LamX.TabS.nil (h (T.cc__law_done, T.pt__law_done) (List.mem_singleton.mpr rfl))
def spLawT (K : PySem.W.Frag) {mg : Str → Option Value} (T : Top K mg) : Sp := fun vs H Q _ => ∃ (a : Addr) (ns : List Int), vs = [.ref a] ∧ SqL K H a (ns.map V.int) ∧ ns.length ≤ 63 ∧ LamX.Tabs (TLs T) H ∧ ∀ H', Q (.bl true) H'

/-! a deed done, by whom it is refused -/
theorem kinNoNumber (T : Top K mg) : KinOf T T.C_NoNumber false true false false false false false false :=
  kin_mk T ⟨T.y_NoNumber, T.w_NoNumber, T.b_NoNumber, T.d_NoNumber, T.u_NoNumber, T.q_n, T.q_t, T.m_NoNumber⟩ T.s_NoNumber_TooMany T.s_NoNumber_TakeError T.s_NoNumber_NoRow T.r_NoNumber T.s_NoNumber_NoTaker T.s_NoNumber_NoSeen T.s_NoNumber_NoCounts T.s_NoNumber_NoPlace T.s_NoNumber_Unlike T.s_NoNumber_Full T.v_NoNumber
theorem kinNoTaker (T : Top K mg) : KinOf T T.C_NoTaker false false true false false false false false :=
  kin_mk T ⟨T.y_NoTaker, T.w_NoTaker, T.b_NoTaker, T.d_NoTaker, T.u_NoTaker, T.q_n, T.q_t, T.m_NoTaker⟩ T.s_NoTaker_TooMany T.s_NoTaker_TakeError T.s_NoTaker_NoRow T.s_NoTaker_NoNumber T.r_NoTaker T.s_NoTaker_NoSeen T.s_NoTaker_NoCounts T.s_NoTaker_NoPlace T.s_NoTaker_Unlike T.s_NoTaker_Full T.v_NoTaker
theorem kinNoPlace (T : Top K mg) : KinOf T T.C_NoPlace false false false false false true false false :=
  kin_mk T ⟨T.y_NoPlace, T.w_NoPlace, T.b_NoPlace, T.d_NoPlace, T.u_NoPlace, T.q_n, T.q_t, T.m_NoPlace⟩ T.s_NoPlace_TooMany T.s_NoPlace_TakeError T.s_NoPlace_NoRow T.s_NoPlace_NoNumber T.s_NoPlace_NoTaker T.s_NoPlace_NoSeen T.s_NoPlace_NoCounts T.r_NoPlace T.s_NoPlace_Unlike T.s_NoPlace_Full T.v_NoPlace
theorem kinFull (T : Top K mg) : KinOf T T.C_Full false false false false false false false true :=
  kin_mk T ⟨T.y_Full, T.w_Full, T.b_Full, T.d_Full, T.u_Full, T.q_n, T.q_t, T.m_Full⟩ T.s_Full_TooMany T.s_Full_TakeError T.s_Full_NoRow T.s_Full_NoNumber T.s_Full_NoTaker T.s_Full_NoSeen T.s_Full_NoCounts T.s_Full_NoPlace T.s_Full_Unlike T.r_Full T.v_Full
theorem kin_j (T : Top K mg) (j : Nat) : ∃ b0 b1 b2 b3 b4 b5 b6 b7, KinOf T (kcls T j) b0 b1 b2 b3 b4 b5 b6 b7 ∧ kinF (kinL b0 b1 b2 b3 b4 b5 b6 b7) = [.str (kname j)] := by
  unfold kcls kname
  split
  · exact ⟨_, _, _, _, _, _, _, _, kinNoNumber T, rfl⟩
  · exact ⟨_, _, _, _, _, _, _, _, kinNoTaker T, rfl⟩
  · exact ⟨_, _, _, _, _, _, _, _, kinNoPlace T, rfl⟩
  · exact ⟨_, _, _, _, _, _, _, _, kinFull T, rfl⟩
theorem all_cells {scope sc : Scope} {n : Nat} (h : (scope.names.all fun y => !decide (y.2 = .free) || decide (sc.names.lookup y.1 = some .cell)) = true) : ∀ y ∈ scope.names, y.2 = .free → ∃ c, (cellsFrom n sc.names []).lookup y.1 = some c := fun y hy e => by
  have := List.all_eq_true.mp h y hy
  rw [decide_eq_true e] at this
  exact cell_has (of_decide_eq_true (by simpa using this))
def RetV (H' : Hp) (v : V) (ret : Option (List Int)) : Prop := match ret with
  | none => v = .non
  | some xs => ∃ q, v = .ref q ∧ H' q = some (.lst (xs.map V.int))
theorem Sd.ext {H H' : Hp} (e : LamX.ExtN H H') : Sd H H' := ⟨fun _ _ h => e _ _ h (fun _ z => by cases z), fun _ _ h => e _ _ h (fun _ z => by cases z)⟩
theorem BeltAt.ext {C : Addr} {H H' : Hp} {q : Addr} {r : List (Int × Int)} {n k : Int} (h : BeltAt C H q r n k) (e : LamX.ExtN H H') : BeltAt C H' q r n k := by
  obtain ⟨dx, t, h1, h2⟩ := h
  exact ⟨dx, t, e _ _ h1 (fun _ z => by cases z), h2.keep (tupS_ext e)⟩
theorem tabs_keep {L : List (Addr × Str)} {H H' : Hp} (h : LamX.Tabs L H) (k : ∀ a o, H a = some o → (∀ xs, o ≠ .lst xs) → (∀ C dx fs, o ≠ .ins C dx fs) → H' a = some o) : LamX.Tabs L H' := fun p hp => by
  obtain ⟨ps, h1, h2, h3⟩ := h p hp
  refine ⟨ps, k _ _ h1 (fun _ z => by cases z) (fun _ _ _ z => by cases z), h2, fun pos cv hc => ?_⟩
  obtain ⟨c0, e1, e2⟩ := h3 pos cv hc
  exact ⟨c0, e1, k _ _ e2 (fun _ z => by unfold LamX.CodeO at z; cases z) (fun _ _ _ z => by unfold LamX.CodeO at z; cases z)⟩
def retD (ret : Option (List Int)) : PyData := match ret with
  | none => .none
  | some xs => .list (xs.map PyData.int)
theorem dp_ret {H' : Hp} {v : V} {ret : Option (List Int)} (h : RetV H' v ret) : Dp K H' v (retD ret) := by
  cases ret with
  | none =>
    have h : v = .non := h
    subst h
    exact .non
  | some xs =>
    obtain ⟨q, rfl, hq⟩ := h
    exact dp_ints (sq_of hq)
theorem shp_ret1 (ret : Option (List Int)) : SeqAt.shaped (.list [retD ret]) = true := by
  cases ret with
  | none => rfl
  | some xs =>
    have h := shp_ints xs
    unfold SeqAt.shaped at h ⊢
    rw [Bool.and_eq_true] at h
    have h1 : PyData.canLay0 (.list [retD (some xs)]) = true := by
      show (PyData.canLay0 (.list (xs.map PyData.int)) && true) = true
      rw [h.1]
      rfl
    have hd : PyData.depth (.list (xs.map PyData.int)) ≤ 1 := by
      show PyData.depthAll (xs.map PyData.int) + 1 ≤ 1
      rw [deep_ints]
      omega
    have h2 : PyData.depth (.list [retD (some xs)]) ≤ 64 := by
      show max (PyData.depth (.list (xs.map PyData.int))) 0 + 1 ≤ 64
      omega
    rw [h1, decide_eq_true h2]
    rfl
def Done (T : Top K mg) (p : Addr) (H : Hp) (Q : VK) (r : List (Int × Int)) (n k : Int) : Outc → Prop
  | .no j => ∀ H' t kn, KbN p H H' → LamX.Tabs (TLs T) H' → BeltAt T.C_Belt H' p r n k → H' t = some (.tup [.non, .ref kn]) → H' kn = some (.lst [.str (kname j), .bl true]) → Q (.ref t) H'
  | .ok r' n' k' ret => ∀ H' t v kn, KbN p H H' → LamX.Tabs (TLs T) H' → BeltAt T.C_Belt H' p r' n' k' → H' t = some (.tup [v, .ref kn]) → RetV H' v ret → H' kn = some (.lst []) → Q (.ref t) H'
def spDone (T : Top K mg) : Sp := fun vs H Q _ => ∃ (p q : Addr) (word : Str) (d d' : PyData) (r : List (Int × Int)) (n k : Int) (o : Outc), vs = [.ref p, .ref q] ∧ BeltAt T.C_Belt H p r n k ∧ (∀ ec ∈ r, okT ec) ∧ r.length ≤ 8 ∧ LamX.Tabs (TLs T) H ∧
  DeedAt H q word d d' ∧ Does r n k word d d' o ∧ Done T p H Q r n k o
/-- the lambda's reading: what the deed gives is put behind the told -/
def tApp (T : Top K mg) (E : XK) : TE := fun σ H Q => ∃ (p q D : Addr) (xs : List V), σ[0]? = some (some (.ref p)) ∧ σ[1]? = some (some (.ref q)) ∧ σ[3]? = some (some (.ref D)) ∧ H D = some (.lst xs) ∧
  spDo T [.ref p, .ref q] H (fun v H' => ∃ xs, H' D = some (.lst xs) ∧ xs.length < sizeLine ∧ Q .non (upd H' D (.lst (xs ++ [v])))) E
theorem spDo_mono {T : Top K mg} {vs : List V} {H : Hp} {Q Q' : VK} {E : XK} (h : spDo T vs H Q E) (m : ∀ v H', Q v H' → Q' v H') : spDo T vs H Q' E := by
  obtain ⟨p, q, word, d, d', r, n, k, o, e, hB, ok, hl, hq, hd, ha⟩ := h
  refine ⟨p, q, word, d, d', r, n, k, o, e, hB, ok, hl, hq, hd, ?_⟩
  cases o with
  | no j => exact ha
  | ok r' n' k' ret => exact fun H' w kb hb hr => m _ _ (ha H' w kb hb hr)
theorem ok__law_done (T : Top K mg) (TB__law_done : LamX.TabB base mg T.cc__law_done T.pt__law_done) : FnOk P w K mg base CX0 10 T.a__law_done T.fd__law_done ["belt", "deed"] (spDone T) := by
  have UL__law_done : ∀ p ∈ TLs T, p.1 = T.pt__law_done → p.2 = ("_law_done" : Str) ++ ".<locals>." ++ "<lambda>" := fun p hp _ => by rw [List.mem_singleton.mp hp]
  refine ok_code T.F__law_done T.hc__law_done sc__law_done (fun vs H Q E h => ?_) (fun A outer s H vs Q E hr h => ?_)
  · obtain ⟨p, q, word, d, d', r, n, k, o, rfl, _⟩ := h
    rfl
  · obtain ⟨p, q, word, d, d', r, n, k, o, rfl, hB, ok, hl, hT, hq, hd, ha⟩ := h
    refine ⟨_, (pss_cons (ps_set (i := 2) sc__law_done.nd rfl (.inr rfl) (pe_lst pa_nil))
      (pss_cons (ps_set (i := 3) sc__law_done.nd rfl (.inl rfl) (pe_here (k := 8) T.F__law_refused sc__law_refused (hr.mono (by decide)) (by rfl) T.g__law_refused T.b__law_refused (pa_cons (pe_lamb (T := TLs T) TB__law_done rfl (by first | exact List.mem_singleton.mpr rfl | decide) UL__law_done rfl (all_cells (by decide +kernel))) (pa_cons (pv 0) (pa_cons (pv 1) (pa_cons pe_int pa_nil))))))
      (pss_one (ps_ret (pe_tup (pa_cons (pe_ifExp (pt_cmpR (op_neD hr.units) (pv 2) (pe_lst pa_nil) (nomark _)) (pe_ix ix_list (pv 2) pe_int (fun _ _ => rfl)) pe_non) (pa_cons (pv 3) pa_nil))))))), ?_⟩
    refine ⟨Nat.zero_le _, fun D nD => ?_⟩
    have sD := same_new (o := .lst []) nD
    have hD0 : (upd H D (.lst [])) D = some (.lst []) := upd_same
    generalize upd H D (.lst []) = H0 at sD hD0 ⊢
    refine ⟨hT.ext sD, fun f c' pm ctv H1 eN hT1 nf hf hc => ⟨.ref p, rfl, .ref q, rfl, rfl, fun Q0 hQ0 cdv s1 pins I hr1 => ?_⟩⟩
    obtain ⟨ct, u, ec, ru, hcell, nct⟩ := clo_cell (i := 2) (y := "told") (v := .ref D) I rfl rfl rfl
    refine refused_body (f := f) (v1 := .ref p) (v2 := .ref q) (v3 := .int 0) (s := s1) (H := H1) (cdv := cdv) (E := E0) T (fun W pn xe p1 p2 p3 p4 p5 tk => pe_callClo (k := 7) (tb := tApp T) (x1 := "a") (x2 := "b") (x3 := "c") (y := "told") ⟨H1, hf⟩ I tk ⟨rfl, rfl, rfl, by decide +kernel, rfl, rfl, rfl, rfl, by decide +kernel, by decide +kernel⟩ hcell nct ru hr1 (fun us hl => match us, hl with | [_, _, _], _ => rfl) (fun A outer s H E hr => ⟨_, (pe_bm PySem.F.plainAttrs_list PySem.F.slot_list_append PySem.F.type_list_append mt_append (pv 3) (pa_cons (pe_call (ok__law_do T) (hr.mono (by decide)) (by rfl) T.g__law_do T.F__law_do.kp T.b__law_do .nil (L2N.passes_call (L2N.takes_of rfl rfl rfl rfl) (fun _ _ _ _ h => h)) (pa_cons (pv 0) (pa_cons (pv 1) pa_nil))) pa_nil)), fun σ H' Q h => by
      obtain ⟨p, q, D, xs, h0, h1, h3, hx, h⟩ := h
      exact ⟨.ref D, h3, .inl ⟨rfl, _, sq_of hx⟩, .ref p, h0, .ref q, h1, spDo_mono h fun v H2 ⟨xs, e1, e2, e3⟩ => ⟨D, _, _, rfl, rfl, e1, e2, e3⟩⟩⟩) rfl rfl rfl rfl (.inl rfl) (.inl rfl) (.inl rfl) (.inl rfl)) ?_
    have hf2 : H1 f = some (FnO f (lamObj _ _ _ _ [(("told" : Str), (List.lookup ("told" : Str) _).getD 0)] pm c' ctv)) := hf
    rw [ec] at hf2
    have hB1 := (hB.same sD).ext eN
    have hq1 := (hq.keep (Sd.of sD)).keep (Sd.ext eN)
    have hD1 : H1 D = some (.lst []) := lst_ext eN hD0
    have kb1 : KbN p H H1 := fun a o _ h nt => eN _ _ (sD _ _ h) nt
    intro Dk nDk W Q' hQ' hE
    have sk := same_new (o := .lst []) nDk
    have hk2 : (upd H1 Dk (.lst [])) Dk = some (.lst []) := upd_same
    have nkD : Dk ≠ D := (ne_of_none hD1 nDk).symm
    generalize upd H1 Dk (.lst []) = H2 at sk hk2 ⊢
    have hB2 := hB1.same sk
    have hD2 := sk _ _ hD1
    refine ⟨.ref p, .ref q, .int 0, rfl, rfl, rfl, rfl, sk _ _ hf2, sk _ _ hc, p, q, D, [], rfl, rfl, rfl, hD2, ?_⟩
    refine ⟨p, q, word, d, d', r, n, k, o, rfl, hB2, ok, hl, hq1.keep (Sd.of sk), hd, ?_⟩
    cases o with
    | no j =>
      obtain ⟨b0, b1, b2, b3, b4, b5, b6, b7, hk, ek⟩ := kin_j T j
      refine hE _ _ _ _ _ _ _ _ _ H2 hk fun H3 pk s3 n3 h3 => hQ0 _ _ ?_
      rw [ek] at h3
      have hD3 := s3 _ _ hD2
      refine ⟨.ref D, rfl, Nat.zero_le _, fun B nB => ?_⟩
      have sB := same_new (o := .lst []) nB
      refine ⟨.list [], .list [], .lst (sq_of (sB _ _ hD3)) .nil, .lst (sq_of upd_same) .nil, rfl, rfl, false, rfl, iteF ?_⟩
      refine ⟨.ref pk, rfl, by show 2 ≤ sizeLine; decide, fun t nt => ?_⟩
      have sall := (sk.trans s3).trans (sB.trans (same_new (o := .tup [.non, .ref pk]) nt))
      exact ha _ t pk (fun a o hn h nt => sall _ _ (kb1 _ _ hn h nt)) (hT1.ext sall) (hB1.same sall) upd_same (same_new nt _ _ (sB _ _ h3))
    | ok r' n' k' ret =>
      intro H3 v kb3 hB3 hR
      obtain ⟨dx, tk, hp2, _⟩ := id hB2
      have nDp : D ≠ p := ne_of hD2 hp2 (by intro z; cases z)
      have nkp : Dk ≠ p := ne_of hk2 hp2 (by intro z; cases z)
      have hD3 := kb3 _ _ nDp hD2
      have hk3 := kb3 _ _ nkp hk2
      refine ⟨[], hD3, by show 0 < sizeLine; decide, hQ' _ _ (hQ0 _ _ ?_)⟩
      have hV : RetV (upd H3 D (.lst ([] ++ [v]))) v ret := by
        cases ret with
        | none => exact hR
        | some xs =>
          obtain ⟨q, e, nq, hq⟩ := hR
          have nqD : q ≠ D := (ne_of_none hD2 nq).symm
          exact ⟨q, e, by rw [upd_ne nqD]; exact hq⟩
      have hB4 : BeltAt T.C_Belt (upd H3 D (.lst ([] ++ [v]))) p r' n' k' := by
        obtain ⟨dy, ty, hp3, hR3⟩ := hB3
        refine ⟨dy, ty, by rw [upd_ne nDp.symm]; exact hp3, hR3.keep fun a xs e => ?_⟩
        rw [upd_ne (ne_of e hD3 (by intro z; cases z))]
        exact e
      have hk4 : (upd H3 D (.lst ([] ++ [v]))) Dk = some (.lst []) := by rw [upd_ne nkD]; exact hk3
      have hD4 : (upd H3 D (.lst ([] ++ [v]))) D = some (.lst [v]) := upd_same
      have kb4 : KbN p H (upd H3 D (.lst ([] ++ [v]))) := fun a o hn h nt => by
        rw [upd_ne (ne_of_none h nD)]
        exact kb3 _ _ hn (sk _ _ (kb1 _ _ hn h nt))
      have hT4 : LamX.Tabs (TLs T) (upd H3 D (.lst ([] ++ [v]))) := tabs_keep (hT1.ext sk) fun a o h n1 n2 => by
        have nD' : a ≠ D := ne_of h hD2 (n1 _)
        have np' : a ≠ p := ne_of h hp2 (n2 _ _ _)
        rw [upd_ne nD']
        exact kb3 _ _ np' h
      generalize upd H3 D (.lst ([] ++ [v])) = H4 at hV hB4 hk4 hD4 kb4 hT4 ⊢
      refine ⟨.ref D, rfl, Nat.zero_le _, fun B nB => ?_⟩
      have sB := same_new (o := .lst []) nB
      have hD5 := sB _ _ hD4
      have hV5 : RetV (upd H4 B (.lst [])) v ret := by
        cases ret with
        | none => exact hV
        | some xs =>
          obtain ⟨q, e, hq⟩ := hV
          exact ⟨q, e, sB _ _ hq⟩
      refine ⟨.list [retD ret], .list [], .lst (sq_of hD5) (.cons (dp_ret hV5) .nil), .lst (sq_of upd_same) .nil, shp_ret1 ret, rfl, true, rfl, iteT ?_⟩
      refine ⟨.ref D, rfl, D, _, 0, v, rfl, rfl, sq_of hD5, at_of (j := 0) rfl rfl, ?_⟩
      refine ⟨.ref Dk, rfl, by show 2 ≤ sizeLine; decide, fun t nt => ?_⟩
      have st := sB.trans (same_new (o := .tup [v, .ref Dk]) nt)
      refine ha _ t v Dk (fun a o hn h nt => st _ _ (kb4 _ _ hn h nt)) (hT4.ext st) (hB4.same st) upd_same ?_ (st _ _ hk4)
      cases ret with
      | none => exact hV
      | some xs =>
        obtain ⟨q, e, hq⟩ := hV
        exact ⟨q, e, st _ _ hq⟩

/-! gone piece by piece -/
def spGone : Sp := fun vs H Q _ => ∃ (p : Addr) (r : List (Int × Int)) (m : Int), vs = [.ref p, .int m] ∧ RowAt H p r ∧ (∀ ec ∈ r, okT ec) ∧ r.length ≤ 8 ∧ 0 ≤ m ∧ m ≤ 900 ∧
  ∀ H' q F C, Same H H' → H F = none → H C = none → H' q = some (.tup [.ref F, .ref C]) → H' F = some (.lst ((seenF r m.toNat).map ofO)) → H' C = some (.lst ((cntF r m).map V.int)) → Q (.ref q) H'
theorem ok__law_gone (T : Top K mg) : FnOk P w K mg base CX0 1 T.a__law_gone T.fd__law_gone ["house", "many"] spGone := by
  refine T.F__law_gone.ok sc__law_gone (fun vs H Q E h => ?_) (fun cdv A outer s H vs Q E hr h => ?_)
  · obtain ⟨p, r, m, rfl, _⟩ := h
    rfl
  · obtain ⟨p, r, m, rfl, hR, ok, hlen, m0, m1, q⟩ := h
    obtain ⟨ts, h1, h2, h3⟩ := id hR
    refine ⟨_, (pss_cons (ps_par (by rfl) sc__law_gone.nd (i := 3) (j := 4) rfl rfl (by decide) rfl rfl (pa_cons (pe_lc (te := tOp (rIxT K) (tVar 7) (tC (.int 1))) (own := [("one", 7)]) (by rfl) sc__law_gone.nd (pi_tup (pv 0))
        (blkOk_by (own := [("one", 7)]) (N := ["house", "many", "piece", "counted", "found", "took", "place", "one", "every", "begun"]) (sc := defScope s__law_gone) (by decide +kernel))
        (fun _ _ _ _ _ => (pg_name (i := 7) sc__law_gone.nd rfl (.inl rfl))) (fun _ _ _ _ _ => pts_nil) (fun _ _ _ _ _ => (pe_ix ix_tup (pv 7) pe_int (fun _ _ => rfl)))) (pa_cons (pe_lst pa_nil) pa_nil)) (by rfl))
      (pss_cons (ps_for PassesOwn.never rfl (pi_range1 (by rfl) T.z_range (pa_cons (pv 1) pa_nil)) (pg_name (i := 2) sc__law_gone.nd rfl (.inl rfl))
        (pss_cons (ps_set (i := 5) sc__law_gone.nd rfl (.inl rfl) pe_non)
      (pss_cons (ps_for PassesOwn.never rfl (pi_enumT (by rfl) T.z_enumerate (pa_cons (pv 0) pa_nil)) (pg_tup (by rfl) (pgs_cons (pg_name (i := 6) sc__law_gone.nd rfl (.inl rfl)) (pgs_cons (pg_tup (by rfl) (pgs_cons (pg_name (i := 8) sc__law_gone.nd rfl (.inl rfl)) (pgs_cons (pg_name (i := 9) sc__law_gone.nd rfl (.inl rfl)) pgs_nil))) pgs_nil)))
        (pss_one (ps_if (pt_cmpR op_isN (pv 5) pe_non (nomark _)) (pss_cons (ps_asg (pe_op op_mod (pe_op op_add (pe_ix ix_list (pv 3) (pv 6) (fun _ _ => rfl)) pe_int) (pv 8)) (pg_sub (pv 3) (pv 6) set_list))
      (pss_one (ps_if (pt_cmpR op_eq (pe_ix ix_list (pv 3) (pv 6) (fun _ _ => rfl)) pe_int (nomark _)) (pss_one (ps_set (i := 5) sc__law_gone.nd rfl (.inl rfl) (pv 6))) pss_nil))) pss_nil)))
      (pss_one (ps_expr (pe_bm PySem.F.plainAttrs_list PySem.F.slot_list_append PySem.F.type_list_append mt_append (pv 4) (pa_cons (pv 5) pa_nil)))))))
      (pss_one (ps_ret (pe_tup (pa_cons (pv 4) (pa_cons (pv 3) pa_nil))))))), ?_⟩
    refine ⟨.ref p, rfl, p, rfl, ⟨_, st_of h1⟩, fun C hC => ?_⟩
    refine lc_tup (K := K) (a := p) (xs := ts.map V.ref) (fun i H' => Same H H' ∧ H' C = some (.lst (((r.map (·.2)).take i).map V.int))) ⟨same_new hC, upd_same⟩ (fun i H' _ hp => st_of (hp.1 _ _ h1)) (fun i x H' hx hp => ?_) (fun H1 hp => ?_)
    · obtain ⟨sm, hd⟩ := hp
      rw [List.getElem?_map] at hx
      cases ht : ts[i]? with
      | none => rw [ht] at hx; cases hx
      | some t =>
        rw [ht] at hx
        cases hx
        have hi : i < r.length := h2 ▸ (List.getElem?_eq_some_iff.mp ht).1
        have hrt := h3 i t r[i] ht (List.getElem?_eq_getElem hi)
        refine ⟨rfl, yesT ?_⟩
        refine ⟨.ref t, rfl, t, _, 1, .int r[i].2, rfl, rfl, st_of (sm _ _ hrt), rfl, _, hd, ?_, same_upd_new hC sm, ?_⟩
        · rw [List.length_map, List.length_take]
          exact Nat.lt_of_le_of_lt (Nat.min_le_left _ _) (small1000 (by omega))
        · rw [upd_same, List.take_add_one, List.getElem?_map, List.getElem?_eq_getElem hi, List.map_append]
          rfl
    · obtain ⟨s1, hC1⟩ := hp
      have hC1 : H1 C = some (.lst ((cntF r 0).map V.int)) := by
        rw [cnt_zero r ok]
        rw [List.take_of_length_le (by rw [List.length_map, List.length_map]; omega)] at hC1
        exact hC1
      refine ⟨Nat.zero_le _, fun F nF => ⟨_, _, rfl, ?_⟩⟩
      have nFH : H F = none := s1.free nF
      have nCF : C ≠ F := ne_of_none hC1 nF
      refine ⟨.int m, rfl, m, rfl, by omega, by omega, ?_⟩
      refine for_range (lo := 0) (n := m.toNat) (fun k σ H' => Same H H' ∧ H' C = some (.lst ((cntF r (k : Int)).map V.int)) ∧ H' F = some (.lst ((seenF r k).map ofO)) ∧ ∃ y2 y5 y6 y7 y8 y9, σ = [some (.ref p), some (.int m), y2, some (.ref C), some (.ref F), y5, y6, y7, y8, y9])
        ⟨same_upd_new nFH s1, by rw [upd_ne nCF]; exact hC1, upd_same, none, none, none, none, none, none, rfl⟩ (fun k σ H2 hk hp => ?_) (fun σ H2 hp => ?_)
      · obtain ⟨s2, hC2, hF2, y2, y5, y6, y7, y8, y9, rfl⟩ := hp
        refine ⟨.ref p, rfl, p, _, rfl, st_of (s2 _ _ h1), ?_⟩
        refine for_it (walk_enumT (K := K) (a := p) (xs := ts.map V.ref)) (fun i σ H' => Same H H' ∧ H' C = some (.lst (((cntF r ((k : Int) + 1)).take i ++ (cntF r (k : Int)).drop i).map V.int)) ∧ H' F = some (.lst ((seenF r k).map ofO)) ∧
            ∃ (o : Option Nat) (y6 y7 y8 y9 : Option V), σ = [some (.ref p), some (.int m), some (.int (0 + (k : Int))), some (.ref C), some (.ref F), some (ofO o), y6, y7, y8, y9] ∧ TkSt r ((k : Int) + 1) i o)
          ⟨s2, by rw [List.take_zero, List.drop_zero]; exact hC2, hF2, none, _, _, _, _, rfl, .inl ⟨rfl, fun j _ => Nat.zero_le j⟩⟩ (fun i σ H' _ hp => st_of (hp.1 _ _ h1)) (fun i v σ H3 H4 hi hp hy => ?_) (fun σ H3 hp => ?_)
        · obtain ⟨s3, hC3, hF3, o, z6, z7, z8, z9, rfl, hT⟩ := hp
          obtain ⟨Tt, x, y, rfl, nT, rfl, ex, ey⟩ := hy
          cases ex
          rw [List.length_map] at hi
          have hir : i < r.length := h2 ▸ hi
          have ht : ts[i]? = some ts[i] := List.getElem?_eq_getElem hi
          have ey2 : y = .ref ts[i] := by
            have ey3 : (ts.map V.ref)[i]? = some y := ey
            rw [List.getElem?_map, ht] at ey3
            exact (Option.some.inj ey3).symm
          subst ey2
          have he := List.getElem?_eq_getElem hir
          obtain ⟨⟨e, c⟩, hec⟩ : ∃ ec, r[i] = ec := ⟨_, rfl⟩
          rw [hec] at he
          have hok : okT (e, c) := hec ▸ ok _ (List.getElem_mem hir)
          have o1 : 2 ≤ e := hok.1
          have hrt := h3 i _ _ ht he
          have sT : Same H3 (upd H3 Tt (.tup [.int (i : Nat), .ref ts[i]])) := same_new nT
          have s4 := s3.trans sT
          have hC4 := sT _ _ hC3
          have hF4 := sT _ _ hF3
          have hT4 : (upd H3 Tt (.tup [.int (i : Nat), .ref ts[i]])) Tt = some (.tup [.int (i : Nat), .ref ts[i]]) := upd_same
          generalize upd H3 Tt (.tup [.int (i : Nat), .ref ts[i]]) = H4 at s4 hC4 hF4 sT hT4 ⊢
          refine ⟨Tt, _, rfl, st_of hT4, rfl, _, _, rfl, _, _, rfl, ts[i], _, rfl, st_of (s4 _ _ hrt), rfl, _, _, rfl, _, _, rfl, rfl, rfl, ?_⟩
          refine ⟨ofO o, rfl, rfl, _, rfl, ite2 (fun z => ?_) (fun z => ?_)⟩
          · have ho : o = none := by
              cases o with
              | none => rfl
              | some j => exact absurd (of_decide_eq_true z) (by intro w; cases w)
            subst ho
            have hre : reach r ((k : Int) + 1) i := by
              rcases hT with ⟨_, h⟩ | ⟨j, h, _⟩
              · exact h
              · cases h
            have cs := come_step r (k : Int) i ok (by omega) hre
            have wa := who_at r ((k : Int) + 1) i e c he hre
            have g1 := cnt_get r (k : Int) i e c he
            have g2 := cnt_get r ((k : Int) + 1) i e c he
            have ll : (cntF r ((k : Int) + 1)).length = (cntF r (k : Int)).length := by rw [len_cntF, len_cntF]
            have lA : i ≤ (cntF r ((k : Int) + 1)).length := by rw [len_cntF]; omega
            have lM : i < ((cntF r ((k : Int) + 1)).take i ++ (cntF r (k : Int)).drop i).length := by
              rw [List.length_append, List.length_take, List.length_drop, len_cntF, len_cntF]
              omega
            have ev : ((c + comeF r i (k : Int)) % e + 1) % e = (c + comeF r i ((k : Int) + 1)) % e := by
              rw [mod_step, cs]
              congr 1
              omega
            refine ⟨.ref C, rfl, .int (i : Nat), rfl, C, _, (i : Int), .int ((c + comeF r i (k : Int)) % e), rfl, rfl, sq_of hC4, at_of rfl (by rw [List.getElem?_map, mix_get lA, g1]; rfl), _, 1, rfl, rfl, .int e, rfl, _, e, rfl, rfl, (by omega : (0 : Int) < e),
              .ref C, rfl, .int (i : Nat), rfl, C, _, (i : Int), i, rfl, rfl, hC4, ixN_nat rfl (by rw [List.length_map]; exact lM), ?_⟩
            have hC5 : (upd H4 C (.lst ((((cntF r ((k : Int) + 1)).take i ++ (cntF r (k : Int)).drop i).map V.int).set i (.int (((c + comeF r i (k : Int)) % e + 1) % e))))) C = some (.lst (((cntF r ((k : Int) + 1)).take (i + 1) ++ (cntF r (k : Int)).drop (i + 1)).map V.int)) := by
              rw [upd_same, ev, map_set, mix_set g2 ll]
            have s5 : Same H (upd H4 C (.lst ((((cntF r ((k : Int) + 1)).take i ++ (cntF r (k : Int)).drop i).map V.int).set i (.int (((c + comeF r i (k : Int)) % e + 1) % e))))) := same_upd_new hC s4
            have hF5 : (upd H4 C (.lst ((((cntF r ((k : Int) + 1)).take i ++ (cntF r (k : Int)).drop i).map V.int).set i (.int (((c + comeF r i (k : Int)) % e + 1) % e))))) F = some (.lst ((seenF r k).map ofO)) := by
              rw [upd_ne (Ne.symm nCF)]
              exact hF4
            have at5 : ((cntF r ((k : Int) + 1)).take (i + 1) ++ (cntF r (k : Int)).drop (i + 1))[i]? = some ((c + comeF r i ((k : Int) + 1)) % e) := by
              rw [List.getElem?_append_left (by rw [List.length_take, len_cntF]; omega), List.getElem?_take_of_lt (by omega), g2]
            refine ⟨.ref C, rfl, .int (i : Nat), rfl, C, _, (i : Int), .int ((c + comeF r i ((k : Int) + 1)) % e), rfl, rfl, sq_of hC5, at_of rfl (by rw [List.getElem?_map, at5]; rfl), rfl, _, rfl, ite2 (fun z2 => ?_) (fun z2 => ?_)⟩
            · have z3 : (c + comeF r i ((k : Int) + 1)) % e = 0 := V.int.inj (of_decide_eq_true z2)
              exact ⟨_, rfl, s5, hC5, hF5, some i, _, _, _, _, rfl, .inr ⟨i, rfl, Nat.lt_succ_self i, wa.mpr z3⟩⟩
            · have z3 : ¬ (c + comeF r i ((k : Int) + 1)) % e = 0 := fun w => z2 (decide_eq_true (congrArg V.int w))
              exact ⟨s5, hC5, hF5, none, _, _, _, _, rfl, .inl ⟨rfl, reach_succ hre (fun w => z3 (wa.mp w))⟩⟩
          · obtain ⟨j, rfl, hj, hw⟩ : ∃ j, o = some j ∧ j < i ∧ whoF r ((k : Int) + 1) = some j := by
              rcases hT with ⟨rfl, _⟩ | h
              · exact absurd (decide_eq_true rfl) z
              · exact h
            refine ⟨s4, ?_, hF4, some j, _, _, _, _, rfl, .inr ⟨j, rfl, by omega, hw⟩⟩
            rw [← mix_same (cnt_same r (k : Int) i j ok hw hj) (by rw [len_cntF]; omega) (by rw [len_cntF, len_cntF])]
            exact hC4
        · obtain ⟨s3, hC3, hF3, o, z6, z7, z8, z9, rfl, hT⟩ := hp
          rw [List.length_map, h2] at hC3 hT
          have ho := hT.done
          subst ho
          rw [List.take_of_length_le (by rw [len_cntF]; exact Nat.le_refl _), List.drop_eq_nil_of_le (by rw [len_cntF]; exact Nat.le_refl _), List.append_nil] at hC3
          refine ⟨.ref F, rfl, .inl ⟨rfl, _, sq_of hF3⟩, _, rfl, F, _, _, rfl, rfl, hF3, ?_, same_upd_new nFH s3, ?_, ?_, _, _, _, _, _, _, rfl⟩
          · rw [List.length_map, len_seenF]
            exact small1000 (by omega)
          · rw [upd_ne nCF]
            exact hC3
          · rw [upd_same, seen_succ, List.map_append]
            rfl
      · obtain ⟨s2, hC2, hF2, y2, y5, y6, y7, y8, y9, rfl⟩ := hp
        refine ⟨.ref F, rfl, .ref C, rfl, by show 2 ≤ sizeLine; decide, fun z nz => ?_⟩
        have sz := same_new (o := .tup [.ref F, .ref C]) nz
        refine q _ z F C (s2.trans sz) nFH hC upd_same (sz _ _ hF2) ?_
        rw [show ((m.toNat : Nat) : Int) = m by omega] at hC2
        exact sz _ _ hC2

def spNumbers (K : PySem.W.Frag) : Sp := fun vs H Q _ => ∃ (p S : Addr) (r : List (Int × Int)) (os : List (Option Nat)), vs = [.ref p, .ref S] ∧ RowAt H p r ∧ r.length ≤ 8 ∧ H S = some (.lst (os.map ofO)) ∧
  ∀ H' q, Same H H' → H q = none → H' q = some (.lst ((numF r os).map V.int)) → Q (.ref q) H'
theorem cnt_ofO (os : List (Option Nat)) (o : Option Nat) : ((os.map ofO).countP fun z => eqV z (ofO o)) = os.countP fun x => decide (x = o) := by
  rw [List.countP_map]
  congr 1
  funext x
  exact eqV_ofO x o
theorem flat_os (os : List (Option Nat)) : (os.map ofO).all flatV = true := by
  rw [List.all_map, List.all_eq_true]
  exact fun x _ => flat_ofO x
theorem ok__law_numbers (T : Top K mg) : FnOk P w K mg base CX0 1 T.a__law_numbers T.fd__law_numbers ["house", "seen"] (spNumbers K) := by
  refine T.F__law_numbers.ok sc__law_numbers (fun vs H Q E h => ?_) (fun cdv A outer s H vs Q E hr h => ?_)
  · obtain ⟨p, S, r, os, rfl, _⟩ := h
    rfl
  · obtain ⟨p, S, r, os, rfl, hR, hlen, hS, q⟩ := h
    obtain ⟨ts, h1, h2, h3⟩ := id hR
    refine ⟨_, (pss_one (ps_ret (pe_op op_cat (pe_lc (te := tBM K "list" (rCntF K) (tVar 1) (tCons (tVar 2) tNil)) (own := [("place", 2)]) (by rfl) sc__law_numbers.nd (pi_range1 (by rfl) T.z_range (pa_cons (pe_callB call_len_seq (by rfl) T.z_len (by decide +kernel) (pa_cons (pv 0) pa_nil)) pa_nil))
        (blkOk_by (own := [("place", 2)]) (N := ["house", "seen", "place"]) (sc := defScope s__law_numbers) (by decide +kernel))
        (fun _ _ _ _ _ => (pg_name (i := 2) sc__law_numbers.nd rfl (.inl rfl))) (fun _ _ _ _ _ => pts_nil) (fun _ _ _ _ _ => (pe_bm PySem.F.plainAttrs_list PySem.F.slot_list_count PySem.F.type_list_count mt_countF (pv 1) (pa_cons (pv 2) pa_nil)))) (pe_lst (pa_cons (pe_bm PySem.F.plainAttrs_list PySem.F.slot_list_count PySem.F.type_list_count mt_countF (pv 1) (pa_cons pe_non pa_nil)) pa_nil))))), ?_⟩
    refine ⟨.ref p, rfl, p, _, rfl, .inr (st_of h1), _, rfl, by omega, by rw [List.length_map]; omega, fun D hD => ?_⟩
    refine lc_range (lo := 0) (n := ((ts.map V.ref).length : Int).toNat) (fun i H' => Same H H' ∧ H' D = some (.lst (((List.range i).map (fun (j : Nat) => ((os.countP fun x => decide (x = some j) : Nat) : Int))).map V.int)))
      ⟨same_new hD, upd_same⟩ (fun i H' hi hp => ?_) (fun H1 hp => ?_)
    · obtain ⟨sm, hd⟩ := hp
      rw [List.length_map, h2] at hi
      refine ⟨rfl, yesT ?_⟩
      refine ⟨.ref S, rfl, .inl ⟨rfl, _, sq_of (sm _ _ hS)⟩, .int (0 + (i : Int)), rfl, S, _, _, rfl, rfl, sq_of (sm _ _ hS), rfl, flat_os os, _, hd, ?_, same_upd_new hD sm, ?_⟩
      · rw [List.length_map, List.length_map, List.length_range]
        exact small1000 (by omega)
      · have e0 : V.int (0 + (i : Int)) = ofO (some i) := by rw [Int.zero_add]; rfl
        rw [e0, cnt_ofO, upd_same, List.range_succ, List.map_append, List.map_append]
        rfl
    · obtain ⟨sm, hd⟩ := hp
      have ln : ((ts.map V.ref).length : Int).toNat = r.length := by rw [List.length_map, h2]; omega
      rw [ln] at hd
      refine ⟨.ref S, rfl, .inl ⟨rfl, _, sq_of (sm _ _ hS)⟩, S, _, _, rfl, rfl, sq_of (sm _ _ hS), rfl, flat_os os, by show 1 ≤ sizeLine; decide, fun B nB => ?_⟩
      have sB := same_new (o := .lst [V.int ((((os.map ofO).countP fun z => eqV z .non : Nat)) : Int)]) nB
      refine ⟨D, B, _, _, rfl, rfl, sB _ _ hd, upd_same, ?_, fun Z nZ => ?_⟩
      · rw [List.length_map, List.length_map, List.length_range]
        exact Nat.le_of_lt (small1000 (by simp; omega))
      · refine q _ Z ((sm.trans sB).trans (same_new nZ)) ((sm.trans sB).free nZ) ?_
        have e0 := cnt_ofO os none
        rw [show ofO none = V.non from rfl] at e0
        rw [upd_same, e0]
        unfold numF
        rw [List.map_append (f := V.int)]
        rfl

/-! what a deed does, by the law -/
def StAt (H : Hp) (S : Addr) (r : List (Int × Int)) (n k : Int) : Prop := ∃ t, H S = some (.tup [.ref t, .int n, .int k]) ∧ RowAt H t r
theorem StAt.keep {H H' : Hp} {S : Addr} {r : List (Int × Int)} {n k : Int} (h : StAt H S r n k) (s : Sd H H') : StAt H' S r n k := by
  obtain ⟨t, h1, h2⟩ := h
  exact ⟨t, s.1 _ _ h1, h2.keep s.1⟩
def Due (Q : VK) (H : Hp) : Outc → Prop
  | .no j => ∀ H' kn, Same H H' → H' kn = some (.lst [.str (kname j), .bl true]) → Q (.ref kn) H'
  | .ok r' n' k' ret => ∀ H' u S' v, Same H H' → H' u = some (.tup [.ref S', v]) → StAt H' S' r' n' k' → RetV H' v ret → Q (.ref u) H'
def spAfter : Sp := fun vs H Q _ => ∃ (S q : Addr) (word : Str) (d d' : PyData) (r : List (Int × Int)) (n k : Int) (o : Outc), vs = [.ref S, .ref q] ∧ StAt H S r n k ∧ (∀ ec ∈ r, okT ec) ∧ r.length ≤ 8 ∧
  DeedAt H q word d d' ∧ Does r n k word d d' o ∧ Due Q H o
theorem s_lh : eqV (.str "leave") (.str "change") = false := by decide +kernel
theorem cut1 (v v' : V) : cutV [v, v'] none (some 1) = [v] := by
  exact (cut_to (m := 1) (k := 1) rfl (by simp)).trans rfl
theorem cut2 (v v' : V) : cutV [v, v'] none (some 2) = [v, v'] := by
  exact (cut_to (m := 2) (k := 2) rfl (by simp)).trans rfl
theorem whole_at {j m : Nat} (h : j < m) : wholeD (.int (j : Nat)) 0 ((m : Int) - 1) = true := by
  show (decide ((0 : Int) ≤ (j : Int)) && decide ((j : Int) ≤ (m : Int) - 1)) = true
  rw [decide_eq_true (by omega), decide_eq_true (by omega)]
  rfl
theorem ok__law_after (T : Top K mg) : FnOk P w K mg base CX0 2 T.a__law_after T.fd__law_after ["state", "deed"] spAfter := by
  refine T.F__law_after.ok sc__law_after (fun vs H Q E h => ?_) (fun cdv A outer s H vs Q E hr h => ?_)
  · obtain ⟨S, q, word, d, d', r, n, k, o, rfl, _⟩ := h
    rfl
  · obtain ⟨S, q, word, d, d', r, n, k, o, rfl, ⟨t, hS, hR⟩, ok, hl, ⟨v, v', hq, hv, hv'⟩, hd, ha⟩ := h
    obtain ⟨ts, h1, hpa⟩ := hR.pairs
    have h2 := hpa.1
    refine ⟨_, (pss_cons (ps_asg (pv 0) (pg_tup (by rfl) (pgs_cons (pg_name (i := 4) sc__law_after.nd rfl (.inl rfl)) (pgs_cons (pg_name (i := 5) sc__law_after.nd rfl (.inl rfl)) (pgs_cons (pg_name (i := 6) sc__law_after.nd rfl (.inl rfl)) pgs_nil)))))
      (C8.pss_cut (ps_asg (pv 1) (pg_tup (by rfl) (pgs_cons (pg_name (i := 7) sc__law_after.nd rfl (.inl rfl)) (pgs_cons (pg_name (i := 8) sc__law_after.nd rfl (.inl rfl)) (pgs_cons (pg_name (i := 9) sc__law_after.nd rfl (.inl rfl)) pgs_nil)))))
      (pss_cons (ps_if (pt_cmpR op_eq (pv 7) pe_str (nomark _)) (pss_cons (ps_if (pt_not (pt_val (pe_call (ok__law_from T) (hr.mono (by decide)) (by rfl) T.g__law_from T.F__law_from.kp T.b__law_from .nil pass0 (pa_cons (pv 8) (pa_cons pe_int (pa_cons (pe_op op_pow pe_int pe_int) pa_nil)))))) (pss_one (ps_ret (pe_lst (pa_cons pe_str (pa_cons pe_bl pa_nil))))) pss_nil)
      (pss_cons (ps_asg (pe_call (ok__law_gone T) (hr.mono (by decide)) (by rfl) T.g__law_gone T.F__law_gone.kp T.b__law_gone .nil pass0 (pa_cons (pv 4) (pa_cons (pv 8) pa_nil))) (pg_tup (by rfl) (pgs_cons (pg_name (i := 11) sc__law_after.nd rfl (.inl rfl)) (pgs_cons (pg_name (i := 12) sc__law_after.nd rfl (.inl rfl)) pgs_nil))))
      (C8.pss_cut (ps_set (i := 10) sc__law_after.nd rfl (.inl rfl) (pe_call (ok__law_numbers T) (hr.mono (by decide)) (by rfl) T.g__law_numbers T.F__law_numbers.kp T.b__law_numbers .nil pass0 (pa_cons (pv 4) (pa_cons (pv 11) pa_nil))))
      (pss_cons (ps_set (i := 4) sc__law_after.nd rfl (.inl rfl) (pe_callTy call_tuple_of (by rfl) T.z_tuple (by decide +kernel) (pa_cons (pe_lc (g := (gTup K 2 (gCons (gName 13) (gCons (gName 14) gNil)))) (te := tTup (tCons (tOp (rIxT K) (tVar 13) (tC (.int 0))) (tCons (tVar 14) tNil))) (own := [("taker", 13), ("number", 14)]) (by rfl) sc__law_after.nd (pi_zipM (by rfl) T.z_zip (pa_cons (pv 4) (pa_cons (pv 12) pa_nil)))
        (blkOk_by (own := [("taker", 13), ("number", 14)]) (N := ["state", "deed", "place", "rows", "house", "gone", "over", "word", "one", "other", "some", "seen", "counted", "taker", "number"]) (sc := defScope s__law_after) (by decide +kernel))
        (fun _ _ _ _ _ => (pg_tup (by rfl) (pgs_cons (pg_name (i := 13) sc__law_after.nd rfl (.inl rfl)) (pgs_cons (pg_name (i := 14) sc__law_after.nd rfl (.inl rfl)) pgs_nil)))) (fun _ _ _ _ _ => pts_nil) (fun _ _ _ _ _ => (pe_tup (pa_cons (pe_ix ix_tup (pv 13) pe_int (fun _ _ => rfl)) (pa_cons (pv 14) pa_nil))))) pa_nil)))
      (pss_one (ps_ret (pe_tup (pa_cons (pe_tup (pa_cons (pv 4) (pa_cons (pe_op op_add (pv 5) (pv 8)) (pa_cons (pe_op op_add (pv 6) (pe_ix ix_list (pv 10) (pe_un un_neg pe_int) (fun _ _ => rfl))) pa_nil)))) (pa_cons (pv 10) pa_nil))))))))) pss_nil)
      (pss_cons (ps_if (pt_cmpR op_eq (pv 7) pe_str (nomark _)) (pss_cons (ps_if (PW.pt (pw_or (pt_not (pt_val (pe_callB call_isi (by rfl) T.z_isinstance (by decide +kernel) (pa_cons (pv 8) (pa_cons (pe_bltn (v := .ty "tuple") (by rfl) T.z_tuple (by decide +kernel) rfl) pa_nil))))) (pw_or (pt_cmpR op_ne (pe_callB call_len_seq (by rfl) T.z_len (by decide +kernel) (pa_cons (pv 8) pa_nil)) pe_int (nomark _)) (pw_or1 (pt_not (pt_val (pe_call (ok__law_from T) (hr.mono (by decide)) (by rfl) T.g__law_from T.F__law_from.kp T.b__law_from .nil pass0 (pa_cons (pe_ix ix_tup (pv 8) pe_int (fun _ _ => rfl)) (pa_cons pe_int (pa_cons pe_int pa_nil)))))))))) (pss_one (ps_ret (pe_lst (pa_cons pe_str (pa_cons pe_bl pa_nil))))) pss_nil)
      (pss_cons (ps_if (pt_not (pt_val (pe_call (ok__law_from T) (hr.mono (by decide)) (by rfl) T.g__law_from T.F__law_from.kp T.b__law_from .nil pass0 (pa_cons (pe_ix ix_tup (pv 8) pe_int (fun _ _ => rfl)) (pa_cons pe_int (pa_cons (pe_op op_sub (pe_ix ix_tup (pv 8) pe_int (fun _ _ => rfl)) pe_int) pa_nil)))))) (pss_one (ps_ret (pe_lst (pa_cons pe_str (pa_cons pe_bl pa_nil))))) pss_nil)
      (pss_one (ps_ret (pe_ifExp (pt_cmpR op_eq (pe_callB call_len_seq (by rfl) T.z_len (by decide +kernel) (pa_cons (pv 4) pa_nil)) pe_int (nomark _)) (pe_lst (pa_cons pe_str (pa_cons pe_bl pa_nil))) (pe_tup (pa_cons (pe_tup (pa_cons (pe_op op_catA (pv 4) (pe_tup (pa_cons (pv 8) pa_nil))) (pa_cons (pv 5) (pa_cons (pv 6) pa_nil)))) (pa_cons pe_non pa_nil)))))))) pss_nil)
      (pss_cons (ps_for PassesOwn.never rfl (pi_list (pe_slice sl_list (pe_lst (pa_cons (pv 8) (pa_cons (pv 9) pa_nil))) po_none (po_some (pe_op op_add pe_int (pe_callTy call_int1 (by rfl) T.z_int (by decide +kernel) (pa_cons (pe_cmpR op_eq (pv 7) pe_str (nomark _)) pa_nil)))))) (pg_name (i := 2) sc__law_after.nd rfl (.inl rfl))
        (pss_one (ps_if (pt_not (pt_val (pe_call (ok__law_from T) (hr.mono (by decide)) (by rfl) T.g__law_from T.F__law_from.kp T.b__law_from .nil pass0 (pa_cons (pv 2) (pa_cons pe_int (pa_cons (pe_op op_sub (pe_callB call_len_seq (by rfl) T.z_len (by decide +kernel) (pa_cons (pv 4) pa_nil)) pe_int) pa_nil)))))) (pss_one (ps_ret (pe_lst (pa_cons pe_str (pa_cons pe_bl pa_nil))))) pss_nil)))
      (pss_cons (ps_if (pt_cmpR op_eq (pv 7) pe_str (nomark _)) (pss_one (ps_ret (pe_tup (pa_cons (pe_tup (pa_cons (pe_op op_catA (pe_slice sl_tupA (pv 4) po_none (po_some (pv 8))) (pe_slice sl_tupA (pv 4) (po_some (pe_op op_add (pv 8) pe_int)) po_none)) (pa_cons (pv 5) (pa_cons (pv 6) pa_nil)))) (pa_cons pe_non pa_nil))))) pss_nil)
      (pss_cons (ps_set (i := 3) sc__law_after.nd rfl (.inl rfl) (pe_callTy call_list_of (by rfl) T.z_list (by decide +kernel) (pa_cons (pv 4) pa_nil)))
      (pss_cons (ps_asg (pe_tup (pa_cons (pe_ix ix_tup (pv 4) (pv 9) (fun _ _ => rfl)) (pa_cons (pe_ix ix_tup (pv 4) (pv 8) (fun _ _ => rfl)) pa_nil))) (pg_tup (by rfl) (pgs_cons (pg_sub (pv 3) (pv 8) set_list) (pgs_cons (pg_sub (pv 3) (pv 9) set_list) pgs_nil))))
      (pss_one (ps_ret (pe_tup (pa_cons (pe_tup (pa_cons (pe_callTy call_tuple_of (by rfl) T.z_tuple (by decide +kernel) (pa_cons (pv 3) pa_nil)) (pa_cons (pv 5) (pa_cons (pv 6) pa_nil)))) (pa_cons pe_non pa_nil))))))))))))), ?_⟩
    refine ⟨.ref S, rfl, S, _, rfl, st_of hS, rfl, _, _, rfl, _, _, rfl, _, _, rfl, rfl, ?_⟩
    refine ⟨fun σ' H' => H = H' ∧ σ' = [some (.ref S), some (.ref q), none, none, some (.ref t), some (.int n), some (.int k), some (.str word), some v, some v', none, none, none, none, none], ⟨.ref q, rfl, q, _, rfl, st_of hq, rfl, _, _, rfl, _, _, rfl, _, _, rfl, rfl, rfl, rfl⟩, fun σ' H' hM => ?_⟩
    obtain ⟨eH, eσ⟩ := hM
    subst eH eσ
    cases hd with
    | goN h =>
      refine ⟨.str "go", rfl, rfl, true, rfl, iteT ?_⟩
      refine ⟨v, rfl, 10, 12, rfl, rfl, ⟨by decide, by decide⟩, v, _, 1, 1000000000000, rfl, hv.dp, false, congrArg V.bl h, iteT ?_⟩
      exact ⟨by show 2 ≤ sizeLine; decide, fun kn nk => ha _ kn (same_new nk) upd_same⟩
    | go m m1 m2 =>
      cases th_int hv
      have hw : wholeD (.int m) 1 1000000000000 = true := by
        show (decide (1 ≤ m) && decide (m ≤ 1000000000000)) = true
        rw [decide_eq_true m1, decide_eq_true (show m ≤ 1000000000000 by omega)]
        rfl
      refine ⟨.str "go", rfl, rfl, true, rfl, iteT ?_⟩
      refine ⟨.int m, rfl, 10, 12, rfl, rfl, ⟨by decide, by decide⟩, _, _, 1, 1000000000000, rfl, .int m, true, congrArg V.bl hw, iteF ?_⟩
      refine ⟨.ref t, rfl, .int m, rfl, t, r, m, rfl, hR, ok, hl, by omega, m2, fun H1 g F C s1 nF nC hg hF hC => ?_⟩
      refine ⟨g, _, rfl, st_of hg, rfl, _, _, rfl, _, _, rfl, rfl, ?_⟩
      refine ⟨fun σ' H' => Same H1 H' ∧ ∃ N, H' N = some (.lst ((numF r (seenF r m.toNat)).map V.int)) ∧ σ' = [some (.ref S), some (.ref q), none, none, some (.ref t), some (.int n), some (.int k), some (.str "go"), some (.int m), some v', some (.ref N), some (.ref F), some (.ref C), none, none],
        ⟨.ref t, rfl, .ref F, rfl, t, F, r, _, rfl, hR.keep (tupS_of s1), hl, hF, fun H2 N s2 nN hN => ⟨s2, N, hN, rfl⟩⟩, fun σ2 H2 hM => ?_⟩
      obtain ⟨s2, N, hN, eσ⟩ := hM
      subst eσ
      have s12 := s1.trans s2
      have hC2 := s2 _ _ hC
      have ht2 := s12 _ _ h1
      refine ⟨.ref t, rfl, .ref C, rfl, t, C, _, _, rfl, st_of ht2, sq_of hC2, fun U nU => ?_⟩
      refine lc_it (walk_zipM (K := K) (a := t) (b := C) (xs := ts.map V.ref) (ys := (cntF r m).map V.int) (n := r.length) (by rw [List.length_map, List.length_map, len_cntF, h2]; omega)) (fun i H' => Same H2 H' ∧ ∃ us : List Addr, H' U = some (.lst (us.map V.ref)) ∧ PairsAt H' us ((stB r m).take i))
        ⟨same_new nU, [], upd_same, rfl, fun i t ec h => nomatch h⟩ (fun i H' _ hp => ⟨st_of (hp.1 _ _ ht2), sq_of (hp.1 _ _ hC2)⟩) (fun i v H' H'' hi hp hy => ?_) (fun H3 hp => ?_)
      · obtain ⟨sm, us, u1, u2⟩ := hp
        obtain ⟨Tt, x, y, rfl, nT, rfl, ex, ey⟩ := hy
        have ht : ts[i]? = some ts[i] := List.getElem?_eq_getElem (by omega)
        have he := List.getElem?_eq_getElem hi
        obtain ⟨⟨e, c⟩, hec⟩ : ∃ ec, r[i] = ec := ⟨_, rfl⟩
        rw [hec] at he
        have ex2 : x = .ref ts[i] := by
          have e0 : (ts.map V.ref)[i]? = some x := ex
          rw [List.getElem?_map, ht] at e0
          exact (Option.some.inj e0).symm
        have ey2 : y = .int ((c + comeF r i m) % e) := by
          have e0 : ((cntF r m).map V.int)[i]? = some y := ey
          rw [List.getElem?_map, cnt_get r m i e c he] at e0
          exact (Option.some.inj e0).symm
        subst ex2
        subst ey2
        have sT := same_new (o := .tup [.ref ts[i], .int ((c + comeF r i m) % e)]) nT
        have hrt := (s12.trans (sm.trans sT)) _ _ (hpa.2 i _ _ ht he)
        have u1' := sT _ _ u1
        refine ⟨Tt, _, rfl, st_of upd_same, rfl, _, _, rfl, _, _, rfl, rfl, ?_⟩
        refine ⟨rfl, yesT ?_⟩
        refine ⟨.ref ts[i], rfl, ts[i], _, 0, .int e, rfl, rfl, st_of hrt, rfl, _, rfl, by show 2 ≤ sizeLine; decide, fun u nu => ?_⟩
        have su := sT.trans (same_new (o := .tup [.int e, .int ((c + comeF r i m) % e)]) nu)
        have u1'' := su _ _ u1
        have ul := u2.1
        rw [List.length_take] at ul
        refine ⟨_, u1'', ?_, same_upd_new nU (sm.trans su), us ++ [u], by rw [upd_same, List.map_append]; rfl, ?_⟩
        · rw [List.length_map]
          exact small1000 (by omega)
        · rw [List.take_add_one, stB_get he]
          refine ((u2.keep (tupS_of su)).app (us := [u]) (q := [(e, (c + comeF r i m) % e)]) ⟨rfl, fun i' u' g a1 a2 => ?_⟩).keep (fun a xs e' => by rw [upd_ne (ne_of e' u1'' (by intro z; cases z))]; exact e')
          cases i' with
          | zero => cases a1; cases a2; exact upd_same
          | succ i' => simp at a1
      · obtain ⟨sm, us, u1, u2⟩ := hp
        rw [List.take_of_length_le (by rw [stB_len]; exact Nat.le_refl _)] at u2
        refine ⟨U, _, rfl, .inl ⟨sq_of u1, fun l nl => ?_⟩⟩
        have sl := sm.trans (same_new (o := .tup (us.map V.ref)) nl)
        have hRl : RowAt (upd H3 l (.tup (us.map V.ref))) l (stB r m) := ((u2.keep (tupS_of (same_new nl))).row upd_same)
        have hN2 := sl _ _ hN
        generalize upd H3 l (.tup (us.map V.ref)) = H4 at sl hRl hN2 ⊢
        have eN : numF r (seenF r m.toNat) = takenF r m := by
          rw [num_taken r ok m.toNat, show ((m.toNat : Nat) : Int) = m by omega]
        rw [eN] at hN2
        have el : atI ((takenF r m).map V.int) (-1) = some (.int (comeF r r.length m)) := by
          have e2 : (takenF r m).take (r.length + 1) = takenF r m := List.take_of_length_le (by rw [len_takenF]; exact Nat.le_refl _)
          rw [List.take_add_one, taken_last] at e2
          rw [← e2, List.map_append]
          exact atI_last _ _
        refine ⟨.ref l, rfl, .int n, rfl, .int m, rfl, n, m, rfl, rfl, .int k, rfl, .ref N, rfl, 1, rfl, N, _, -1, .int (comeF r r.length m), rfl, rfl, sq_of hN2, el, k, _, rfl, rfl, by show 3 ≤ sizeLine; decide, fun S' nS' => ?_⟩
        refine ⟨.ref N, rfl, by show 2 ≤ sizeLine; decide, fun u nu => ?_⟩
        have sS := same_new (o := .tup [.ref l, .int (n + m), .int (k + comeF r r.length m)]) nS'
        have su := same_new (o := .tup [.ref S', .ref N]) nu
        exact ha _ u S' _ ((s12.trans sl).trans (sS.trans su)) upd_same ⟨l, su _ _ upd_same, hRl.keep (tupS_of (sS.trans su))⟩ ⟨N, rfl, su _ _ (sS _ _ hN2)⟩
    | comeN h =>
      refine ⟨.str "come", rfl, rfl, false, congrArg V.bl s_cg, iteF ?_⟩
      refine ⟨.str "come", rfl, rfl, true, rfl, iteT ?_⟩
      have fin : ∀ {G : Hp}, Same H G → ∀ kn, G kn = none → Q (.ref kn) (upd G kn (.lst [.str "NoTaker", .bl true])) := fun sG kn nk => ha _ kn (sG.trans (same_new nk)) upd_same
      refine ⟨v, rfl, v, .ty "tuple", _, _, _, rfl, .ty _, tyD hv.dp, kit_tup d (nodict (K := K) hv.dp) _, _, rfl, ?_⟩
      cases ht : isT d with
      | false => exact iteT (iteT ⟨by show 2 ≤ sizeLine; decide, fin (Same.refl H)⟩)
      | true =>
        refine iteF ?_
        cases hv with
        | int n => cases ht
        | non => cases ht
        | bl b => cases ht
        | lst x y h => cases ht
        | one x h' =>
          rename_i a
          exact ⟨_, rfl, a, _, rfl, .inr (st_of h'), rfl, true, rfl, iteT (iteT ⟨by show 2 ≤ sizeLine; decide, fin (Same.refl H)⟩)⟩
        | two x b h' =>
          rename_i a
          refine ⟨_, rfl, a, _, rfl, .inr (st_of h'), rfl, false, rfl, iteF ?_⟩
          refine ⟨.ref a, rfl, a, _, 0, .int x, rfl, rfl, st_of h', rfl, _, _, 2, 1000, rfl, .int x, _, rfl, ite2 (fun z => ⟨by show 2 ≤ sizeLine; decide, fin (Same.refl H)⟩) (fun z => ?_)⟩
          refine ⟨.ref a, rfl, a, _, 1, .bl b, rfl, rfl, st_of h', rfl, .ref a, rfl, a, _, 0, .int x, rfl, rfl, st_of h', rfl, x, 1, rfl, rfl, _, _, 0, x - 1, rfl, .bl b, false, rfl, iteT ⟨by show 2 ≤ sizeLine; decide, fin (Same.refl H)⟩⟩
        | tk x h' =>
          rename_i a
          refine ⟨_, rfl, a, _, rfl, .inr (st_of h'), rfl, false, rfl, iteF ?_⟩
          refine ⟨.ref a, rfl, a, _, 0, .int x.1, rfl, rfl, st_of h', rfl, _, _, 2, 1000, rfl, .int x.1, _, rfl, ite2 (fun z => ⟨by show 2 ≤ sizeLine; decide, fin (Same.refl H)⟩) (fun z => ?_)⟩
          have hw : wholeD (.int x.1) 2 1000 = true := by simpa using z
          have h : (wholeD (.int x.1) 2 1000 && wholeD (.int x.2) 0 (x.1 - 1)) = false := h
          rw [hw, Bool.true_and] at h
          exact ⟨.ref a, rfl, a, _, 1, .int x.2, rfl, rfl, st_of h', rfl, .ref a, rfl, a, _, 0, .int x.1, rfl, rfl, st_of h', rfl, x.1, 1, rfl, rfl, _, _, 0, x.1 - 1, rfl, .int x.2, false, congrArg V.bl h, iteT ⟨by show 2 ≤ sizeLine; decide, fin (Same.refl H)⟩⟩
    | comeF x okx h8 =>
      obtain ⟨a, rfl, h'⟩ := th_tk hv
      have hw := taker_ok okx
      have hw : (wholeD (.int x.1) 2 1000 && wholeD (.int x.2) 0 (x.1 - 1)) = true := hw
      rw [Bool.and_eq_true] at hw
      refine ⟨.str "come", rfl, rfl, false, congrArg V.bl s_cg, iteF ?_⟩
      refine ⟨.str "come", rfl, rfl, true, rfl, iteT ?_⟩
      refine ⟨_, rfl, .ref a, .ty "tuple", _, _, _, rfl, .ty _, tyD hv.dp, kit_tup (tkD x) (nodict (K := K) hv.dp) _, true, rfl, iteF ?_⟩
      refine ⟨_, rfl, a, _, rfl, .inr (st_of h'), rfl, false, rfl, iteF ?_⟩
      refine ⟨.ref a, rfl, a, _, 0, .int x.1, rfl, rfl, st_of h', rfl, _, _, 2, 1000, rfl, .int x.1, true, congrArg V.bl hw.1, iteF ?_⟩
      refine ⟨.ref a, rfl, a, _, 1, .int x.2, rfl, rfl, st_of h', rfl, .ref a, rfl, a, _, 0, .int x.1, rfl, rfl, st_of h', rfl, x.1, 1, rfl, rfl, _, _, 0, x.1 - 1, rfl, .int x.2, true, congrArg V.bl hw.2, iteF ?_⟩
      refine ⟨.ref t, rfl, t, _, rfl, .inr (st_of h1), rfl, true, ?_, iteT ⟨by show 2 ≤ sizeLine; decide, fun kn nk => ha _ kn (same_new nk) upd_same⟩⟩
      rw [List.length_map, h2, h8]
      rfl
    | come x okx h8 =>
      obtain ⟨a, rfl, h'⟩ := th_tk hv
      have hw := taker_ok okx
      have hw : (wholeD (.int x.1) 2 1000 && wholeD (.int x.2) 0 (x.1 - 1)) = true := hw
      rw [Bool.and_eq_true] at hw
      refine ⟨.str "come", rfl, rfl, false, congrArg V.bl s_cg, iteF ?_⟩
      refine ⟨.str "come", rfl, rfl, true, rfl, iteT ?_⟩
      refine ⟨_, rfl, .ref a, .ty "tuple", _, _, _, rfl, .ty _, tyD hv.dp, kit_tup (tkD x) (nodict (K := K) hv.dp) _, true, rfl, iteF ?_⟩
      refine ⟨_, rfl, a, _, rfl, .inr (st_of h'), rfl, false, rfl, iteF ?_⟩
      refine ⟨.ref a, rfl, a, _, 0, .int x.1, rfl, rfl, st_of h', rfl, _, _, 2, 1000, rfl, .int x.1, true, congrArg V.bl hw.1, iteF ?_⟩
      refine ⟨.ref a, rfl, a, _, 1, .int x.2, rfl, rfl, st_of h', rfl, .ref a, rfl, a, _, 0, .int x.1, rfl, rfl, st_of h', rfl, x.1, 1, rfl, rfl, _, _, 0, x.1 - 1, rfl, .int x.2, true, congrArg V.bl hw.2, iteF ?_⟩
      refine ⟨.ref t, rfl, t, _, rfl, .inr (st_of h1), rfl, false, ?_, iteF ?_⟩
      · rw [List.length_map, h2, decide_eq_false (fun z => by have := V.int.inj z; omega)]
      refine ⟨.ref t, rfl, .ref a, rfl, by show 1 ≤ sizeLine; decide, fun u nu => ?_⟩
      have su := same_new (o := .tup [.ref a]) nu
      refine cat_use (su _ _ h1) upd_same (by rw [List.length_map, h2]; exact Nat.le_of_lt (small1000 (by simp; omega))) fun w H2 s2 hw' => ?_
      have s2' := su.trans s2
      refine ⟨.int n, rfl, .int k, rfl, by show 3 ≤ sizeLine; decide, fun S' nS' => ⟨by show 2 ≤ sizeLine; decide, fun y ny => ?_⟩⟩
      have sS := same_new (o := .tup [.ref w, .int n, .int k]) nS'
      have sy := same_new (o := .tup [.ref S', .non]) ny
      refine ha _ y S' _ (s2'.trans (sS.trans sy)) upd_same ⟨w, sy _ _ upd_same, ?_⟩ rfl
      refine RowAt.keep (((hpa.keep (tupS_of s2')).app (us := [a]) (q := [x]) ⟨rfl, fun i u' g a1 a2 => ?_⟩).row (by rw [hw', List.map_append]; rfl)) (tupS_of (sS.trans sy))
      cases i with
      | zero => cases a1; cases a2; exact s2' _ _ h'
      | succ i => simp at a1
    | leaveN h =>
      refine ⟨.str "leave", rfl, rfl, false, congrArg V.bl s_lg, iteF ?_⟩
      refine ⟨.str "leave", rfl, rfl, false, congrArg V.bl s_lc, iteF ?_⟩
      refine ⟨v, rfl, v', rfl, by show 2 ≤ sizeLine; decide, fun L nL => ?_⟩
      have sL := same_new (o := .lst [v, v']) nL
      refine ⟨.str "leave", rfl, rfl, .inr ⟨false, congrArg (fun b => [V.bl b]) s_lh, 1, 0, rfl, rfl, 1, rfl, L, _, rfl, sq_of upd_same, fun L2 nL2 => ⟨L2, rfl, ⟨_, sq_of upd_same⟩, ?_⟩⟩⟩
      have sL2 := sL.trans (same_new (o := .lst (cutV [v, v'] none (some 1))) nL2)
      have hL2 : (upd (upd H L (.lst [v, v'])) L2 (.lst (cutV [v, v'] none (some 1)))) L2 = some (.lst [v]) := by rw [upd_same, cut1]
      generalize upd (upd H L (.lst [v, v'])) L2 (.lst (cutV [v, v'] none (some 1))) = H2 at sL2 hL2 ⊢
      refine for_list (K := K) (a := L2) (xs := [v]) (fun i σ H' => i = 0 ∧ H' = H2 ∧ ∃ y, σ = [some (.ref S), some (.ref q), y, none, some (.ref t), some (.int n), some (.int k), some (.str "leave"), some (v), some (v'), none, none, none, none, none])
        ⟨rfl, rfl, none, rfl⟩ (fun i σ H' _ hp => by rw [hp.2.1]; exact sq_of hL2) (fun i x σ H' hx hp => ?_) (fun σ H' hp => ?_)
      · obtain ⟨e0, eH, y, eσ⟩ := hp
        subst e0 eH eσ
        cases hx
        refine ⟨v, rfl, .ref t, rfl, t, _, rfl, .inr (st_of (sL2 _ _ h1)), _, 1, rfl, rfl, v, _, 0, (r.length : Int) - 1, by rw [List.length_map, h2]; rfl, (hv.keep (Sd.of sL2)).dp, false, congrArg V.bl h, iteT ?_⟩
        exact ⟨by show 2 ≤ sizeLine; decide, fun kn nk => ha _ kn (sL2.trans (same_new nk)) upd_same⟩
      · exact absurd hp.1 (by simp)
    | leave j hj =>
      cases th_int hv
      refine ⟨.str "leave", rfl, rfl, false, congrArg V.bl s_lg, iteF ?_⟩
      refine ⟨.str "leave", rfl, rfl, false, congrArg V.bl s_lc, iteF ?_⟩
      refine ⟨.int (j : Nat), rfl, v', rfl, by show 2 ≤ sizeLine; decide, fun L nL => ?_⟩
      have sL := same_new (o := .lst [.int (j : Nat), v']) nL
      refine ⟨.str "leave", rfl, rfl, .inr ⟨false, congrArg (fun b => [V.bl b]) s_lh, 1, 0, rfl, rfl, 1, rfl, L, _, rfl, sq_of upd_same, fun L2 nL2 => ⟨L2, rfl, ⟨_, sq_of upd_same⟩, ?_⟩⟩⟩
      have sL2 := sL.trans (same_new (o := .lst (cutV [.int (j : Nat), v'] none (some 1))) nL2)
      have hL2 : (upd (upd H L (.lst [.int (j : Nat), v'])) L2 (.lst (cutV [.int (j : Nat), v'] none (some 1)))) L2 = some (.lst [.int (j : Nat)]) := by rw [upd_same, cut1]
      generalize upd (upd H L (.lst [.int (j : Nat), v'])) L2 (.lst (cutV [.int (j : Nat), v'] none (some 1))) = H2 at sL2 hL2 ⊢
      refine for_list (K := K) (a := L2) (xs := [.int (j : Nat)]) (fun i σ H' => True ∧ H' = H2 ∧ ∃ y, σ = [some (.ref S), some (.ref q), y, none, some (.ref t), some (.int n), some (.int k), some (.str "leave"), some (.int (j : Nat)), some (v'), none, none, none, none, none])
        ⟨trivial, rfl, none, rfl⟩ (fun i σ H' _ hp => by rw [hp.2.1]; exact sq_of hL2) (fun i x σ H' hx hp => ?_) (fun σ H' hp => ?_)
      · obtain ⟨_, eH, y, eσ⟩ := hp
        subst eH eσ
        match i, hx with
        | 0, hx =>
          cases hx
          refine ⟨.int (j : Nat), rfl, .ref t, rfl, t, _, rfl, .inr (st_of (sL2 _ _ h1)), _, 1, rfl, rfl, _, _, 0, (r.length : Int) - 1, by rw [List.length_map, h2]; rfl, (hv.keep (Sd.of sL2)).dp, true, congrArg V.bl (whole_at hj), iteF ?_⟩
          exact ⟨trivial, rfl, _, rfl⟩
        | i + 1, hx => simp at hx
      · obtain ⟨_, eH, y, eσ⟩ := hp
        subst eH eσ
        refine ⟨.str "leave", rfl, rfl, true, rfl, iteT ?_⟩
        have h1' := sL2 _ _ h1
        refine ⟨.ref t, rfl, .int (j : Nat), rfl, (j : Int), rfl, slice_use h1' fun q1 H3 s1 hq1 => ?_⟩
        rw [cut_to rfl (by rw [List.length_map]; omega)] at hq1
        refine ⟨.ref t, rfl, .int (j : Nat), rfl, (j : Int), 1, rfl, rfl, (j : Int) + 1, rfl, ?_⟩
        dsimp only [tNoPart]
        refine slice_use (K := K) (lo := some ((j : Int) + 1)) (hi := none) (s1 _ _ h1') fun q2 H4 s2 hq2 => ?_
        rw [cut_from (k := j + 1) (by omega) (by rw [List.length_map]; omega)] at hq2
        refine cat_use (s2 _ _ hq1) hq2 (by rw [List.length_take, List.length_drop, List.length_map]; exact Nat.le_of_lt (small1000 (by omega))) fun w H5 s3 hw => ?_
        have s5 := sL2.trans ((s1.trans s2).trans s3)
        have pr := hpa.keep (tupS_of s5)
        refine ⟨.int n, rfl, .int k, rfl, by show 3 ≤ sizeLine; decide, fun S' nS' => ⟨by show 2 ≤ sizeLine; decide, fun y ny => ?_⟩⟩
        have sS := same_new (o := .tup [.ref w, .int n, .int k]) nS'
        have sy := same_new (o := .tup [.ref S', .non]) ny
        exact ha _ y S' _ (s5.trans (sS.trans sy)) upd_same ⟨w, sy _ _ upd_same, (((pr.take j).app (pr.drop (j + 1))).row (by rw [hw, List.map_append, List.map_take, List.map_drop])).keep (tupS_of (sS.trans sy))⟩ rfl
    | chg1 h =>
      refine ⟨.str "change", rfl, rfl, false, congrArg V.bl s_hg, iteF ?_⟩
      refine ⟨.str "change", rfl, rfl, false, congrArg V.bl s_hc, iteF ?_⟩
      refine ⟨v, rfl, v', rfl, by show 2 ≤ sizeLine; decide, fun L nL => ?_⟩
      have sL := same_new (o := .lst [v, v']) nL
      refine ⟨.str "change", rfl, rfl, .inr ⟨true, rfl, 1, 1, rfl, rfl, 2, rfl, L, _, rfl, sq_of upd_same, fun L2 nL2 => ⟨L2, rfl, ⟨_, sq_of upd_same⟩, ?_⟩⟩⟩
      have sL2 := sL.trans (same_new (o := .lst (cutV [v, v'] none (some 2))) nL2)
      have hL2 : (upd (upd H L (.lst [v, v'])) L2 (.lst (cutV [v, v'] none (some 2)))) L2 = some (.lst [v, v']) := by rw [upd_same, cut2]
      generalize upd (upd H L (.lst [v, v'])) L2 (.lst (cutV [v, v'] none (some 2))) = H2 at sL2 hL2 ⊢
      refine for_list (K := K) (a := L2) (xs := [v, v']) (fun i σ H' => i = 0 ∧ H' = H2 ∧ ∃ y, σ = [some (.ref S), some (.ref q), y, none, some (.ref t), some (.int n), some (.int k), some (.str "change"), some (v), some (v'), none, none, none, none, none])
        ⟨rfl, rfl, none, rfl⟩ (fun i σ H' _ hp => by rw [hp.2.1]; exact sq_of hL2) (fun i x σ H' hx hp => ?_) (fun σ H' hp => ?_)
      · obtain ⟨e0, eH, y, eσ⟩ := hp
        subst e0 eH eσ
        cases hx
        refine ⟨v, rfl, .ref t, rfl, t, _, rfl, .inr (st_of (sL2 _ _ h1)), _, 1, rfl, rfl, v, _, 0, (r.length : Int) - 1, by rw [List.length_map, h2]; rfl, (hv.keep (Sd.of sL2)).dp, false, congrArg V.bl h, iteT ?_⟩
        exact ⟨by show 2 ≤ sizeLine; decide, fun kn nk => ha _ kn (sL2.trans (same_new nk)) upd_same⟩
      · exact absurd hp.1 (by simp)
    | chg2 j hj h =>
      cases th_int hv
      refine ⟨.str "change", rfl, rfl, false, congrArg V.bl s_hg, iteF ?_⟩
      refine ⟨.str "change", rfl, rfl, false, congrArg V.bl s_hc, iteF ?_⟩
      refine ⟨.int (j : Nat), rfl, v', rfl, by show 2 ≤ sizeLine; decide, fun L nL => ?_⟩
      have sL := same_new (o := .lst [.int (j : Nat), v']) nL
      refine ⟨.str "change", rfl, rfl, .inr ⟨true, rfl, 1, 1, rfl, rfl, 2, rfl, L, _, rfl, sq_of upd_same, fun L2 nL2 => ⟨L2, rfl, ⟨_, sq_of upd_same⟩, ?_⟩⟩⟩
      have sL2 := sL.trans (same_new (o := .lst (cutV [.int (j : Nat), v'] none (some 2))) nL2)
      have hL2 : (upd (upd H L (.lst [.int (j : Nat), v'])) L2 (.lst (cutV [.int (j : Nat), v'] none (some 2)))) L2 = some (.lst [.int (j : Nat), v']) := by rw [upd_same, cut2]
      generalize upd (upd H L (.lst [.int (j : Nat), v'])) L2 (.lst (cutV [.int (j : Nat), v'] none (some 2))) = H2 at sL2 hL2 ⊢
      refine for_list (K := K) (a := L2) (xs := [.int (j : Nat), v']) (fun i σ H' => i ≤ 1 ∧ H' = H2 ∧ ∃ y, σ = [some (.ref S), some (.ref q), y, none, some (.ref t), some (.int n), some (.int k), some (.str "change"), some (.int (j : Nat)), some (v'), none, none, none, none, none])
        ⟨Nat.zero_le _, rfl, none, rfl⟩ (fun i σ H' _ hp => by rw [hp.2.1]; exact sq_of hL2) (fun i x σ H' hx hp => ?_) (fun σ H' hp => ?_)
      · obtain ⟨_, eH, y, eσ⟩ := hp
        subst eH eσ
        match i, hx with
        | 0, hx =>
          cases hx
          refine ⟨.int (j : Nat), rfl, .ref t, rfl, t, _, rfl, .inr (st_of (sL2 _ _ h1)), _, 1, rfl, rfl, _, _, 0, (r.length : Int) - 1, by rw [List.length_map, h2]; rfl, (hv.keep (Sd.of sL2)).dp, true, congrArg V.bl (whole_at hj), iteF ?_⟩
          exact ⟨Nat.le_refl _, rfl, _, rfl⟩
        | 1, hx =>
          cases hx
          refine ⟨v', rfl, .ref t, rfl, t, _, rfl, .inr (st_of (sL2 _ _ h1)), _, 1, rfl, rfl, v', _, 0, (r.length : Int) - 1, by rw [List.length_map, h2]; rfl, (hv'.keep (Sd.of sL2)).dp, false, congrArg V.bl h, iteT ?_⟩
          exact ⟨by show 2 ≤ sizeLine; decide, fun kn nk => ha _ kn (sL2.trans (same_new nk)) upd_same⟩
        | i + 2, hx => simp at hx
      · exact absurd hp.1 (by simp)
    | chg i j hi hj =>
      cases th_int hv
      cases th_int hv'
      refine ⟨.str "change", rfl, rfl, false, congrArg V.bl s_hg, iteF ?_⟩
      refine ⟨.str "change", rfl, rfl, false, congrArg V.bl s_hc, iteF ?_⟩
      refine ⟨.int (i : Nat), rfl, .int (j : Nat), rfl, by show 2 ≤ sizeLine; decide, fun L nL => ?_⟩
      have sL := same_new (o := .lst [.int (i : Nat), .int (j : Nat)]) nL
      refine ⟨.str "change", rfl, rfl, .inr ⟨true, rfl, 1, 1, rfl, rfl, 2, rfl, L, _, rfl, sq_of upd_same, fun L2 nL2 => ⟨L2, rfl, ⟨_, sq_of upd_same⟩, ?_⟩⟩⟩
      have sL2 := sL.trans (same_new (o := .lst (cutV [.int (i : Nat), .int (j : Nat)] none (some 2))) nL2)
      have hL2 : (upd (upd H L (.lst [.int (i : Nat), .int (j : Nat)])) L2 (.lst (cutV [.int (i : Nat), .int (j : Nat)] none (some 2)))) L2 = some (.lst [.int (i : Nat), .int (j : Nat)]) := by rw [upd_same, cut2]
      generalize upd (upd H L (.lst [.int (i : Nat), .int (j : Nat)])) L2 (.lst (cutV [.int (i : Nat), .int (j : Nat)] none (some 2))) = H2 at sL2 hL2 ⊢
      refine for_list (K := K) (a := L2) (xs := [.int (i : Nat), .int (j : Nat)]) (fun i' σ H' => True ∧ H' = H2 ∧ ∃ y, σ = [some (.ref S), some (.ref q), y, none, some (.ref t), some (.int n), some (.int k), some (.str "change"), some (.int (i : Nat)), some (.int (j : Nat)), none, none, none, none, none])
        ⟨trivial, rfl, none, rfl⟩ (fun i' σ H' _ hp => by rw [hp.2.1]; exact sq_of hL2) (fun i' x σ H' hx hp => ?_) (fun σ H' hp => ?_)
      · obtain ⟨_, eH, y, eσ⟩ := hp
        subst eH eσ
        match i', hx with
        | 0, hx =>
          cases hx
          refine ⟨.int (i : Nat), rfl, .ref t, rfl, t, _, rfl, .inr (st_of (sL2 _ _ h1)), _, 1, rfl, rfl, _, _, 0, (r.length : Int) - 1, by rw [List.length_map, h2]; rfl, (hv.keep (Sd.of sL2)).dp, true, congrArg V.bl (whole_at hi), iteF ?_⟩
          exact ⟨trivial, rfl, _, rfl⟩
        | 1, hx =>
          cases hx
          refine ⟨.int (j : Nat), rfl, .ref t, rfl, t, _, rfl, .inr (st_of (sL2 _ _ h1)), _, 1, rfl, rfl, _, _, 0, (r.length : Int) - 1, by rw [List.length_map, h2]; rfl, (hv'.keep (Sd.of sL2)).dp, true, congrArg V.bl (whole_at hj), iteF ?_⟩
          exact ⟨trivial, rfl, _, rfl⟩
        | i' + 2, hx => simp at hx
      · obtain ⟨_, eH, y, eσ⟩ := hp
        subst eH eσ
        refine ⟨.str "change", rfl, rfl, false, congrArg V.bl s_hl, iteF ?_⟩
        have h1' := sL2 _ _ h1
        refine ⟨.ref t, rfl, t, _, rfl, .inr (st_of h1'), fun X nX => ?_⟩
        have sX := same_new (o := .lst (ts.map V.ref)) nX
        have hX : (upd H' X (.lst (ts.map V.ref))) X = some (.lst (ts.map V.ref)) := upd_same
        generalize upd H' X (.lst (ts.map V.ref)) = H3 at sX hX ⊢
        have h13 := sX _ _ h1'
        have ti : ts[i]? = some ts[i] := List.getElem?_eq_getElem (by omega)
        have tj : ts[j]? = some ts[j] := List.getElem?_eq_getElem (by omega)
        have ri := List.getElem?_eq_getElem hi
        have rj := List.getElem?_eq_getElem hj
        refine ⟨.ref t, rfl, .int (j : Nat), rfl, t, _, (j : Int), .ref ts[j], rfl, rfl, st_of h13, at_of rfl (by rw [List.getElem?_map, tj]; rfl), .ref t, rfl, .int (i : Nat), rfl, t, _, (i : Int), .ref ts[i], rfl, rfl, st_of h13, at_of rfl (by rw [List.getElem?_map, ti]; rfl), by show 2 ≤ sizeLine; decide, fun U nU => ?_⟩
        have sU := same_new (o := .tup [.ref ts[j], .ref ts[i]]) nU
        have hX2 := sU _ _ hX
        refine ⟨U, _, rfl, st_of upd_same, rfl, _, _, rfl, ?_⟩
        refine ⟨.ref X, rfl, .int (i : Nat), rfl, X, _, (i : Int), i, rfl, rfl, hX2, ixN_nat rfl (by rw [List.length_map]; omega), ?_⟩
        refine ⟨_, _, rfl, .ref X, rfl, .int (j : Nat), rfl, X, _, (j : Int), j, rfl, rfl, upd_same, ixN_nat rfl (by rw [List.length_set, List.length_map]; omega), ?_⟩
        refine ⟨rfl, ?_⟩
        have sF : Kb X H3 (upd (upd (upd H3 U (.tup [.ref ts[j], .ref ts[i]])) X (.lst ((ts.map V.ref).set i (.ref ts[j])))) X (.lst (((ts.map V.ref).set i (.ref ts[j])).set j (.ref ts[i])))) := fun a o hn h => by
          rw [upd_ne hn, upd_ne hn]
          exact sU _ _ h
        have hX3 : (upd (upd (upd H3 U (.tup [.ref ts[j], .ref ts[i]])) X (.lst ((ts.map V.ref).set i (.ref ts[j])))) X (.lst (((ts.map V.ref).set i (.ref ts[j])).set j (.ref ts[i])))) X = some (.lst (((ts.set i ts[j]).set j ts[i]).map V.ref)) := by
          rw [upd_same, List.map_set, List.map_set]
        generalize upd (upd (upd H3 U (.tup [.ref ts[j], .ref ts[i]])) X (.lst ((ts.map V.ref).set i (.ref ts[j])))) X (.lst (((ts.map V.ref).set i (.ref ts[j])).set j (.ref ts[i]))) = H4 at sF hX3 ⊢
        have old : Same H' H4 := fun a o h => sF _ _ (ne_of_none h nX) (sX _ _ h)
        refine ⟨.ref X, rfl, X, _, rfl, .inl ⟨sq_of hX3, fun l nl => ?_⟩⟩
        have sl := same_new (o := .tup (((ts.set i ts[j]).set j ts[i]).map V.ref)) nl
        have s5 := sL2.trans (old.trans sl)
        have pr := hpa.keep (tupS_of s5)
        refine ⟨.int n, rfl, .int k, rfl, by show 3 ≤ sizeLine; decide, fun S' nS' => ⟨by show 2 ≤ sizeLine; decide, fun y ny => ?_⟩⟩
        have sS := same_new (o := .tup [.ref l, .int n, .int k]) nS'
        have sy := same_new (o := .tup [.ref S', .non]) ny
        have es : swapL r i j = (r.set i r[j]).set j r[i] := by
          unfold swapL
          rw [ri, rj]
        rw [es] at ha
        exact ha _ y S' _ (s5.trans (sS.trans sy)) upd_same ⟨l, sy _ _ upd_same, RowAt.keep ((pairs_set (pairs_set pr (pr.2 j _ _ tj rj)) (pr.2 i _ _ ti ri)).row upd_same) (tupS_of (sS.trans sy))⟩ rfl

/-! the law's draws -/
def spCell (K : PySem.W.Frag) : Sp := fun vs H Q _ => ∃ (a : Addr) (ns : List Int) (k : Int), vs = [.ref a, .int k] ∧ SqL K H a (ns.map V.int) ∧ 0 ≤ k ∧ ∀ v : Int, Q (.int v) H
theorem ok__law_cell_at (T : Top K mg) : FnOk P w K mg base CX0 1 T.a__law_cell_at T.fd__law_cell_at ["script", "k"] (spCell K) := by
  refine T.F__law_cell_at.ok sc__law_cell_at (fun vs H Q E h => ?_) (fun cdv A outer s H vs Q E hr h => ?_)
  · obtain ⟨a, ns, k, rfl, _⟩ := h
    rfl
  · obtain ⟨a, ns, k, rfl, hS, k0, q⟩ := h
    refine ⟨_, (pss_cons (ps_if (pt_cmpR op_lt (pv 1) (pe_callB call_len_seq (by rfl) T.z_len (by decide +kernel) (pa_cons (pv 0) pa_nil)) (nomark _)) (pss_one (ps_ret (pe_ix ix_list (pv 0) (pv 1) (fun _ _ => rfl)))) pss_nil)
      (pss_one (ps_ret pe_int))), ?_⟩
    refine ⟨.int k, rfl, .ref a, rfl, a, _, rfl, .inl hS, k, _, rfl, rfl, _, rfl, ite2 (fun e => ?_) (fun e => ?_)⟩
    · have e1 : k < ((ns.map V.int).length : Int) := of_decide_eq_true e
      rw [List.length_map] at e1
      have e2 : k.toNat < ns.length := by omega
      exact ⟨.ref a, rfl, .int k, rfl, a, _, k, .int ns[k.toNat], rfl, rfl, hS, at_of (j := k.toNat) (by omega) (by rw [List.getElem?_map, List.getElem?_eq_getElem e2]; rfl), q _⟩
    · exact q 0
def spDraws : Sp := fun vs H Q _ => ∃ cell : Int, vs = [.int cell, .int 400, .int 1000] ∧
  ∀ H' p (ds : List Int), Same H H' → H p = none → H' p = some (.lst (ds.map V.int)) → ds.length = 400 → (∀ x ∈ ds, 0 ≤ x ∧ x < 1000) → Q (.ref p) H'
theorem grow {ds : List Int} {v : Int} (h : ∀ x ∈ ds, 0 ≤ x ∧ x < 1000) (h0 : 0 ≤ v) (h1 : v < 1000) : ∀ x ∈ ds ++ [v], 0 ≤ x ∧ x < 1000 := fun x hx => by
  rcases List.mem_append.mp hx with z | z
  · exact h x z
  · rw [List.mem_singleton.mp z]
    exact ⟨h0, h1⟩
theorem ok__law_draws (T : Top K mg) : FnOk P w K mg base CX0 1 T.a__law_draws T.fd__law_draws ["cell", "many", "size"] spDraws := by
  refine T.F__law_draws.ok sc__law_draws (fun vs H Q E h => ?_) (fun cdv A outer s H vs Q E hr h => ?_)
  · obtain ⟨cell, rfl, _⟩ := h
    rfl
  · obtain ⟨cell, rfl, q⟩ := h
    refine ⟨_, (pss_cons (ps_set (i := 3) sc__law_draws.nd rfl (.inl rfl) (pe_lst pa_nil))
      (pss_cons (ps_set (i := 4) sc__law_draws.nd rfl (.inl rfl) (pe_op op_mul (pv 0) (pe_callTy call_int1 (by rfl) T.z_int (by decide +kernel) (pa_cons (pe_cmpR op_ge (pv 0) (pe_op op_pow pe_int pe_int) (nomark _)) pa_nil))))
      (pss_cons (ps_set (i := 5) sc__law_draws.nd rfl (.inl rfl) (pe_op op_mod (pv 0) pe_int))
      (pss_cons (ps_for PassesOwn.never rfl (pi_range1 (by rfl) T.z_range (pa_cons (pe_op op_add (pv 1) pe_int) pa_nil)) (pg_name (i := 6) sc__law_draws.nd rfl (.inl rfl))
        (pss_cons (ps_set (i := 5) sc__law_draws.nd rfl (.inl rfl) (pe_op op_mod (pe_op op_add (pe_op op_add (pe_op op_add (pe_op op_mul (pv 5) (pv 5)) (pe_op op_mul pe_int (pv 5))) (pv 6)) pe_int) pe_int))
      (pss_one (ps_if (PW.pt (pw_and (pt_cmpR op_gt (pv 6) pe_int (nomark _)) (pw_and1 (pt_cmpR op_gt (pv 4) pe_int (nomark _))))) (pss_cons (ps_expr (pe_bm PySem.F.plainAttrs_list PySem.F.slot_list_append PySem.F.type_list_append mt_append (pv 3) (pa_cons (pe_op op_mod (pv 4) (pv 2)) pa_nil)))
      (pss_one (ps_set (i := 4) sc__law_draws.nd rfl (.inl rfl) (pe_op op_fdiv (pv 4) (pv 2))))) (pss_one (ps_if (pt_cmpR op_gt (pv 6) pe_int (nomark _)) (pss_one (ps_expr (pe_bm PySem.F.plainAttrs_list PySem.F.slot_list_append PySem.F.type_list_append mt_append (pv 3) (pa_cons (pe_op op_mod (pe_op op_fdiv (pv 5) pe_int) (pv 2)) pa_nil)))) pss_nil))))))
      (pss_one (ps_ret (pv 3))))))), ?_⟩
    refine ⟨Nat.zero_le _, fun o no => ?_⟩
    refine ⟨.int cell, rfl, .int cell, rfl, 10, 18, rfl, rfl, ⟨by decide, by decide, by decide⟩, cell, _, rfl, rfl, .inr ⟨_, rfl, cell, _, rfl, rfl, .inr ?_, ?_⟩⟩
    · split <;> exact ⟨by decide, by decide⟩
    refine ⟨.int cell, rfl, cell, 2305843009213693951, rfl, rfl, (by decide : (0 : Int) < 2305843009213693951), ?_⟩
    refine ⟨.int 400, rfl, 400, 3, rfl, rfl, _, rfl, by decide, by decide, ?_⟩
    refine for_range (lo := 0) (n := 403) (fun i σ H' => Same H H' ∧ ∃ (rest st : Int) (y : Option V) (ds : List Int), σ = [some (.int cell), some (.int 400), some (.int 1000), some (.ref o), some (.int rest), some (.int st), y] ∧ 0 ≤ st ∧ st < 2305843009213693951 ∧ H' o = some (.lst (ds.map V.int)) ∧ ds.length = i - 3 ∧ ∀ x ∈ ds, 0 ≤ x ∧ x < 1000)
      ⟨same_new no, _, _, none, [], rfl, Int.emod_nonneg _ (by decide), Int.emod_lt_of_pos _ (by decide), upd_same, rfl, fun x hx => nomatch hx⟩ (fun i σ H' hi hp => ?_) (fun σ H' hp => ?_)
    · obtain ⟨sm, rest, st, y, ds, rfl, s0, s1, ho, hl, hb⟩ := hp
      refine ⟨.int st, rfl, .int st, rfl, st, st, rfl, rfl, .inl ⟨by omega, by omega⟩, .int st, rfl, 48271, st, rfl, rfl, .inl ⟨by decide, by decide⟩, _, _, rfl, rfl, .int (0 + (i : Int)), rfl, _, _, rfl, rfl, _, _, rfl, rfl, _, 2305843009213693951, rfl, rfl, (by decide : (0 : Int) < 2305843009213693951), ?_⟩
      have nn : ∀ z : Int, 0 ≤ z % 2305843009213693951 ∧ z % 2305843009213693951 < 2305843009213693951 := fun z => ⟨Int.emod_nonneg _ (by decide), Int.emod_lt_of_pos _ (by decide)⟩
      have nk : ∀ z : Int, 0 ≤ z % 1000 ∧ z % 1000 < 1000 := fun z => ⟨Int.emod_nonneg _ (by decide), Int.emod_lt_of_pos _ (by decide)⟩
      have sz : (ds.map V.int).length < sizeLine := by
        rw [List.length_map, hl]
        exact small1000 (by omega)
      refine ⟨.int (0 + (i : Int)), rfl, _, 2, rfl, rfl, _, rfl, ite2 (fun e => ?_) (fun e => ?_)⟩
      · have e1 : (2 : Int) < 0 + (i : Int) := of_decide_eq_true e
        refine ⟨.int rest, rfl, rest, 0, rfl, rfl, _, rfl, ite2 (fun e2 => ?_) (fun e2 => ?_)⟩
        · refine ⟨.ref o, rfl, .inl ⟨rfl, _, sq_of ho⟩, .int rest, rfl, .int 1000, rfl, rest, 1000, rfl, rfl, (by decide : (0 : Int) < 1000), o, _, _, rfl, rfl, ho, sz, ?_⟩
          refine ⟨.int rest, rfl, .int 1000, rfl, rest, 1000, rfl, rfl, ⟨by decide, by decide⟩, same_upd_new no sm, _, _, _, ds ++ [rest % 1000], rfl, (nn _).1, (nn _).2, ?_, ?_, grow hb (nk _).1 (nk _).2⟩
          · rw [upd_same, List.map_append]
            rfl
          · rw [List.length_append, hl]
            show i - 3 + 1 = i + 1 - 3
            omega
        · refine ⟨.int (0 + (i : Int)), rfl, _, 2, rfl, rfl, _, rfl, ?_⟩
          rw [e]
          refine iteT ⟨.ref o, rfl, .inl ⟨rfl, _, sq_of ho⟩, _, rfl, _, 4096, rfl, rfl, ⟨by decide, by decide⟩, .int 1000, rfl, _, 1000, rfl, rfl, (by decide : (0 : Int) < 1000), o, _, _, rfl, rfl, ho, sz, ?_⟩
          refine ⟨same_upd_new no sm, rest, _, _, ds ++ [(st * st + 48271 * st + (0 + (i : Int)) + 1) % 2305843009213693951 / 4096 % 1000], rfl, (nn _).1, (nn _).2, ?_, ?_, grow hb (nk _).1 (nk _).2⟩
          · rw [upd_same, List.map_append]
            rfl
          · rw [List.length_append, hl]
            show i - 3 + 1 = i + 1 - 3
            omega
      · refine iteF ?_
        refine ⟨.int (0 + (i : Int)), rfl, _, 2, rfl, rfl, _, rfl, ?_⟩
        have e0 : ¬ (2 : Int) < 0 + (i : Int) := fun z => e (decide_eq_true z)
        rw [show decide ((2 : Int) < 0 + (i : Int)) = false from decide_eq_false e0]
        exact iteF ⟨sm, rest, _, _, ds, rfl, (nn _).1, (nn _).2, ho, by omega, hb⟩
    · obtain ⟨sm, rest, st, y, ds, rfl, s0, s1, ho, hl, hb⟩ := hp
      exact ⟨.ref o, rfl, q H' o ds sm no ho hl hb⟩
def spBag (K : PySem.W.Frag) : Sp := fun vs H Q _ => ∃ (a : Addr) (ns : List Int) (k : Int), vs = [.ref a, .int k] ∧ SqL K H a (ns.map V.int) ∧ 0 ≤ k ∧ ∀ H' b, Same H H' → H b = none → Bag H' b → Q (.ref b) H'
theorem ok__law_bag (T : Top K mg) : FnOk P w K mg base CX0 2 T.a__law_bag T.fd__law_bag ["script", "k"] (spBag K) := by
  refine T.F__law_bag.ok sc__law_bag (fun vs H Q E h => ?_) (fun cdv A outer s H vs Q E hr h => ?_)
  · obtain ⟨a, ns, k, rfl, _⟩ := h
    rfl
  · obtain ⟨a, ns, k, rfl, hS, k0, q⟩ := h
    refine ⟨_, (pss_one (ps_ret (pe_lst (pa_cons (pe_call (ok__law_draws T) (hr.mono (by decide)) (by rfl) T.g__law_draws T.F__law_draws.kp T.b__law_draws .nil pass0 (pa_cons (pe_call (ok__law_cell_at T) (hr.mono (by decide)) (by rfl) T.g__law_cell_at T.F__law_cell_at.kp T.b__law_cell_at .nil pass0 (pa_cons (pv 0) (pa_cons (pv 1) pa_nil))) (pa_cons pe_int (pa_cons pe_int pa_nil)))) (pa_cons pe_int pa_nil))))), ?_⟩
    refine ⟨.ref a, rfl, .int k, rfl, a, ns, k, rfl, hS, k0, fun v => ⟨v, rfl, fun H1 d ds s1 nd hd hl hb => ⟨by show 2 ≤ sizeLine; decide, fun b nb => q _ b (s1.trans (same_new nb)) (s1.free nb) ?_⟩⟩⟩
    exact ⟨d, ds, 0, upd_same, by rw [upd_ne (ne_of_none hd nb)]; exact hd, hl, hb, Int.le_refl 0⟩
def spBags (K : PySem.W.Frag) : Sp := fun vs H Q _ => ∃ (a : Addr) (ns : List Int) (lim : Int), vs = [.ref a, .int lim] ∧ SqL K H a (ns.map V.int) ∧ 1 ≤ lim ∧ lim ≤ 63 ∧
  ∀ H' p (bs : List Addr), Same H H' → H p = none → H' p = some (.lst (bs.map V.ref)) → (∀ b ∈ bs, Bag H' b) → Q (.ref p) H'
theorem ok__law_bags (T : Top K mg) : FnOk P w K mg base CX0 3 T.a__law_bags T.fd__law_bags ["script", "limit"] (spBags K) := by
  refine T.F__law_bags.ok sc__law_bags (fun vs H Q E h => ?_) (fun cdv A outer s H vs Q E hr h => ?_)
  · obtain ⟨a, ns, lim, rfl, _⟩ := h
    rfl
  · obtain ⟨a, ns, lim, rfl, hS, l1, l2, q⟩ := h
    refine ⟨_, (pss_one (ps_ret (pe_lc (own := [("k", 2)]) (by rfl) sc__law_bags.nd (pi_range1 (by rfl) T.z_range (pa_cons (pe_callB (call_max2 rfl) (by rfl) T.z_max (by decide +kernel) (pa_cons pe_int (pa_cons (pe_callB (call_min2 rfl) (by rfl) T.z_min (by decide +kernel) (pa_cons (pv 1) (pa_cons (pe_callB call_len_seq (by rfl) T.z_len (by decide +kernel) (pa_cons (pv 0) pa_nil)) pa_nil))) pa_nil))) pa_nil))
        (blkOk_by (own := [("k", 2)]) (N := ["script", "limit", "k"]) (sc := defScope s__law_bags) (by decide +kernel))
        (fun _ _ _ _ _ => (pg_name (i := 2) sc__law_bags.nd rfl (.inl rfl))) (fun _ _ _ _ _ => pts_nil) (fun _ _ _ _ _ => (pe_call (ok__law_bag T) (hr.mono (by decide)) (by rfl) T.g__law_bag T.F__law_bag.kp T.b__law_bag .nil pass0 (pa_cons (pv 0) (pa_cons (pv 2) pa_nil))))))), ?_⟩
    obtain ⟨m, hm⟩ : ∃ m : Int, m = if (if ((ns.map V.int).length : Int) < lim then ((ns.map V.int).length : Int) else lim) > 1 then (if ((ns.map V.int).length : Int) < lim then ((ns.map V.int).length : Int) else lim) else 1 := ⟨_, rfl⟩
    have m1 : 1 ≤ m := by rw [hm]; split <;> omega
    have m2 : m ≤ 63 := by rw [hm]; split <;> (try split) <;> omega
    refine ⟨.int lim, rfl, .ref a, rfl, a, _, rfl, .inl hS, lim, _, rfl, 1, _, rfl, m, congrArg (fun z => [V.int z]) hm.symm, by omega, by omega, fun D hD => ?_⟩
    refine lc_range (lo := 0) (n := m.toNat) (fun i H' => Same H H' ∧ ∃ bs : List Addr, H' D = some (.lst (bs.map V.ref)) ∧ bs.length = i ∧ ∀ b ∈ bs, Bag H' b)
      ⟨same_new hD, [], upd_same, rfl, fun b hb => nomatch hb⟩ (fun i H' hi hp => ?_) (fun H' hp => ?_)
    · obtain ⟨sm, bs, h1, h2, h3⟩ := hp
      refine ⟨rfl, yesT ?_⟩
      refine ⟨.ref a, rfl, .int (0 + (i : Int)), rfl, a, ns, _, rfl, sm.seq hS, by omega, fun H4 b s4 nb hb => ⟨_, s4 _ _ h1, ?_, same_upd_new hD (sm.trans s4), bs ++ [b], ?_, ?_, fun b' hb' => ?_⟩⟩
      · rw [List.length_map, h2]
        exact small1000 (by omega)
      · rw [upd_same, List.map_append]
        rfl
      · rw [List.length_append, h2]
        rfl
      · have k4 : Bag H4 b' := by
          rcases List.mem_append.mp hb' with z | z
          · exact (h3 b' z).same s4
          · rw [List.mem_singleton.mp z]
            exact hb
        exact k4.upd_refs (s4 _ _ h1)
    · obtain ⟨sm, bs, h1, h2, h3⟩ := hp
      exact q H' D bs sm hD h1 h3
def spTake : Sp := fun vs H Q _ => ∃ (b : Addr) (m : Int), vs = [.ref b, .int m] ∧ Bag H b ∧ 0 < m ∧ ∀ H' (r : Int), Kb b H H' → Bag H' b → 0 ≤ r → r < m → Q (.int r) H'
theorem ok__law_take (T : Top K mg) : FnOk P w K mg base CX0 1 T.a__law_take T.fd__law_take ["bag", "many"] spTake := by
  refine T.F__law_take.ok sc__law_take (fun vs H Q E h => ?_) (fun cdv A outer s H vs Q E hr h => ?_)
  · obtain ⟨b, m, rfl, _⟩ := h
    rfl
  · obtain ⟨b, m, rfl, hB, m0, q⟩ := h
    obtain ⟨d, ds, c, h1, h2, h3, h4, h5⟩ := id hB
    refine ⟨_, (pss_cons (ps_asg (pe_op op_add (pe_ix ix_list (pv 0) pe_int (fun _ _ => rfl)) pe_int) (pg_sub (pv 0) pe_int set_list))
      (pss_one (ps_ret (pe_op op_mod (pe_ix ix_list (pe_ix ix_list (pv 0) pe_int (fun _ _ => rfl)) (pe_op op_mod (pe_ix ix_list (pv 0) pe_int (fun _ _ => rfl)) (pe_callB call_len_seq (by rfl) T.z_len (by decide +kernel) (pa_cons (pe_ix ix_list (pv 0) pe_int (fun _ _ => rfl)) pa_nil))) (fun _ _ => rfl)) (pv 1))))), ?_⟩
    refine ⟨.ref b, rfl, b, _, 1, .int c, rfl, rfl, sq_of h1, rfl, c, 1, rfl, rfl, .ref b, rfl, b, _, 1, 1, rfl, rfl, h1, rfl, ?_⟩
    have ndb : d ≠ b := ne_of h2 h1 (by
      intro z
      have z2 := congrArg List.length (HO.lst.inj z)
      rw [List.length_map, h3] at z2
      simp at z2)
    have g1 : (upd H b (.lst [.ref d, .int (c + 1)])) b = some (.lst [.ref d, .int (c + 1)]) := upd_same
    have g2 : (upd H b (.lst [.ref d, .int (c + 1)])) d = some (.lst (ds.map V.int)) := by rw [upd_ne ndb]; exact h2
    have j0 : 0 ≤ (c + 1) % 400 := Int.emod_nonneg _ (by decide)
    have j1 : (c + 1) % 400 < 400 := Int.emod_lt_of_pos _ (by decide)
    have jl : ((c + 1) % 400).toNat < ds.length := by omega
    have ll : ((ds.map V.int).length : Int) = 400 := by rw [List.length_map, h3]; rfl
    refine ⟨.ref b, rfl, b, _, 0, .ref d, rfl, rfl, sq_of g1, rfl, .ref b, rfl, b, _, 1, .int (c + 1), rfl, rfl, sq_of g1, rfl, .ref b, rfl, b, _, 0, .ref d, rfl, rfl, sq_of g1, rfl, d, _, rfl, .inl (sq_of g2), c + 1, 400, rfl, congrArg V.int ll, (by decide : (0 : Int) < 400),
      d, _, (c + 1) % 400, .int ds[((c + 1) % 400).toNat], rfl, rfl, sq_of g2, at_of (j := ((c + 1) % 400).toNat) (by omega) (by rw [List.getElem?_map, List.getElem?_eq_getElem jl]; rfl), .int m, rfl, _, m, rfl, rfl, m0, ?_⟩
    exact q _ _ (fun a o na ha => by rw [upd_ne na]; exact ha) ⟨d, ds, c + 1, g1, g2, h3, h4, by omega⟩ (Int.emod_nonneg _ (by omega)) (Int.emod_lt_of_pos _ m0)

/-! drawn rows -/
def spTk : Sp := fun vs H Q _ => ∃ (b : Addr) (far : Int), vs = [.ref b, .int far] ∧ Bag H b ∧ 2 ≤ far ∧ far ≤ 1000 ∧
  ∀ H' t (e c : Int), Kb b H H' → Bag H' b → H t = none → H' t = some (.tup [.int e, .int c]) → okT (e, c) → e ≤ far → Q (.ref t) H'
theorem at2 {a b : V} {i : Int} (h0 : 0 ≤ i) (h1 : i < 2) : atI [a, b] i = some (if i = 0 then a else b) := by
  have : i = 0 ∨ i = 1 := by omega
  rcases this with rfl | rfl <;> rfl
theorem at3 {a b c : V} {i : Int} (h0 : 0 ≤ i) (h1 : i < 3) : atI [a, b, c] i = some (if i = 0 then a else if i = 1 then b else c) := by
  have : i = 0 ∨ i = 1 ∨ i = 2 := by omega
  rcases this with rfl | rfl | rfl <;> rfl
theorem keepL {b L : Addr} {H H' : Hp} {xs : List V} (h : H L = some (.lst xs)) (hb : Bag H b) (k : Kb b H H') (hx : ∀ d, xs[0]? ≠ some (.ref d)) : H' L = some (.lst xs) :=
  k _ _ (ne_bag h hb hx) h
theorem ok__law_taker (T : Top K mg) : FnOk P w K mg base CX0 2 T.a__law_taker T.fd__law_taker ["bag", "far"] spTk := by
  refine T.F__law_taker.ok sc__law_taker (fun vs H Q E h => ?_) (fun cdv A outer s H vs Q E hr h => ?_)
  · obtain ⟨b, far, rfl, _⟩ := h
    rfl
  · obtain ⟨b, far, rfl, hB, f1, f2, q⟩ := h
    refine ⟨_, (pss_cons (ps_set (i := 2) sc__law_taker.nd rfl (.inl rfl) (pe_op op_add pe_int (pe_ix ix_list (pe_lst (pa_cons (pe_call (ok__law_take T) (hr.mono (by decide)) (by rfl) T.g__law_take T.F__law_take.kp T.b__law_take .nil pass0 (pa_cons (pv 0) (pa_cons (pe_callB (call_min2 rfl) (by rfl) T.z_min (by decide +kernel) (pa_cons pe_int (pa_cons (pe_op op_sub (pv 1) pe_int) pa_nil))) pa_nil))) (pa_cons (pe_call (ok__law_take T) (hr.mono (by decide)) (by rfl) T.g__law_take T.F__law_take.kp T.b__law_take .nil pass0 (pa_cons (pv 0) (pa_cons (pe_op op_sub (pv 1) pe_int) pa_nil))) pa_nil))) (pe_call (ok__law_take T) (hr.mono (by decide)) (by rfl) T.g__law_take T.F__law_take.kp T.b__law_take .nil pass0 (pa_cons (pv 0) (pa_cons pe_int pa_nil))) (fun _ _ => rfl))))
      (pss_one (ps_ret (pe_tup (pa_cons (pv 2) (pa_cons (pe_ix ix_list (pe_lst (pa_cons pe_int (pa_cons (pe_call (ok__law_take T) (hr.mono (by decide)) (by rfl) T.g__law_take T.F__law_take.kp T.b__law_take .nil pass0 (pa_cons (pv 0) (pa_cons (pv 2) pa_nil))) (pa_cons (pe_op op_sub (pv 2) pe_int) pa_nil)))) (pe_call (ok__law_take T) (hr.mono (by decide)) (by rfl) T.g__law_take T.F__law_take.kp T.b__law_take .nil pass0 (pa_cons (pv 0) (pa_cons pe_int pa_nil))) (fun _ _ => rfl)) pa_nil)))))), ?_⟩
    obtain ⟨mi, hmi⟩ : ∃ mi : Int, mi = if far - 1 < 4 then far - 1 else 4 := ⟨_, rfl⟩
    have mi1 : 0 < mi := by rw [hmi]; split <;> omega
    have mi2 : mi ≤ far - 1 := by rw [hmi]; split <;> omega
    refine ⟨.ref b, rfl, .int far, rfl, far, 1, rfl, rfl, 4, far - 1, rfl, b, mi, by rw [hmi]; rfl, hB, mi1, fun H1 r1 k1 B1 lo1 hi1 => ?_⟩
    refine ⟨.ref b, rfl, .int far, rfl, far, 1, rfl, rfl, b, far - 1, rfl, B1, by omega, fun H2 r2 k2 B2 lo2 hi2 => ?_⟩
    refine ⟨by show 2 ≤ sizeLine; decide, fun L nL => ?_⟩
    have B2' : Bag (upd H2 L (.lst [.int r1, .int r2])) b := B2.same (same_new nL)
    refine ⟨.ref b, rfl, b, 2, rfl, B2', by decide, fun H3 r3 k3 B3 lo3 hi3 => ?_⟩
    have hL : H3 L = some (.lst [.int r1, .int r2]) := keepL upd_same B2' k3 (by intro d z; cases z)
    obtain ⟨v, hv⟩ : ∃ v : Int, (if r3 = 0 then V.int r1 else V.int r2) = .int v ∧ 0 ≤ v ∧ v < far - 1 := by
      split
      · exact ⟨r1, rfl, lo1, by omega⟩
      · exact ⟨r2, rfl, lo2, hi2⟩
    obtain ⟨hv, v0, v1⟩ := hv
    refine ⟨L, _, r3, .int v, rfl, rfl, sq_of hL, by rw [at2 lo3 hi3, hv], 2, v, rfl, rfl, ?_⟩
    have kH3 : Kb b H H3 := (k1.trans k2).trans ((Kb.of (same_new nL)).trans k3)
    refine ⟨.int (2 + v), rfl, .ref b, rfl, .int (2 + v), rfl, b, 2 + v, rfl, B3, by omega, fun H4 r4 k4 B4 lo4 hi4 => ?_⟩
    refine ⟨.int (2 + v), rfl, 2 + v, 1, rfl, rfl, by show 3 ≤ sizeLine; decide, fun M nM => ?_⟩
    have B4' : Bag (upd H4 M (.lst [.int 0, .int r4, .int (2 + v - 1)])) b := B4.same (same_new nM)
    refine ⟨.ref b, rfl, b, 3, rfl, B4', by decide, fun H5 r5 k5 B5 lo5 hi5 => ?_⟩
    have hM : H5 M = some (.lst [.int 0, .int r4, .int (2 + v - 1)]) := keepL upd_same B4' k5 (by intro d z; cases z)
    obtain ⟨c, hc, c0, c1⟩ : ∃ c : Int, (if r5 = 0 then V.int 0 else if r5 = 1 then V.int r4 else V.int (2 + v - 1)) = .int c ∧ 0 ≤ c ∧ c ≤ 2 + v - 1 := by
      split
      · exact ⟨0, rfl, by omega, by omega⟩
      · split
        · exact ⟨r4, rfl, lo4, by omega⟩
        · exact ⟨2 + v - 1, rfl, by omega, by omega⟩
    refine ⟨M, _, r5, .int c, rfl, rfl, sq_of hM, by rw [at3 lo5 hi5, hc], by show 2 ≤ sizeLine; decide, fun t nt => ?_⟩
    have kH5 : Kb b H H5 := kH3.trans (k4.trans ((Kb.of (same_new nM)).trans k5))
    exact q _ t (2 + v) c (kH5.trans (Kb.of (same_new nt))) (B5.same (same_new nt)) (kH5.free B5 nt) upd_same ⟨by show 2 ≤ 2 + v; omega, by show 2 + v ≤ 1000; omega, c0, c1⟩ (by omega)

/-! between two turns of the law's loop -/
def spLaw (K : PySem.W.Frag) : Sp := fun vs H Q _ => ∃ (a : Addr) (ns : List Int), vs = [.ref a] ∧ SqL K H a (ns.map V.int) ∧ ns.length ≤ 63 ∧ ∀ H', Q (.bl true) H'
theorem refs1 {bs : List Addr} : ∀ d, (bs.map V.ref)[1]? ≠ some (.int d) := fun d h => by
  rw [List.getElem?_map] at h
  cases q : bs[1]? <;> rw [q] at h <;> cases h
theorem os0 {os : List (Option Nat)} : ∀ d, (os.map ofO)[0]? ≠ some (.ref d) := fun d h => by
  rw [List.getElem?_map] at h
  cases q : os[0]? with
  | none => rw [q] at h; cases h
  | some o => rw [q] at h; cases o <;> cases h
theorem ints0 {ns : List Int} : ∀ d, (ns.map V.int)[0]? ≠ some (.ref d) := fun d h => by
  rw [List.getElem?_map] at h
  cases q : ns[0]? <;> rw [q] at h <;> cases h
structure Std (H : Hp) (L : Addr) (bs : List Addr) : Prop where
  l : H L = some (.lst (bs.map V.ref))
  b : ∀ b ∈ bs, Bag H b
theorem Std.same {H H' : Hp} {L : Addr} {bs : List Addr} (h : Std H L bs) (s : Same H H') : Std H' L bs := ⟨s _ _ h.l, fun b hb => (h.b b hb).same s⟩
theorem Std.kb {H H' : Hp} {L b : Addr} {bs : List Addr} (h : Std H L bs) (hb : b ∈ bs) (k : Kb b H H') (hn : Bag H' b) : Std H' L bs :=
  ⟨k _ _ (ne_bag2 h.l (h.b b hb) refs1) h.l, fun b' hb' => (h.b b hb).keep k hn (h.b b' hb')⟩
theorem ok_pair {r : List (Int × Int)} (h : r.all (fun ec => decide (2 ≤ ec.1) && decide (ec.1 ≤ 1000) && decide (0 ≤ ec.2) && decide (ec.2 ≤ ec.1 - 1)) = true) : ∀ ec ∈ r, okT ec := fun ec hm => by
  have := List.all_eq_true.mp h ec hm
  simp only [Bool.and_eq_true, decide_eq_true_eq] at this
  exact ⟨this.1.1.1, this.1.1.2, this.1.2, this.2⟩

/-! far draws -/
theorem at4 {a b c d : V} {i : Int} (h0 : 0 ≤ i) (h1 : i < 4) : atI [a, b, c, d] i = some (if i = 0 then a else if i = 1 then b else if i = 2 then c else d) := by
  have : i = 0 ∨ i = 1 ∨ i = 2 ∨ i = 3 := by omega
  rcases this with rfl | rfl | rfl | rfl <;> rfl
theorem ok__law_far_draw (T : Top K mg) : FnOk P w K mg base CX0 2 T.a__law_far_draw T.fd__law_far_draw ["bag", "many"] spTake := by
  refine T.F__law_far_draw.ok sc__law_far_draw (fun vs H Q E h => ?_) (fun cdv A outer s H vs Q E hr h => ?_)
  · obtain ⟨b, m, rfl, _⟩ := h
    rfl
  · obtain ⟨b, m, rfl, hB, m0, q⟩ := h
    refine ⟨_, (pss_cons (ps_par (by rfl) sc__law_far_draw.nd (i := 2) (j := 3) rfl rfl (by decide) rfl rfl (pa_cons pe_int (pa_cons (pv 1) pa_nil)) (by rfl))
      (pss_cons (ps_while PassesOwn.never (pt_cmpR op_gt (pv 3) pe_int (nomark _)) (pss_one (ps_par (by rfl) sc__law_far_draw.nd (i := 2) (j := 3) rfl rfl (by decide) rfl rfl (pa_cons (pe_op op_add (pe_op op_mul pe_int (pv 2)) (pe_call (ok__law_take T) (hr.mono (by decide)) (by rfl) T.g__law_take T.F__law_take.kp T.b__law_take .nil pass0 (pa_cons (pv 0) (pa_cons pe_int pa_nil)))) (pa_cons (pe_op op_fdiv (pv 3) pe_int) pa_nil)) (by rfl))))
      (pss_one (ps_ret (pe_ix ix_list (pe_lst (pa_cons (pe_op op_mod (pv 2) (pv 1)) (pa_cons pe_int (pa_cons (pe_op op_sub (pv 1) pe_int) (pa_cons (pe_op op_mod (pv 2) (pv 1)) pa_nil))))) (pe_call (ok__law_take T) (hr.mono (by decide)) (by rfl) T.g__law_take T.F__law_take.kp T.b__law_take .nil pass0 (pa_cons (pv 0) (pa_cons pe_int pa_nil))) (fun _ _ => rfl)))))), ?_⟩
    refine ⟨.int m, rfl, _, _, rfl, ?_⟩
    refine while_by (fun σ H' => Kb b H H' ∧ Bag H' b ∧ ∃ f u : Int, σ = [some (.ref b), some (.int m), some (.int f), some (.int u)]) (fun σ _ => match σ with | [_, _, _, some (.int u)] => u.toNat | _ => 0)
      ⟨Kb.refl _ _, hB, 0, m, rfl⟩ (fun σ H1 hp => ?_) (fun σ H1 Q1 Q2 hm hq => ?_)
    · obtain ⟨k1, B1, f, u, rfl⟩ := hp
      refine ⟨.int u, rfl, u, 0, rfl, rfl, _, rfl, ite2 (fun z => ?_) (fun z => ?_)⟩
      · have z1 : 0 < u := of_decide_eq_true z
        refine ⟨.int f, rfl, 1000, f, rfl, rfl, .inl ⟨by decide, by decide⟩, .ref b, rfl, b, 1000, rfl, B1, by decide, fun H2 r2 k2 B2 lo2 hi2 => ?_⟩
        refine ⟨_, r2, rfl, rfl, .int u, rfl, u, 1000, rfl, rfl, ⟨by decide, by decide⟩, _, _, rfl, ⟨k1.trans k2, B2, _, _, rfl⟩, ?_⟩
        show (u / 1000).toNat < u.toNat
        omega
      · refine ⟨.int f, rfl, .int m, rfl, f, m, rfl, rfl, m0, .int m, rfl, m, 1, rfl, rfl, .int f, rfl, .int m, rfl, f, m, rfl, rfl, m0, by show 4 ≤ sizeLine; decide, fun M nM => ?_⟩
        have B1' : Bag (upd H1 M (.lst [.int (f % m), .int 0, .int (m - 1), .int (f % m)])) b := B1.same (same_new nM)
        refine ⟨.ref b, rfl, b, 4, rfl, B1', by decide, fun H2 r2 k2 B2 lo2 hi2 => ?_⟩
        have hM := keepL upd_same B1' k2 (by intro d z; cases z)
        have f0 : 0 ≤ f % m := Int.emod_nonneg _ (by omega)
        have f1 : f % m < m := Int.emod_lt_of_pos _ m0
        obtain ⟨v, hv, v0, v1⟩ : ∃ v : Int, (if r2 = 0 then V.int (f % m) else if r2 = 1 then V.int 0 else if r2 = 2 then V.int (m - 1) else V.int (f % m)) = .int v ∧ 0 ≤ v ∧ v < m := by
          split
          · exact ⟨_, rfl, f0, f1⟩
          · split
            · exact ⟨0, rfl, by omega, by omega⟩
            · split
              · exact ⟨m - 1, rfl, by omega, by omega⟩
              · exact ⟨_, rfl, f0, f1⟩
        exact ⟨M, _, r2, .int v, rfl, rfl, sq_of hM, by rw [at4 lo2 hi2, hv], q _ v ((k1.trans (Kb.of (same_new nM))).trans k2) B2 v0 v1⟩
    · obtain ⟨v, e, i, j, e1, e2, k, e3, q'⟩ := hq
      exact ⟨v, e, i, j, e1, e2, k, e3, hm _ _ q'⟩

/-! a deed drawn -/
def goD (d : PyData) : Prop := (∃ m : Int, d = .int m ∧ 1 ≤ m ∧ m ≤ 900) ∨ wholeD d 1 1000000000000 = false
def WordOk (word : Str) (d : PyData) : Prop := (word = "go" ∧ goD d) ∨ word = "come" ∨ word = "leave" ∨ word = "change"
theorem whole_nat {d : PyData} {m : Nat} (h : wholeD d 0 ((m : Int) - 1) = true) : ∃ j : Nat, d = .int (j : Nat) ∧ j < m := by
  obtain ⟨x, rfl⟩ := whole_int h
  have h : (decide (0 ≤ x) && decide (x ≤ (m : Int) - 1)) = true := h
  simp only [Bool.and_eq_true, decide_eq_true_eq] at h
  exact ⟨x.toNat, by rw [show ((x.toNat : Nat) : Int) = x by omega], by omega⟩
theorem taker_tk {d : PyData} (h : takerD d = true) : ∃ x, d = tkD x ∧ okT x := by
  cases d with
  | tuple ds =>
    match ds, h with
    | [a, b], h =>
      have h1 := (Bool.and_eq_true _ _ ▸ h : _ ∧ _)
      obtain ⟨h1, h2⟩ := h1
      obtain ⟨e, rfl⟩ := whole_int h1
      obtain ⟨c, rfl⟩ := whole_int h2
      have h1 : (decide (2 ≤ e) && decide (e ≤ 1000)) = true := h1
      have h2 : (decide (0 ≤ c) && decide (c ≤ e - 1)) = true := h2
      simp only [Bool.and_eq_true, decide_eq_true_eq] at h1 h2
      exact ⟨(e, c), rfl, h1.1, h1.2, h2.1, h2.2⟩
  | _ => cases h
theorem does_ex {r : List (Int × Int)} {word : Str} {d : PyData} (n k : Int) (d' : PyData) (h8 : r.length ≤ 8) (h : WordOk word d) : ∃ o, Does r n k word d d' o := by
  rcases h with ⟨rfl, ⟨m, rfl, m1, m2⟩ | hw⟩ | rfl | rfl | rfl
  · exact ⟨_, .go m m1 m2⟩
  · exact ⟨_, .goN hw⟩
  · cases ht : takerD d with
    | false => exact ⟨_, .comeN ht⟩
    | true =>
      obtain ⟨x, rfl, ok⟩ := taker_tk ht
      by_cases e : r.length = 8
      · exact ⟨_, .comeF x ok e⟩
      · exact ⟨_, .come x ok (by omega)⟩
  · cases hw : wholeD d 0 ((r.length : Int) - 1) with
    | false => exact ⟨_, .leaveN hw⟩
    | true =>
      obtain ⟨j, rfl, hj⟩ := whole_nat hw
      exact ⟨_, .leave j hj⟩
  · cases hw : wholeD d 0 ((r.length : Int) - 1) with
    | false => exact ⟨_, .chg1 hw⟩
    | true =>
      obtain ⟨j, rfl, hj⟩ := whole_nat hw
      cases hw' : wholeD d' 0 ((r.length : Int) - 1) with
      | false => exact ⟨_, .chg2 j hj hw'⟩
      | true =>
        obtain ⟨i, rfl, hi⟩ := whole_nat hw'
        exact ⟨_, .chg j i hj hi⟩
def spADeed : Sp := fun vs H Q _ => ∃ (b : Addr) (m : Nat), vs = [.ref b, .int (m : Nat)] ∧ Bag H b ∧ m ≤ 8 ∧
  ∀ H' q word d d', Kb b H H' → Bag H' b → DeedAt H' q word d d' → WordOk word d → Q (.ref q) H'
/-- flat things -/
def FlatV (v : V) : Prop := (∃ n, v = .int n) ∨ v = .non ∨ ∃ b, v = .bl b
theorem FlatV.th {v : V} (h : FlatV v) (H : Hp) : ∃ d, Th H v d := by
  rcases h with ⟨n, rfl⟩ | rfl | ⟨b, rfl⟩
  · exact ⟨_, .int n⟩
  · exact ⟨_, .non⟩
  · exact ⟨_, .bl b⟩
theorem at_mem {xs : List V} {i : Int} (h0 : 0 ≤ i) (h1 : i < xs.length) : ∃ v ∈ xs, atI xs i = some v := by
  have hl : i.toNat < xs.length := by omega
  refine ⟨xs[i.toNat], List.getElem_mem hl, at_of (j := i.toNat) (by omega) (List.getElem?_eq_getElem hl)⟩
theorem flat0 {xs : List V} (h : ∀ v ∈ xs, FlatV v) : ∀ d, xs[0]? ≠ some (.ref d) := fun d z => by
  rcases h _ (List.mem_of_getElem? z) with ⟨n, e⟩ | e | ⟨b, e⟩ <;> cases e
def plV (m : Nat) : List V := (List.replicate (4 : Int).toNat (rgV 0 (m : Int))).flatten ++ [.int (-1), .int (m : Nat), .non, .bl true]
theorem pl_len (m : Nat) : (plV m).length = 4 * m + 4 := by
  unfold plV
  rw [List.length_append, List.length_flatten, List.map_replicate, rgV_length]
  show (List.replicate 4 ((m : Int) - 0).toNat).sum + 4 = _
  rw [show ((m : Int) - 0).toNat = m by omega]
  simp [List.replicate]
  omega
theorem flat_places (m : Nat) : ∀ v ∈ plV m, FlatV v := fun v hv => by
  rcases List.mem_append.mp hv with h | h
  · obtain ⟨l, hl, hm⟩ := List.mem_flatten.mp h
    rw [(List.mem_replicate.mp hl).2] at hm
    obtain ⟨i, _, rfl⟩ := List.mem_map.mp hm
    exact .inl ⟨_, rfl⟩
  · simp only [List.mem_cons, List.not_mem_nil, or_false] at h
    rcases h with rfl | rfl | rfl | rfl
    · exact .inl ⟨_, rfl⟩
    · exact .inl ⟨_, rfl⟩
    · exact .inr (.inl rfl)
    · exact .inr (.inr ⟨_, rfl⟩)
def wordV (i : Int) : Str := if i = 0 then "go" else if i = 1 then "go" else if i = 2 then "come" else if i = 3 then "come" else if i = 4 then "leave" else "change"
theorem at_word {i : Int} (h0 : 0 ≤ i) (h1 : i < 6) : atI [V.str "go", .str "go", .str "come", .str "come", .str "leave", .str "change"] i = some (.str (wordV i)) := by
  have : i = 0 ∨ i = 1 ∨ i = 2 ∨ i = 3 ∨ i = 4 ∨ i = 5 := by omega
  rcases this with rfl | rfl | rfl | rfl | rfl | rfl <;> rfl
def Word4 (word : Str) : Prop := word = "go" ∨ word = "come" ∨ word = "leave" ∨ word = "change"
theorem word4 (i : Int) : Word4 (wordV i) := by
  unfold wordV Word4
  split
  · exact .inl rfl
  split
  · exact .inl rfl
  split
  · exact .inr (.inl rfl)
  split
  · exact .inr (.inl rfl)
  split
  · exact .inr (.inr (.inl rfl))
  · exact .inr (.inr (.inr rfl))
theorem s_gc : eqV (.str "go") (.str "come") = false := by decide +kernel
theorem ne_bagT {H : Hp} {a b : Addr} {xs : List V} (h : H a = some (.tup xs)) (hb : Bag H b) : a ≠ b := by
  obtain ⟨d, ds, c, h1, _⟩ := hb
  exact ne_of h h1 (by intro z; cases z)
theorem ok__law_a_deed (T : Top K mg) : FnOk P w K mg base CX0 3 T.a__law_a_deed T.fd__law_a_deed ["bag", "many"] spADeed := by
  refine T.F__law_a_deed.ok sc__law_a_deed (fun vs H Q E h => ?_) (fun cdv A outer s H vs Q E hr h => ?_)
  · obtain ⟨b, m, rfl, _⟩ := h
    rfl
  · obtain ⟨b, m, rfl, hB, m8, q⟩ := h
    refine ⟨_, (C8.pss_cut (ps_set (i := 2) sc__law_a_deed.nd rfl (.inl rfl) (pe_ix ix_list (pe_lst (pa_cons pe_str (pa_cons pe_str (pa_cons pe_str (pa_cons pe_str (pa_cons pe_str (pa_cons pe_str pa_nil))))))) (pe_call (ok__law_take T) (hr.mono (by decide)) (by rfl) T.g__law_take T.F__law_take.kp T.b__law_take .nil pass0 (pa_cons (pv 0) (pa_cons pe_int pa_nil))) (fun _ _ => rfl)))
      (pss_cons (ps_set (i := 3) sc__law_a_deed.nd rfl (.inl rfl) (pe_op op_cat (pe_op op_rep (pe_listRg (by rfl) (by rfl) T.z_list (prg_1 (by rfl) T.z_range (pv 1))) pe_int) (pe_lst (pa_cons (pe_un un_neg pe_int) (pa_cons (pv 1) (pa_cons pe_non (pa_cons pe_bl pa_nil)))))))
      (C8.pss_cut (ps_par (by rfl) sc__law_a_deed.nd (i := 4) (j := 5) rfl rfl (by decide) rfl rfl (pa_cons (pe_ix ix_list (pv 3) (pe_call (ok__law_take T) (hr.mono (by decide)) (by rfl) T.g__law_take T.F__law_take.kp T.b__law_take .nil pass0 (pa_cons (pv 0) (pa_cons (pe_callB call_len_seq (by rfl) T.z_len (by decide +kernel) (pa_cons (pv 3) pa_nil)) pa_nil))) (fun _ _ => rfl)) (pa_cons (pe_ix ix_list (pv 3) (pe_call (ok__law_take T) (hr.mono (by decide)) (by rfl) T.g__law_take T.F__law_take.kp T.b__law_take .nil pass0 (pa_cons (pv 0) (pa_cons (pe_callB call_len_seq (by rfl) T.z_len (by decide +kernel) (pa_cons (pv 3) pa_nil)) pa_nil))) (fun _ _ => rfl)) pa_nil)) (by rfl))
      (C8.pss_cut (ps_if (pt_cmpR op_eq (pv 2) pe_str (nomark _)) (pss_one (ps_set (i := 4) sc__law_a_deed.nd rfl (.inl rfl) (pe_ix ix_list (pe_lst (pa_cons (pe_op op_add pe_int (pe_call (ok__law_take T) (hr.mono (by decide)) (by rfl) T.g__law_take T.F__law_take.kp T.b__law_take .nil pass0 (pa_cons (pv 0) (pa_cons pe_int pa_nil)))) (pa_cons (pe_op op_add pe_int (pe_call (ok__law_take T) (hr.mono (by decide)) (by rfl) T.g__law_take T.F__law_take.kp T.b__law_take .nil pass0 (pa_cons (pv 0) (pa_cons pe_int pa_nil)))) (pa_cons pe_int (pa_cons pe_non (pa_cons pe_bl (pa_cons (pe_op op_add (pe_op op_pow pe_int pe_int) pe_int) pa_nil))))))) (pe_call (ok__law_take T) (hr.mono (by decide)) (by rfl) T.g__law_take T.F__law_take.kp T.b__law_take .nil pass0 (pa_cons (pv 0) (pa_cons pe_int pa_nil))) (fun _ _ => rfl)))) pss_nil)
      (C8.pss_cut (ps_if (pt_cmpR op_eq (pv 2) pe_str (nomark _)) (pss_one (ps_set (i := 4) sc__law_a_deed.nd rfl (.inl rfl) (pe_ix ix_list (pe_op op_cat (pe_op op_rep (pe_lst (pa_cons (pe_call (ok__law_taker T) (hr.mono (by decide)) (by rfl) T.g__law_taker T.F__law_taker.kp T.b__law_taker .nil pass0 (pa_cons (pv 0) (pa_cons pe_int pa_nil))) pa_nil)) pe_int) (pe_lst (pa_cons pe_non (pa_cons (pe_tup (pa_cons pe_int (pa_cons pe_int pa_nil))) (pa_cons (pe_tup (pa_cons pe_int (pa_cons pe_int pa_nil))) (pa_cons (pe_tup (pa_cons pe_int pa_nil)) (pa_cons (pe_lst (pa_cons pe_int (pa_cons pe_int pa_nil))) (pa_cons (pe_tup (pa_cons pe_int (pa_cons pe_bl pa_nil))) pa_nil)))))))) (pe_call (ok__law_take T) (hr.mono (by decide)) (by rfl) T.g__law_take T.F__law_take.kp T.b__law_take .nil pass0 (pa_cons (pv 0) (pa_cons pe_int pa_nil))) (fun _ _ => rfl)))) pss_nil)
      (pss_one (ps_ret (pe_tup (pa_cons (pv 2) (pa_cons (pv 4) (pa_cons (pv 5) pa_nil))))))))))), ?_⟩
    refine ⟨fun σ H' => Kb b H H' ∧ Bag H' b ∧ ∃ word, Word4 word ∧ σ = [some (.ref b), some (.int (m : Nat)), some (.str word), none, none, none], ⟨by show 6 ≤ sizeLine; decide, fun L nL => ?_⟩, fun σ1 H1 hM => ?_⟩
    · have sL := same_new (o := .lst [.str "go", .str "go", .str "come", .str "come", .str "leave", .str "change"]) nL
      refine ⟨.ref b, rfl, b, 6, rfl, hB.same sL, by decide, fun H1 r1 k1 B1 lo1 hi1 => ?_⟩
      have hL : H1 L = some (.lst [.str "go", .str "go", .str "come", .str "come", .str "leave", .str "change"]) := keepL upd_same (hB.same sL) k1 (by intro d z; cases z)
      exact ⟨L, _, r1, _, rfl, rfl, sq_of hL, at_word lo1 hi1, (Kb.of sL).trans k1, B1, _, word4 r1, rfl⟩
    obtain ⟨kb1, B1, word, hw, eσ⟩ := hM
    subst eσ
    refine ⟨.int (m : Nat), rfl, (m : Int), rfl, ⟨by omega, by omega, by omega, by omega, by omega⟩, fun R nR => ?_⟩
    have sR := same_new (o := .lst (rgV 0 (m : Int))) nR
    refine ⟨R, 4, _, rfl, rfl, upd_same, by decide, by decide, by rw [rgV_length]; exact Nat.le_of_lt (small1000 (by show ((m : Int) - 0).toNat * 4 ≤ 1000; omega)), fun R4 nR4 => ?_⟩
    have sR4 := same_new (o := .lst (List.replicate (4 : Int).toNat (rgV 0 (m : Int))).flatten) nR4
    refine ⟨1, rfl, .int (m : Nat), rfl, by show 4 ≤ sizeLine; decide, fun Z nZ => ?_⟩
    have sZ := same_new (o := .lst [.int (-1), .int (m : Nat), .non, .bl true]) nZ
    have hl := pl_len m
    refine ⟨R4, Z, _, _, rfl, rfl, sZ _ _ upd_same, upd_same, ?_, fun Pl nPl => ?_⟩
    · rw [← List.length_append]
      exact Nat.le_of_lt (small1000 (by show (plV m).length ≤ 1000; omega))
    have sP := same_new (o := .lst (plV m)) nPl
    have kb2 : Kb b H (upd (upd (upd (upd H1 R (.lst (rgV 0 (m : Int)))) R4 (.lst (List.replicate (4 : Int).toNat (rgV 0 (m : Int))).flatten)) Z (.lst [.int (-1), .int (m : Nat), .non, .bl true])) Pl (.lst (plV m))) := kb1.trans (Kb.of (sR.trans (sR4.trans (sZ.trans sP))))
    have B2 : Bag (upd (upd (upd (upd H1 R (.lst (rgV 0 (m : Int)))) R4 (.lst (List.replicate (4 : Int).toNat (rgV 0 (m : Int))).flatten)) Z (.lst [.int (-1), .int (m : Nat), .non, .bl true])) Pl (.lst (plV m))) b := B1.same (sR.trans (sR4.trans (sZ.trans sP)))
    have hP : (upd (upd (upd (upd H1 R (.lst (rgV 0 (m : Int)))) R4 (.lst (List.replicate (4 : Int).toNat (rgV 0 (m : Int))).flatten)) Z (.lst [.int (-1), .int (m : Nat), .non, .bl true])) Pl (.lst (plV m))) Pl = some (.lst (plV m)) := upd_same
    show C8.tCut _ _ _ _ (upd (upd (upd (upd H1 R (.lst (rgV 0 (m : Int)))) R4 (.lst (List.replicate (4 : Int).toNat (rgV 0 (m : Int))).flatten)) Z (.lst [.int (-1), .int (m : Nat), .non, .bl true])) Pl (.lst (plV m)))
    generalize upd (upd (upd (upd H1 R (.lst (rgV 0 (m : Int)))) R4 (.lst (List.replicate (4 : Int).toNat (rgV 0 (m : Int))).flatten)) Z (.lst [.int (-1), .int (m : Nat), .non, .bl true])) Pl (.lst (plV m)) = H2 at kb2 B2 hP ⊢
    have f0 := flat0 (flat_places m)
    refine ⟨fun σ H' => Kb b H H' ∧ Bag H' b ∧ ∃ v v', FlatV v ∧ FlatV v' ∧ σ = [some (.ref b), some (.int (m : Nat)), some (.str word), some (.ref Pl), some v, some v'], ?_, fun σ3 H3 hM => ?_⟩
    · refine ⟨.ref Pl, rfl, .ref b, rfl, .ref Pl, rfl, Pl, _, rfl, .inl (sq_of hP), b, _, rfl, B2, by omega, fun H3 r3 k3 B3 lo3 hi3 => ?_⟩
      have hP3 := keepL hP B2 k3 f0
      obtain ⟨v, hv, ev⟩ := at_mem lo3 hi3
      refine ⟨Pl, _, r3, v, rfl, rfl, sq_of hP3, ev, ?_⟩
      refine ⟨.ref Pl, rfl, .ref b, rfl, .ref Pl, rfl, Pl, _, rfl, .inl (sq_of hP3), b, _, rfl, B3, by omega, fun H4 r4 k4 B4 lo4 hi4 => ?_⟩
      have hP4 := keepL hP3 B3 k4 f0
      obtain ⟨v', hv', ev'⟩ := at_mem lo4 hi4
      exact ⟨Pl, _, r4, v', rfl, rfl, sq_of hP4, ev', _, _, rfl, (kb2.trans k3).trans k4, B4, v, v', flat_places m v hv, flat_places m v' hv', rfl⟩
    obtain ⟨kb3, B3, v, v', hv, hv', eσ⟩ := hM
    subst eσ
    clear hP kb2 B2 nPl sP hl nZ sZ nR4 sR4 nR sR kb1 B1 hB
    -- go
    refine ⟨fun σ H' => Kb b H H' ∧ Bag H' b ∧ ∃ v, FlatV v ∧ (word = "go" → ∀ H, ∃ d, Th H v d ∧ goD d) ∧ σ = [some (.ref b), some (.int (m : Nat)), some (.str word), some (.ref Pl), some v, some v'], ?_, fun σ4 H4 hM => ?_⟩
    · rcases hw with rfl | rfl | rfl | rfl
      · refine ⟨.str "go", rfl, rfl, true, rfl, iteT ?_⟩
        refine ⟨.ref b, rfl, b, 40, rfl, B3, by decide, fun H4 r4 k4 B4 lo4 hi4 => ⟨1, r4, rfl, rfl, .ref b, rfl, b, 40, rfl, B4, by decide, fun H5 r5 k5 B5 lo5 hi5 => ⟨1, r5, rfl, rfl, 10, 12, rfl, rfl, ⟨by decide, by decide⟩, 1000000000000, 1, rfl, rfl, by show 6 ≤ sizeLine; decide, fun G nG => ?_⟩⟩⟩
        have sG := same_new (o := .lst [.int (1 + r4), .int (1 + r5), .int 0, .non, .bl true, .int (1000000000000 + 1)]) nG
        refine ⟨.ref b, rfl, b, 6, rfl, B5.same sG, by decide, fun H6 r6 k6 B6 lo6 hi6 => ?_⟩
        have hG : H6 G = some (.lst [.int (1 + r4), .int (1 + r5), .int 0, .non, .bl true, .int (1000000000000 + 1)]) := keepL upd_same (B5.same sG) k6 (by intro d z; cases z)
        obtain ⟨v, hv, ev⟩ := at_mem (xs := [.int (1 + r4), .int (1 + r5), .int 0, .non, .bl true, .int (1000000000000 + 1)]) lo6 hi6
        refine ⟨G, _, r6, v, rfl, rfl, sq_of hG, ev, (kb3.trans k4).trans (k5.trans ((Kb.of sG).trans k6)), B6, v, ?_, fun _ H => ?_, rfl⟩
        · simp only [List.mem_cons, List.not_mem_nil, or_false] at hv
          rcases hv with rfl | rfl | rfl | rfl | rfl | rfl
          · exact .inl ⟨_, rfl⟩
          · exact .inl ⟨_, rfl⟩
          · exact .inl ⟨_, rfl⟩
          · exact .inr (.inl rfl)
          · exact .inr (.inr ⟨_, rfl⟩)
          · exact .inl ⟨_, rfl⟩
        · simp only [List.mem_cons, List.not_mem_nil, or_false] at hv
          rcases hv with rfl | rfl | rfl | rfl | rfl | rfl
          · exact ⟨_, .int _, .inl ⟨_, rfl, by omega, by omega⟩⟩
          · exact ⟨_, .int _, .inl ⟨_, rfl, by omega, by omega⟩⟩
          · exact ⟨_, .int _, .inr (by decide)⟩
          · exact ⟨_, .non, .inr rfl⟩
          · exact ⟨_, .bl _, .inr rfl⟩
          · exact ⟨_, .int _, .inr (by decide)⟩
      · exact ⟨.str "come", rfl, rfl, false, congrArg V.bl s_cg, iteF ⟨kb3, B3, v, hv, fun z => absurd z (by decide +kernel), rfl⟩⟩
      · exact ⟨.str "leave", rfl, rfl, false, congrArg V.bl s_lg, iteF ⟨kb3, B3, v, hv, fun z => absurd z (by decide +kernel), rfl⟩⟩
      · exact ⟨.str "change", rfl, rfl, false, congrArg V.bl s_hg, iteF ⟨kb3, B3, v, hv, fun z => absurd z (by decide +kernel), rfl⟩⟩
    obtain ⟨kb4, B4, v, hv, hgo, eσ⟩ := hM
    subst eσ
    -- come
    refine ⟨fun σ H' => Kb b H H' ∧ Bag H' b ∧ ∃ v d, Th H' v d ∧ WordOk word d ∧ σ = [some (.ref b), some (.int (m : Nat)), some (.str word), some (.ref Pl), some v, some v'], ?_, fun σ5 H5 hM => ?_⟩
    · rcases hw with rfl | rfl | rfl | rfl
      · obtain ⟨d, hd, hg⟩ := hgo rfl H4
        exact ⟨.str "go", rfl, rfl, false, congrArg V.bl s_gc, iteF ⟨kb4, B4, v, d, hd, .inl ⟨rfl, hg⟩, rfl⟩⟩
      · refine ⟨.str "come", rfl, rfl, true, rfl, iteT ?_⟩
        refine ⟨.ref b, rfl, b, 9, rfl, B4, by decide, by decide, fun H5 t e c k5 B5 nt ht okt le => ⟨by show 1 ≤ sizeLine; decide, fun L1 nL1 => ⟨L1, 6, _, rfl, rfl, upd_same, by decide, by decide, by show 6 ≤ sizeLine; decide, fun L6 nL6 => ?_⟩⟩⟩
        have a1 := same_new (o := .lst [.ref t]) nL1
        have a2 := same_new (o := .lst (List.replicate (6 : Int).toNat [V.ref t]).flatten) nL6
        refine ⟨by show 2 ≤ sizeLine; decide, fun t1 n1 => ⟨by show 2 ≤ sizeLine; decide, fun t2 n2 => ⟨by show 1 ≤ sizeLine; decide, fun t3 n3 => ⟨by show 2 ≤ sizeLine; decide, fun t4 n4 => ⟨by show 2 ≤ sizeLine; decide, fun t5 n5 => ⟨by show 6 ≤ sizeLine; decide, fun M nM => ?_⟩⟩⟩⟩⟩⟩
        have c1 := same_new (o := .tup [.int 1, .int 0]) n1
        have c2 := same_new (o := .tup [.int 3, .int 3]) n2
        have c3 := same_new (o := .tup [.int 2]) n3
        have c4 := same_new (o := .lst [.int 2, .int 0]) n4
        have c5 := same_new (o := .tup [.int 2, .bl true]) n5
        have c6 := same_new (o := .lst [.non, .ref t1, .ref t2, .ref t3, .ref t4, .ref t5]) nM
        refine ⟨L6, M, _, _, rfl, rfl, c6 _ _ (c5 _ _ (c4 _ _ (c3 _ _ (c2 _ _ (c1 _ _ upd_same))))), upd_same, by show 12 ≤ sizeLine; decide, fun W nW => ?_⟩
        have c7 := same_new (o := .lst ((List.replicate (6 : Int).toNat [V.ref t]).flatten ++ [.non, .ref t1, .ref t2, .ref t3, .ref t4, .ref t5])) nW
        have d5 := c6.trans c7
        have d4 := c5.trans d5
        have d3 := c4.trans d4
        have d2 := c3.trans d3
        have d1 := c2.trans d2
        have d0 := c1.trans d1
        have da := a2.trans d0
        have g0 := (a1.trans da) _ _ ht
        have g1 := d1 _ _ (upd_same (a := t1) (o := .tup [.int 1, .int 0]))
        have g2 := d2 _ _ (upd_same (a := t2) (o := .tup [.int 3, .int 3]))
        have g3 := d3 _ _ (upd_same (a := t3) (o := .tup [.int 2]))
        have g4 := d4 _ _ (upd_same (a := t4) (o := .lst [.int 2, .int 0]))
        have g5 := d5 _ _ (upd_same (a := t5) (o := .tup [.int 2, .bl true]))
        have kW := (kb4.trans k5).trans (Kb.of (b := b) (a1.trans da))
        have BW := B5.same (a1.trans da)
        have hW := upd_same (H := (upd (upd (upd (upd (upd (upd (upd (upd H5 L1 (.lst [.ref t])) L6 (.lst (List.replicate (6 : Int).toNat [V.ref t]).flatten)) t1 (.tup [.int 1, .int 0])) t2 (.tup [.int 3, .int 3])) t3 (.tup [.int 2])) t4 (.lst [.int 2, .int 0])) t5 (.tup [.int 2, .bl true])) M (.lst [.non, .ref t1, .ref t2, .ref t3, .ref t4, .ref t5]))) (a := W) (o := .lst ((List.replicate (6 : Int).toNat [V.ref t]).flatten ++ [.non, .ref t1, .ref t2, .ref t3, .ref t4, .ref t5]))
        clear a1 a2 c1 c2 c3 c4 c5 c6 c7 d5 d4 d3 d2 d1 d0 da
        generalize upd (upd (upd (upd (upd (upd (upd (upd (upd H5 L1 (.lst [.ref t])) L6 (.lst (List.replicate (6 : Int).toNat [V.ref t]).flatten)) t1 (.tup [.int 1, .int 0])) t2 (.tup [.int 3, .int 3])) t3 (.tup [.int 2])) t4 (.lst [.int 2, .int 0])) t5 (.tup [.int 2, .bl true])) M (.lst [.non, .ref t1, .ref t2, .ref t3, .ref t4, .ref t5])) W (.lst ((List.replicate (6 : Int).toNat [V.ref t]).flatten ++ [.non, .ref t1, .ref t2, .ref t3, .ref t4, .ref t5])) = H6 at g0 g1 g2 g3 g4 g5 kW BW hW ⊢
        refine ⟨.ref b, rfl, b, 12, rfl, BW, by decide, fun H7 r7 k7 B7 lo7 hi7 => ?_⟩
        have hW7 := k7 _ _ (ne_bag2 hW BW (by intro d z; cases z)) hW
        have tk7 : ∀ a xs, H6 a = some (.tup xs) → H7 a = some (.tup xs) := fun a xs h => k7 _ _ (ne_bagT h BW) h
        have g4' := keepL g4 BW k7 (by intro d z; cases z)
        obtain ⟨v, hv, ev⟩ := at_mem (xs := (List.replicate (6 : Int).toNat [V.ref t]).flatten ++ [V.non, .ref t1, .ref t2, .ref t3, .ref t4, .ref t5]) lo7 (by rw [show ((List.replicate (6 : Int).toNat [V.ref t]).flatten ++ [V.non, .ref t1, .ref t2, .ref t3, .ref t4, .ref t5]).length = 12 from rfl]; exact hi7)
        refine ⟨W, _, r7, v, rfl, rfl, sq_of hW7, ev, kW.trans k7, B7, v, ?_⟩
        have fin : ∀ d, Th H7 v d → ∃ d, Th H7 v d ∧ WordOk "come" d ∧ ([some (.ref b), some (.int (m : Nat)), some (.str "come"), some (.ref Pl), some v, some v'] : L2.St) = [some (.ref b), some (.int (m : Nat)), some (.str "come"), some (.ref Pl), some v, some v'] := fun d h => ⟨d, h, .inr (.inl rfl), rfl⟩
        rcases List.mem_append.mp hv with h | h
        · obtain ⟨l, hl, hm⟩ := List.mem_flatten.mp h
          rw [(List.mem_replicate.mp hl).2] at hm
          rw [List.mem_singleton.mp hm]
          rw [List.mem_singleton.mp hm] at fin
          exact fin _ (.tk (e, c) (tk7 _ _ g0))
        · simp only [List.mem_cons, List.not_mem_nil, or_false] at h
          rcases h with rfl | rfl | rfl | rfl | rfl | rfl
          · exact fin _ .non
          · exact fin _ (.tk (1, 0) (tk7 _ _ g1))
          · exact fin _ (.tk (3, 3) (tk7 _ _ g2))
          · exact fin _ (.one 2 (tk7 _ _ g3))
          · exact fin _ (.lst 2 0 g4')
          · exact fin _ (.two 2 true (tk7 _ _ g5))
      · obtain ⟨d, hd⟩ := hv.th H4
        exact ⟨.str "leave", rfl, rfl, false, congrArg V.bl s_lc, iteF ⟨kb4, B4, v, d, hd, .inr (.inr (.inl rfl)), rfl⟩⟩
      · obtain ⟨d, hd⟩ := hv.th H4
        exact ⟨.str "change", rfl, rfl, false, congrArg V.bl s_hc, iteF ⟨kb4, B4, v, d, hd, .inr (.inr (.inr rfl)), rfl⟩⟩
    obtain ⟨kb5, B5, v, d, hv, hwo, eσ⟩ := hM
    subst eσ
    refine ⟨.str word, rfl, v, rfl, v', rfl, by show 3 ≤ sizeLine; decide, fun q' nq => ?_⟩
    have sq := same_new (o := .tup [.str word, v, v']) nq
    obtain ⟨d', hd'⟩ := hv'.th (upd H5 q' (.tup [.str word, v, v']))
    exact q _ q' word d d' (kb5.trans (Kb.of sq)) (B5.same sq) ⟨v, v', upd_same, hv.keep (Sd.of sq), hd'⟩ hwo

/-! the law -/
theorem div_split {e c m n : Int} (he : 0 < e) : (c + (m + n)) / e = (c + m) / e + ((c + m) % e + n) / e ∧ (c + (m + n)) % e = ((c + m) % e + n) % e := by
  have h1 := Int.mul_ediv_add_emod (c + m) e
  have hL : c + (m + n) = ((c + m) % e + n) + e * ((c + m) / e) := by omega
  constructor
  · rw [hL, Int.add_mul_ediv_left _ _ (Int.ne_of_gt he)]
    omega
  · rw [hL, Int.add_mul_emod_self_left]
/-- m pieces, and then n more -/
theorem split_on : ∀ (r : List (Int × Int)) (m n : Int), (∀ ec ∈ r, okT ec) → takenF r (m + n) = List.zipWith (· + ·) (takenF r m) (takenF (stB r m) n) ∧ stB r (m + n) = stB (stB r m) n ∧ comeF r r.length (m + n) = comeF r r.length m + comeF (stB r m) (stB r m).length n
  | [], m, n, _ => ⟨rfl, rfl, rfl⟩
  | (e, c) :: r, m, n, ok => by
    have he : (0 : Int) < e := by have := (ok (e, c) List.mem_cons_self).1; simp at this; omega
    obtain ⟨g1, g2⟩ := div_split (c := c) (m := m) (n := n) he
    obtain ⟨i1, i2, i3⟩ := split_on r (m - (c + m) / e) (n - ((c + m) % e + n) / e) (fun ec hm => ok ec (List.mem_cons_of_mem _ hm))
    have en : m + n - (c + (m + n)) / e = (m - (c + m) / e) + (n - ((c + m) % e + n) / e) := by rw [g1]; omega
    refine ⟨?_, ?_, ?_⟩
    · show (c + (m + n)) / e :: takenF r (m + n - (c + (m + n)) / e) = ((c + m) / e + ((c + m) % e + n) / e) :: List.zipWith (· + ·) (takenF r (m - (c + m) / e)) (takenF (stB r (m - (c + m) / e)) (n - ((c + m) % e + n) / e))
      rw [en, i1, g1]
    · show (e, (c + (m + n)) % e) :: stB r (m + n - (c + (m + n)) / e) = (e, ((c + m) % e + n) % e) :: stB (stB r (m - (c + m) / e)) (n - ((c + m) % e + n) / e)
      rw [en, i2, g2]
    · show comeF r r.length (m + n - (c + (m + n)) / e) = comeF r r.length (m - (c + m) / e) + comeF (stB r (m - (c + m) / e)) (stB r (m - (c + m) / e)).length (n - ((c + m) % e + n) / e)
      rw [en, i3]
theorem does_ok {r : List (Int × Int)} {n k : Int} {word : Str} {d d' : PyData} {r' : List (Int × Int)} {n' k' : Int} {ret : Option (List Int)} (h : Does r n k word d d' (.ok r' n' k' ret)) (ok : ∀ ec ∈ r, okT ec) (h8 : r.length ≤ 8) : (∀ ec ∈ r', okT ec) ∧ r'.length ≤ 8 := by
  cases h with
  | go m _ _ => exact ⟨stB_ok ok m, by rw [stB_len]; exact h8⟩
  | come x okx hl =>
    refine ⟨fun ec hm => ?_, by simp; omega⟩
    rcases List.mem_append.mp hm with z | z
    · exact ok _ z
    · rw [List.mem_singleton.mp z]; exact okx
  | leave j hj =>
    refine ⟨fun ec hm => ?_, by simp; omega⟩
    rcases List.mem_append.mp hm with z | z
    · exact ok _ (List.mem_of_mem_take z)
    · exact ok _ (List.mem_of_mem_drop z)
  | chg i j hi hj =>
    have ri := List.getElem?_eq_getElem hi
    have rj := List.getElem?_eq_getElem hj
    have es : swapL r i j = (r.set i r[j]).set j r[i] := by
      unfold swapL
      rw [ri, rj]
    rw [es]
    refine ⟨fun ec hm => ?_, by simp; exact h8⟩
    rcases List.mem_or_eq_of_mem_set hm with z | z
    · rcases List.mem_or_eq_of_mem_set z with z | z
      · exact ok _ z
      · rw [z]; exact ok _ (List.getElem_mem hj)
    · rw [z]; exact ok _ (List.getElem_mem hi)
theorem kit_tupC {K : PySem.W.Frag} {C : Addr} (hd : PySem.W.hasDictIn K C = true) (ht : PySem.W.typeIn K (.ref C) = some (.type "type")) (hs : PySem.W.subIn K (.type "tuple") (.ref C) = some false) : PySem.W.kitOne K (.type "tuple") (.ref C) = some false := by
  unfold PySem.W.kitOne
  rw [if_neg (by intro z; have := beq_iff_eq.mp z; cases this)]
  obtain ⟨cd, hc, _⟩ := PySem.W.any_some hd
  show (if ((PySem.W.clsIn K C).isSome && PySem.W.typeIn K (.ref C) == some (.type "type")) = true then PySem.W.subIn K (.type "tuple") (.ref C) else none) = some false
  rw [if_pos (by rw [hc, ht]; rfl)]
  exact hs
def spBEqT : Sp := fun vs H Q _ => ∃ (p t : Addr) (xs : List V), vs = [.ref p, .ref t] ∧ H t = some (.tup xs) ∧ Q (.bl false) H
theorem okT_Belt___eq__ (T : Top K mg) : FnOk P w K mg base CX0 1 T.a_Belt___eq__ T.fd_Belt___eq__ ["self", "other"] spBEqT := by
  refine T.F_Belt___eq__.ok sc_Belt___eq__ (fun vs H Q E h => ?_) (fun cdv A outer s H vs Q E hr h => ?_)
  · obtain ⟨p, t, xs, rfl, _⟩ := h
    rfl
  · obtain ⟨p, t, xs, rfl, ht, q⟩ := h
    refine ⟨_, (pss_cons (ps_if (pt_not (pt_val (pe_callB call_isi (by rfl) T.z_isinstance (by decide +kernel) (pa_cons (pv 1) (pa_cons (pe_glob (v := .ref T.C_Belt) (by rfl) T.g_Belt rfl) pa_nil))))) (pss_one (ps_ret pe_bl)) pss_nil)
      (pss_one (ps_ret (pe_cmpR (op_eqD hr.units) (pe_tup (pa_cons (pe_fld (pv 0) rfl) (pa_cons (pe_fld (pv 0) rfl) (pa_cons (pe_fld (pv 0) rfl) pa_nil)))) (pe_tup (pa_cons (pe_fld (pv 1) rfl) (pa_cons (pe_fld (pv 1) rfl) (pa_cons (pe_fld (pv 1) rfl) pa_nil)))) (nomark _))))), ?_⟩
    have ic := T.ins_Belt
    exact ⟨.ref t, rfl, .ref t, .ref T.C_Belt, _, _, false, rfl, .own _, .base (.tup ht), kit_tupC T.cl_Belt.hd T.ty_Belt T.st_Belt, false, rfl, iteT q⟩
/-- both belts, and the law's own state -/
structure Two (T : Top K mg) (L : Addr) (bs : List Addr) (H : Hp) (p p' S : Addr) (r : List (Int × Int)) (n k : Int) : Prop where
  std : Std H L bs
  tb : LamX.Tabs (TLs T) H
  ne : p ≠ p'
  b1 : BeltAt T.C_Belt H p r n k
  b2 : BeltAt T.C_Belt H p' r n k
  st : StAt H S r n k
  ok : ∀ ec ∈ r, okT ec
  le : r.length ≤ 8
theorem Two.same {T : Top K mg} {L : Addr} {bs : List Addr} {H H' : Hp} {p p' S : Addr} {r : List (Int × Int)} {n k : Int} (h : Two T L bs H p p' S r n k) (s : Same H H') : Two T L bs H' p p' S r n k :=
  ⟨h.std.same s, h.tb.ext s, h.ne, h.b1.same s, h.b2.same s, h.st.keep (Sd.of s), h.ok, h.le⟩
theorem BeltAt.kbag {C : Addr} {H H' : Hp} {b p : Addr} {r : List (Int × Int)} {n k : Int} (h : BeltAt C H p r n k) (hb : Bag H b) (kb : Kb b H H') : BeltAt C H' p r n k := by
  obtain ⟨d, ds, c, h1, _⟩ := id hb
  obtain ⟨dx, t, hp, hR⟩ := h
  exact ⟨dx, t, kb _ _ (ne_of hp h1 (by intro z; cases z)) hp, hR.keep (kb.tup hb)⟩
theorem Two.kb {T : Top K mg} {L : Addr} {bs : List Addr} {H H' : Hp} {p p' S b : Addr} {r : List (Int × Int)} {n k : Int} (h : Two T L bs H p p' S r n k) (hb : b ∈ bs) (kb : Kb b H H') (hn : Bag H' b) : Two T L bs H' p p' S r n k := by
  have B := h.std.b b hb
  refine ⟨h.std.kb hb kb hn, tabs_kb h.tb B kb, h.ne, h.b1.kbag B kb, h.b2.kbag B kb, ?_, h.ok, h.le⟩
  obtain ⟨t, h1, h2⟩ := h.st
  exact ⟨t, kb.tup B _ _ h1, h2.keep (kb.tup B)⟩
theorem Std.sd {H H' : Hp} {L : Addr} {bs : List Addr} (h : Std H L bs) (s : Sd H H') : Std H' L bs := by
  refine ⟨s.2 _ _ h.l, fun b hb => ?_⟩
  obtain ⟨d, ds, c, h1, h2, h3⟩ := h.b b hb
  exact ⟨d, ds, c, s.2 _ _ h1, s.2 _ _ h2, h3⟩
theorem BeltAt.otherN {C : Addr} {H H' : Hp} {p q : Addr} {r : List (Int × Int)} {n k : Int} (h : BeltAt C H q r n k) (kb : KbN p H H') (hne : q ≠ p) (sd : Sd H H') : BeltAt C H' q r n k := by
  obtain ⟨dx, t, h1, h2⟩ := h
  exact ⟨dx, t, kb _ _ hne h1 (fun _ z => by cases z), h2.keep sd.1⟩
/-- what is due -/
def DueAt (H : Hp) (v : V) : Outc → Prop
  | .no j => ∃ kn, v = .ref kn ∧ H kn = some (.lst [.str (kname j), .bl true])
  | .ok r' n' k' ret => ∃ u S' x, v = .ref u ∧ H u = some (.tup [.ref S', x]) ∧ StAt H S' r' n' k' ∧ RetV H x ret
theorem RetV.sd {H H' : Hp} {v : V} {ret : Option (List Int)} (h : RetV H v ret) (s : Sd H H') : RetV H' v ret := by
  cases ret with
  | none => exact h
  | some xs =>
    obtain ⟨q, e, hq⟩ := h
    exact ⟨q, e, s.2 _ _ hq⟩
theorem DueAt.sd {H H' : Hp} {v : V} {o : Outc} (h : DueAt H v o) (s : Sd H H') : DueAt H' v o := by
  cases o with
  | no j =>
    obtain ⟨kn, e, hk⟩ := h
    exact ⟨kn, e, s.2 _ _ hk⟩
  | ok r' n' k' ret =>
    obtain ⟨u, S', x, e, hu, hS, hR⟩ := h
    exact ⟨u, S', x, e, s.1 _ _ hu, hS.keep s, hR.sd s⟩
/-- what was told of a deed -/
def Told (T : Top K mg) (L : Addr) (bs : List Addr) (H : Hp) (p p' S : Addr) (r : List (Int × Int)) (n k : Int) (x kn : V) : Outc → Prop
  | .no j => Two T L bs H p p' S r n k ∧ x = .non ∧ ∃ a, kn = .ref a ∧ H a = some (.lst [.str (kname j), .bl true])
  | .ok r' n' k' ret => Std H L bs ∧ LamX.Tabs (TLs T) H ∧ p ≠ p' ∧ BeltAt T.C_Belt H p r' n' k' ∧ BeltAt T.C_Belt H p' r n k ∧ RetV H x ret ∧ ∃ a, kn = .ref a ∧ H a = some (.lst [])
theorem Told.same {T : Top K mg} {L : Addr} {bs : List Addr} {H H' : Hp} {p p' S : Addr} {r : List (Int × Int)} {n k : Int} {x kn : V} {o : Outc} (h : Told T L bs H p p' S r n k x kn o) (s : Same H H') : Told T L bs H' p p' S r n k x kn o := by
  cases o with
  | no j =>
    obtain ⟨h1, h2, a, h3, h4⟩ := h
    exact ⟨h1.same s, h2, a, h3, s _ _ h4⟩
  | ok r' n' k' ret =>
    obtain ⟨h1, h2, h3, h4, h5, h6, a, h7, h8⟩ := h
    exact ⟨h1.same s, h2.ext s, h3, h4.same s, h5.same s, h6.sd (Sd.of s), a, h7, s _ _ h8⟩
def kD (j : Nat) : PyData := .list [.str (kname j), .bool true]
theorem shp_kin (j : Nat) : SeqAt.shaped (kD j) = true := by
  unfold kD kname
  split <;> decide +kernel
theorem lay_kin (j : Nat) : PyData.canLay0 (kD j) = true := by
  unfold kD kname
  split <;> decide +kernel
theorem dp_kin {H : Hp} {a : Addr} {j : Nat} (h : H a = some (.lst [.str (kname j), .bl true])) : Dp K H (.ref a) (kD j) := .lst (sq_of h) (.cons (.str _) (.cons (.bl _) .nil))
theorem shp_ret (ret : Option (List Int)) : SeqAt.shaped (retD ret) = true := by
  cases ret with
  | none => rfl
  | some xs => exact shp_ints xs
theorem eqv_ret (ret : Option (List Int)) : PyData.eqv (retD ret) (retD ret) = true := by
  cases ret with
  | none => rfl
  | some xs =>
    show PyData.eqv (.list (xs.map PyData.int)) (.list (xs.map PyData.int)) = true
    rw [eqv_list, decide_eq_true rfl]
theorem mk_same {H H' : Hp} {x dx : Addr} {o1 o2 : HO} (nx : H x = none) (nd : H dx = none) (kb : Kb x (upd (upd H dx o1) x o2) H') : Same H H' := fun a o h => kb _ _ (ne_of_none h nx) (by rw [upd_ne (ne_of_none h nx), upd_ne (ne_of_none h nd)]; exact h)
theorem ok_law (T : Top K mg) (TB : ∀ p ∈ cs0 T, LamX.TabB base mg p.1 p.2) : FnOk P w K mg base CX0 11 T.a_law T.fd_law ["script"] (spLawT K T) := by
  have TB__law_done : LamX.TabB base mg T.cc__law_done T.pt__law_done := TB _ (List.mem_singleton.mpr rfl)
  refine T.F_law.ok sc_law (fun vs H Q E h => ?_) (fun cdv A outer s H vs Q E hr h => ?_)
  · obtain ⟨a, ns, rfl, _⟩ := h
    rfl
  · obtain ⟨a, ns, rfl, hS, hlen, hT, q⟩ := h
    refine ⟨_, (pss_cons (ps_for PassesOwn.never rfl (pi_list (pe_call (ok__law_bags T) (hr.mono (by decide)) (by rfl) T.g__law_bags T.F__law_bags.kp T.b__law_bags .nil pass0 (pa_cons (pv 0) (pa_cons pe_int pa_nil)))) (pg_name (i := 1) sc_law.nd rfl (.inl rfl))
        (C8.pss_cut (ps_par3 (by rfl) sc_law.nd (i := 6) (j := 7) (l := 8) rfl rfl rfl (by decide) (by decide) (by decide) rfl rfl rfl (pa_cons (pe_make0 T.mk_Belt (ok_Belt___init__ T) (hr.mono (by decide)) (by rfl) T.g_Belt T.b_Belt___init__ .nil pass0) (pa_cons (pe_make0 T.mk_Belt (ok_Belt___init__ T) (hr.mono (by decide)) (by rfl) T.g_Belt T.b_Belt___init__ .nil pass0) (pa_cons (pe_tup (pa_cons (pe_tup pa_nil) (pa_cons pe_int (pa_cons pe_int pa_nil)))) pa_nil))) (by rfl))
      (C8.pss_cut (ps_for PassesOwn.never rfl (pi_range1 (by rfl) T.z_range (pa_cons (pe_call (ok__law_take T) (hr.mono (by decide)) (by rfl) T.g__law_take T.F__law_take.kp T.b__law_take .nil pass0 (pa_cons (pv 1) (pa_cons pe_int pa_nil))) pa_nil)) (pg_name (i := 2) sc_law.nd rfl (.inl rfl))
        (C8.pss_cut (ps_set (i := 9) sc_law.nd rfl (.inl rfl) (pe_call (ok__law_a_deed T) (hr.mono (by decide)) (by rfl) T.g__law_a_deed T.F__law_a_deed.kp T.b__law_a_deed .nil pass0 (pa_cons (pv 1) (pa_cons (pe_callB call_len_seq (by rfl) T.z_len (by decide +kernel) (pa_cons (pe_ix ix_tup (pv 8) pe_int (fun _ _ => rfl)) pa_nil)) pa_nil))))
      (C8.pss_cut (ps_set (i := 5) sc_law.nd rfl (.inl rfl) (pe_call (ok__law_after T) (hr.mono (by decide)) (by rfl) T.g__law_after T.F__law_after.kp T.b__law_after .nil pass0 (pa_cons (pv 8) (pa_cons (pv 9) pa_nil))))
      (C8.pss_cut (ps_asg (pe_call (ok__law_done T TB__law_done) (hr.mono (by decide)) (by rfl) T.g__law_done T.F__law_done.kp T.b__law_done .nil pass0 (pa_cons (pv 6) (pa_cons (pv 9) pa_nil))) (pg_tup (by rfl) (pgs_cons (pg_name (i := 12) sc_law.nd rfl (.inl rfl)) (pgs_cons (pg_name (i := 13) sc_law.nd rfl (.inl rfl)) pgs_nil))))
      (C8.pss_cut (ps_if (PW.pt (pw_or (pt_cmpR (op_neD hr.units) (pv 13) (pe_ifExp (pt_val (pe_callB call_isi (by rfl) T.z_isinstance (by decide +kernel) (pa_cons (pv 5) (pa_cons (pe_bltn (v := .ty "list") (by rfl) T.z_list (by decide +kernel) rfl) pa_nil)))) (pv 5) (pe_lst pa_nil)) (nomark _)) (pw_or1 (PW.pt (pw_and (pt_cmpR (op_eqD hr.units) (pv 13) (pe_lst pa_nil) (nomark _)) (pw_and1 (pt_cmpR (op_neD hr.units) (pv 12) (pe_ix ix_tup (pv 5) pe_int (fun _ _ => rfl)) (nomark _)))))))) (pss_one (ps_ret pe_bl)) pss_nil)
      (C8.pss_cut (ps_if (pt_cmpR (op_eqD hr.units) (pv 13) (pe_lst pa_nil) (nomark _)) (pss_cons (ps_set (i := 8) sc_law.nd rfl (.inl rfl) (pe_ix ix_tup (pv 5) pe_int (fun _ _ => rfl)))
      (pss_one (ps_expr (pe_call (ok__law_done T TB__law_done) (hr.mono (by decide)) (by rfl) T.g__law_done T.F__law_done.kp T.b__law_done .nil pass0 (pa_cons (pv 7) (pa_cons (pv 9) pa_nil)))))) pss_nil)
      (C8.pss_cut (ps_if (PW.pt (pw_or (pt_cmpR (op_neD hr.units) (pe_tup (pa_cons (pe_meth0 (pv 6) T.cl_Belt T.m_Belt_row (ok_Belt_row T) (hr.mono (by decide)) T.b_Belt_row .nil pass0) (pa_cons (pe_meth0 (pv 6) T.cl_Belt T.m_Belt_gone (ok_Belt_gone T) (hr.mono (by decide)) T.b_Belt_gone .nil pass0) (pa_cons (pe_meth0 (pv 6) T.cl_Belt T.m_Belt_left_over (ok_Belt_left_over T) (hr.mono (by decide)) T.b_Belt_left_over .nil pass0) pa_nil)))) (pv 8) (nomark _)) (pw_or1 (pt_cmpR op_ne (pe_callB (call_lenOwn (ok_Belt___len__ T) T.m_Belt___len__.at_ T.m_Belt___len__.fn T.b_Belt___len__ pass0 (hr.mono (by decide))) (by rfl) T.z_len (by decide +kernel) (pa_cons (pv 6) pa_nil)) (pe_callB call_len_seq (by rfl) T.z_len (by decide +kernel) (pa_cons (pe_ix ix_tup (pv 8) pe_int (fun _ _ => rfl)) pa_nil)) (nomark _))))) (pss_one (ps_ret pe_bl)) pss_nil)
      (pss_one (ps_if (PW.pt (pw_or (pt_not (pt_cmpR (op_ownEq (ok_Belt___eq__ T) T.m_Belt___eq__.at_ T.m_Belt___eq__.fn T.b_Belt___eq__ pass0 (hr.mono (by decide))) (pv 6) (pv 7) (nomark _))) (pw_or1 (pt_cmpR (op_ownEq (okT_Belt___eq__ T) T.m_Belt___eq__.at_ T.m_Belt___eq__.fn T.b_Belt___eq__ pass0 (hr.mono (by decide))) (pv 6) (pe_ix ix_tup (pv 8) pe_int (fun _ _ => rfl)) (nomark _))))) (pss_one (ps_ret pe_bl)) pss_nil)))))))))
      (C8.pss_cut (ps_set (i := 3) sc_law.nd rfl (.inl rfl) (pe_op op_add pe_int (pe_call (ok__law_far_draw T) (hr.mono (by decide)) (by rfl) T.g__law_far_draw T.F__law_far_draw.kp T.b__law_far_draw .nil pass0 (pa_cons (pv 1) (pa_cons (pe_op op_sub (pe_op op_pow pe_int pe_int) pe_int) pa_nil)))))
      (C8.pss_cut (ps_set (i := 4) sc_law.nd rfl (.inl rfl) (pe_op op_add pe_int (pe_call (ok__law_far_draw T) (hr.mono (by decide)) (by rfl) T.g__law_far_draw T.F__law_far_draw.kp T.b__law_far_draw .nil pass0 (pa_cons (pv 1) (pa_cons (pe_op op_sub (pv 3) pe_int) pa_nil)))))
      (C8.pss_cut (ps_set (i := 5) sc_law.nd rfl (.inl rfl) (pe_call (ok_taken T) (hr.mono (by decide)) (by rfl) T.g_taken T.F_taken.kp T.b_taken .nil pass0 (pa_cons (pe_meth0 (pv 6) T.cl_Belt T.m_Belt_row (ok_Belt_row T) (hr.mono (by decide)) T.b_Belt_row .nil pass0) (pa_cons (pv 3) pa_nil))))
      (C8.pss_cut (ps_if (pt_cmpR (op_neD hr.units) (pe_meth (pv 6) T.cl_Belt T.m_Belt_go_by (ok_Belt_go_by T) (hr.mono (by decide)) T.b_Belt_go_by .nil pass0 (pa_cons (pv 3) pa_nil)) (pv 5) (nomark _)) (pss_one (ps_ret pe_bl)) pss_nil)
      (C8.pss_cut (ps_par (by rfl) sc_law.nd (i := 10) (j := 11) rfl rfl (by decide) rfl rfl (pa_cons (pe_meth (pv 7) T.cl_Belt T.m_Belt_go_by (ok_Belt_go_by T) (hr.mono (by decide)) T.b_Belt_go_by .nil pass0 (pa_cons (pv 4) pa_nil)) (pa_cons (pe_meth (pv 7) T.cl_Belt T.m_Belt_go_by (ok_Belt_go_by T) (hr.mono (by decide)) T.b_Belt_go_by .nil pass0 (pa_cons (pe_op op_sub (pv 3) (pv 4)) pa_nil)) pa_nil)) (by rfl))
      (C8.pss_cut (ps_if (pt_cmpR (op_neD hr.units) (pe_lc (g := (gTup K 2 (gCons (gName 14) (gCons (gName 15) gNil)))) (own := [("one", 14), ("two", 15)]) (by rfl) sc_law.nd (pi_zip (by rfl) T.z_zip (pa_cons (pv 10) (pa_cons (pv 11) pa_nil)))
        (blkOk_by (own := [("one", 14), ("two", 15)]) (N := ["script", "bag", "turn", "far", "part", "due", "belt", "other", "state", "deed", "some", "rest", "told", "kin", "one", "two"]) (sc := defScope s_law) (by decide +kernel))
        (fun _ _ _ _ _ => (pg_tup (by rfl) (pgs_cons (pg_name (i := 14) sc_law.nd rfl (.inl rfl)) (pgs_cons (pg_name (i := 15) sc_law.nd rfl (.inl rfl)) pgs_nil)))) (fun _ _ _ _ _ => pts_nil) (fun _ _ _ _ _ => (pe_op op_add (pv 14) (pv 15)))) (pv 5) (nomark _)) (pss_one (ps_ret pe_bl)) pss_nil)
      (pss_cons (ps_if (PW.pt (pw_or (pt_not (pt_cmpR (op_ownEq (ok_Belt___eq__ T) T.m_Belt___eq__.at_ T.m_Belt___eq__.fn T.b_Belt___eq__ pass0 (hr.mono (by decide))) (pv 6) (pv 7) (nomark _))) (pw_or (pt_cmpR op_ne (pe_meth0 (pv 6) T.cl_Belt T.m_Belt_gone (ok_Belt_gone T) (hr.mono (by decide)) T.b_Belt_gone .nil pass0) (pe_op op_add (pe_ix ix_tup (pv 8) pe_int (fun _ _ => rfl)) (pv 3)) (nomark _)) (pw_or1 (pt_cmpR op_ne (pe_meth0 (pv 6) T.cl_Belt T.m_Belt_left_over (ok_Belt_left_over T) (hr.mono (by decide)) T.b_Belt_left_over .nil pass0) (pe_op op_add (pe_ix ix_tup (pv 8) pe_int (fun _ _ => rfl)) (pe_ix ix_list (pv 5) (pe_un un_neg pe_int) (fun _ _ => rfl))) (nomark _)))))) (pss_one (ps_ret pe_bl)) pss_nil)
      (pss_cons (ps_expr (pe_meth (pv 6) T.cl_Belt T.m_Belt_go_by (ok_Belt_go_by T) (hr.mono (by decide)) T.b_Belt_go_by .nil pass0 (pa_cons pe_int pa_nil)))
      (pss_one (ps_if (pt_cmpR (op_ownEq (ok_Belt___eq__ T) T.m_Belt___eq__.at_ T.m_Belt___eq__.fn T.b_Belt___eq__ pass0 (hr.mono (by decide))) (pv 6) (pv 7) (nomark _)) (pss_one (ps_ret pe_bl)) pss_nil)))))))))))))
      (pss_one (ps_ret pe_bl))), ?_⟩
    refine ⟨.ref a, rfl, a, ns, 6, rfl, hS, by decide, by decide, fun H1 L bs s1 nL hL hB => ⟨L, rfl, ⟨_, sq_of hL⟩, ?_⟩⟩
    refine for_list (K := K) (a := L) (xs := bs.map V.ref) (fun i σ H' => Std H' L bs ∧ LamX.Tabs (TLs T) H' ∧ ∃ y1 y2 y3 y4 y5 y6 y7 y8 y9 y10 y11 y12 y13 y14 y15, σ = [some (.ref a), y1, y2, y3, y4, y5, y6, y7, y8, y9, y10, y11, y12, y13, y14, y15])
      ⟨⟨hL, hB⟩, hT.ext s1, none, none, none, none, none, none, none, none, none, none, none, none, none, none, none, rfl⟩ (fun i σ H' _ hp => sq_of hp.1.l) (fun i x σ H2 hx hp => ?_) (fun σ H2 hp => q _)
    obtain ⟨std, hT2, y1, y2, y3, y4, y5, y6, y7, y8, y9, y10, y11, y12, y13, y14, y15, rfl⟩ := hp
    rw [List.getElem?_map] at hx
    obtain ⟨b, hb, hxe⟩ := Option.map_eq_some_iff.mp hx
    subst hxe
    have bm : b ∈ bs := List.mem_of_getElem? hb
    refine ⟨fun σ H' => ∃ p p' S, Two T L bs H' p p' S [] 0 0 ∧ σ = [some (.ref a), some (.ref b), y2, y3, y4, y5, some (.ref p), some (.ref p'), some (.ref S), y9, y10, y11, y12, y13, y14, y15], ?_, fun σ3 H3 hM => ?_⟩
    · refine fun p1 dx1 np1 nd1 ne1 => ⟨p1, dx1, rfl, upd_same, fun G1 kb1 hb1 => ⟨rfl, ?_⟩⟩
      refine fun p2 dx2 np2 nd2 ne2 => ⟨p2, dx2, rfl, upd_same, fun G2 kb2 hb2 => ⟨rfl, ?_⟩⟩
      refine ⟨Nat.zero_le _, fun t nt => ⟨by show 3 ≤ sizeLine; decide, fun S nS => ?_⟩⟩
      have m1 := mk_same np1 nd1 kb1
      have m2 := mk_same np2 nd2 kb2
      have st := same_new (o := .tup []) nt
      have sS := same_new (o := .tup [.ref t, .int 0, .int 0]) nS
      have h12 : p1 ≠ p2 := by
        obtain ⟨dx, fs, hp⟩ := hb1.ins
        exact ne_of_none hp np2
      refine ⟨_, _, _, rfl, p1, p2, S, ⟨std.same (m1.trans (m2.trans (st.trans sS))), hT2.ext (m1.trans (m2.trans (st.trans sS))), h12, hb1.same (m2.trans (st.trans sS)), hb2.same (st.trans sS), ⟨t, upd_same, (row0 upd_same).keep (tupS_of sS)⟩, (fun _ h => nomatch h), by decide⟩, rfl⟩
    obtain ⟨p, p', S, two, eσ⟩ := hM
    subst eσ
    refine ⟨fun σ H' => ∃ S r n k, Two T L bs H' p p' S r n k ∧ ∃ y2 y5 y9 y12 y13, σ = [some (.ref a), some (.ref b), y2, y3, y4, y5, some (.ref p), some (.ref p'), some (.ref S), y9, y10, y11, y12, y13, y14, y15], ?_, fun σ4 H4 hM => ?_⟩
    · refine ⟨.ref b, rfl, b, 31, rfl, two.std.b b bm, by decide, fun H4 r4 k4 B4 lo4 hi4 => ⟨r4, rfl, by omega, by omega, ?_⟩⟩
      refine for_range (lo := 0) (n := r4.toNat) (fun i σ H' => ∃ S r n k, Two T L bs H' p p' S r n k ∧ ∃ y2 y5 y9 y12 y13, σ = [some (.ref a), some (.ref b), y2, y3, y4, y5, some (.ref p), some (.ref p'), some (.ref S), y9, y10, y11, y12, y13, y14, y15])
        ⟨S, [], 0, 0, two.kb bm k4 B4, _, _, _, _, _, rfl⟩ (fun i σ H5 _ hp => ?_) (fun σ H5 hp => hp)
      clear two S
      obtain ⟨S, r, n, k, two, y2, y5, y9, y12, y13, rfl⟩ := hp
      -- the deed
      refine ⟨fun σ H' => Two T L bs H' p p' S r n k ∧ ∃ q word d d', DeedAt H' q word d d' ∧ WordOk word d ∧ ∃ y2, σ = [some (.ref a), some (.ref b), y2, y3, y4, y5, some (.ref p), some (.ref p'), some (.ref S), some (.ref q), y10, y11, y12, y13, y14, y15], ?_, fun σ6 H6 hM => ?_⟩
      · obtain ⟨t, hS, hR⟩ := id two.st
        obtain ⟨ts, h1, hpa⟩ := hR.pairs
        refine ⟨.ref b, rfl, .ref S, rfl, S, _, 0, .ref t, rfl, rfl, st_of hS, rfl, t, _, rfl, .inr (st_of h1), b, r.length, by rw [List.length_map, hpa.1]; rfl, two.std.b b bm, two.le, fun H6 q word d d' kb B hd hw => ?_⟩
        exact ⟨two.kb bm kb B, q, word, d, d', hd, hw, _, rfl⟩
      obtain ⟨two, dq, word, d, d', hd, hw, y2, eσ⟩ := hM
      subst eσ
      obtain ⟨o, ho⟩ := does_ex n k d' two.le hw
      -- what is due
      refine ⟨fun σ H' => Two T L bs H' p p' S r n k ∧ DeedAt H' dq word d d' ∧ ∃ v, DueAt H' v o ∧ σ = [some (.ref a), some (.ref b), y2, y3, y4, some v, some (.ref p), some (.ref p'), some (.ref S), some (.ref dq), y10, y11, y12, y13, y14, y15], ?_, fun σ7 H7 hM => ?_⟩
      · refine ⟨.ref S, rfl, .ref dq, rfl, S, dq, word, d, d', r, n, k, o, rfl, two.st, two.ok, two.le, hd, ho, ?_⟩
        cases o with
        | no j => exact fun H' kn sm hk => ⟨two.same sm, hd.keep (Sd.of sm), _, ⟨kn, rfl, hk⟩, rfl⟩
        | ok r' n' k' ret => exact fun H' u S' x sm hu hS hR => ⟨two.same sm, hd.keep (Sd.of sm), _, ⟨u, S', x, rfl, hu, hS, hR⟩, rfl⟩
      obtain ⟨two, hd, dv, hdue, eσ⟩ := hM
      subst eσ
      -- what is told
      refine ⟨fun σ H' => DeedAt H' dq word d d' ∧ DueAt H' dv o ∧ ∃ x kn, Told T L bs H' p p' S r n k x kn o ∧ σ = [some (.ref a), some (.ref b), y2, y3, y4, some dv, some (.ref p), some (.ref p'), some (.ref S), some (.ref dq), y10, y11, some x, some kn, y14, y15], ?_, fun σ8 H8 hM => ?_⟩
      · refine ⟨.ref p, rfl, .ref dq, rfl, p, dq, word, d, d', r, n, k, o, rfl, two.b1, two.ok, two.le, two.tb, hd, ho, ?_⟩
        cases o with
        | no j =>
          refine fun H' t kn kb tb hb ht hk => ⟨t, _, rfl, st_of ht, rfl, _, _, rfl, _, _, rfl, rfl, ?_⟩
          have sd := sd_kbn two.b1 kb
          exact ⟨hd.keep sd, hdue.sd sd, _, _, ⟨⟨two.std.sd sd, tb, two.ne, hb, two.b2.otherN kb two.ne.symm sd, two.st.keep sd, two.ok, two.le⟩, rfl, kn, rfl, hk⟩, rfl⟩
        | ok r' n' k' ret =>
          refine fun H' t x kn kb tb hb ht hR hk => ⟨t, _, rfl, st_of ht, rfl, _, _, rfl, _, _, rfl, rfl, ?_⟩
          have sd := sd_kbn two.b1 kb
          exact ⟨hd.keep sd, hdue.sd sd, _, _, ⟨two.std.sd sd, tb, two.ne, hb, two.b2.otherN kb two.ne.symm sd, hR, kn, rfl, hk⟩, rfl⟩
      obtain ⟨hd, hdue, x, kn, told, eσ⟩ := hM
      subst eσ
      -- told and due are one
      refine ⟨fun σ H' => DeedAt H' dq word d d' ∧ DueAt H' dv o ∧ Told T L bs H' p p' S r n k x kn o ∧ σ = [some (.ref a), some (.ref b), y2, y3, y4, some dv, some (.ref p), some (.ref p'), some (.ref S), some (.ref dq), y10, y11, some x, some kn, y14, y15], ?_, fun σ9 H9 hM => ?_⟩
      · cases o with
        | no j =>
          obtain ⟨two8, ex, ka, ekn, hk⟩ := id told
          obtain ⟨dn, edv, hdn⟩ := id hdue
          subst ekn edv
          refine ⟨.ref ka, rfl, .ref dn, rfl, .ref dn, .ty "list", _, _, true, rfl, .ty _, tyD (dp_kin (K := K) hdn), kit_ty (a := "list") (b := "list") (r := true) (by decide +kernel), true, rfl, iteT ?_⟩
          refine ⟨.ref dn, rfl, kD j, kD j, dp_kin hk, dp_kin hdn, shp_kin j, shp_kin j, false, by rw [SeqAt.eqv_refl _ (lay_kin j)]; rfl, iteF ?_⟩
          refine ⟨.ref ka, rfl, Nat.zero_le _, fun B nB => ?_⟩
          have sB := same_new (o := .lst []) nB
          refine ⟨kD j, .list [], dp_kin (sB _ _ hk), .lst (sq_of upd_same) .nil, shp_kin j, rfl, false, rfl, iteF (iteF ?_)⟩
          exact ⟨hd.keep (Sd.of sB), hdue.sd (Sd.of sB), told.same sB, rfl⟩
        | ok r' n' k' ret =>
          obtain ⟨std8, tb8, ne8, c1, c2, hR, ka, ekn, hk⟩ := id told
          obtain ⟨u, S', x', edv, hu, ⟨t', hS', hR'⟩, hRx⟩ := id hdue
          subst ekn edv
          have dpu : Dp K H8 (.ref u) (.tuple [bD r' n' k', retD ret]) := .tup (st_of hu) (.cons (dp_b hS' hR') (.cons (dp_ret hRx) .nil))
          refine ⟨.ref ka, rfl, .ref u, rfl, .ref u, .ty "list", _, _, false, rfl, .ty _, tyD dpu, kit_ty (a := "tuple") (b := "list") (r := false) (by decide +kernel), false, rfl, iteF ?_⟩
          refine ⟨Nat.zero_le _, fun B nB => ?_⟩
          have sB := same_new (o := .lst []) nB
          refine ⟨.list [], .list [], .lst (sq_of (sB _ _ hk)) .nil, .lst (sq_of upd_same) .nil, rfl, rfl, false, rfl, iteF ?_⟩
          refine ⟨.ref ka, rfl, Nat.zero_le _, fun B2 nB2 => ?_⟩
          have sB2 := sB.trans (same_new (o := .lst []) nB2)
          refine ⟨.list [], .list [], .lst (sq_of (sB2 _ _ hk)) .nil, .lst (sq_of upd_same) .nil, rfl, rfl, true, rfl, iteT ?_⟩
          refine ⟨x, rfl, .ref u, rfl, u, _, 1, x', rfl, rfl, st_of (sB2 _ _ hu), rfl, retD ret, retD ret, dp_ret (hR.sd (Sd.of sB2)), dp_ret (hRx.sd (Sd.of sB2)), shp_ret ret, shp_ret ret, false, by rw [eqv_ret]; rfl, iteF ?_⟩
          exact ⟨hd.keep (Sd.of sB2), hdue.sd (Sd.of sB2), told.same sB2, rfl⟩
      obtain ⟨hd, hdue, told, eσ⟩ := hM
      subst eσ
      -- the other belt
      refine ⟨fun σ H' => ∃ S r n k, Two T L bs H' p p' S r n k ∧ σ = [some (.ref a), some (.ref b), y2, y3, y4, some dv, some (.ref p), some (.ref p'), some (.ref S), some (.ref dq), y10, y11, some x, some kn, y14, y15], ?_, fun σ10 H10 hM => ?_⟩
      · cases o with
        | no j =>
          obtain ⟨two9, ex, ka, ekn, hk⟩ := id told
          subst ekn
          refine ⟨.ref ka, rfl, Nat.zero_le _, fun B nB => ?_⟩
          have sB := same_new (o := .lst []) nB
          exact ⟨kD j, .list [], dp_kin (sB _ _ hk), .lst (sq_of upd_same) .nil, shp_kin j, rfl, false, rfl, iteF ⟨S, r, n, k, two9.same sB, rfl⟩⟩
        | ok r' n' k' ret =>
          obtain ⟨std9, tb9, ne9, c1, c2, hR, ka, ekn, hk⟩ := id told
          obtain ⟨u, S', x', edv, hu, hS', hRx⟩ := id hdue
          subst ekn edv
          obtain ⟨ok', le'⟩ := does_ok ho two.ok two.le
          refine ⟨.ref ka, rfl, Nat.zero_le _, fun B nB => ?_⟩
          have sB := same_new (o := .lst []) nB
          refine ⟨.list [], .list [], .lst (sq_of (sB _ _ hk)) .nil, .lst (sq_of upd_same) .nil, rfl, rfl, true, rfl, iteT ?_⟩
          refine ⟨.ref u, rfl, u, _, 0, .ref S', rfl, rfl, st_of (sB _ _ hu), rfl, ?_⟩
          refine ⟨.ref p', rfl, .ref dq, rfl, p', dq, word, d, d', r, n, k, _, rfl, c2.same sB, two.ok, two.le, tb9.ext sB, hd.keep (Sd.of sB), ho, fun H' t y kn2 kb tb' hb ht hR2 hk2 => ?_⟩
          have sd := sd_kbn (c2.same sB) kb
          exact ⟨S', r', n', k', ⟨(std9.same sB).sd sd, tb', ne9, (c1.same sB).otherN kb ne9 sd, hb, (hS'.keep (Sd.of sB)).keep sd, ok', le'⟩, rfl⟩
      clear two hd hdue told ho hw
      obtain ⟨S, r, n, k, two, eσ⟩ := hM
      subst eσ
      -- the belt and the state
      refine ⟨fun σ H' => Two T L bs H' p p' S r n k ∧ σ = [some (.ref a), some (.ref b), y2, y3, y4, some dv, some (.ref p), some (.ref p'), some (.ref S), some (.ref dq), y10, y11, some x, some kn, y14, y15], ?_, fun σ11 H11 hM => ?_⟩
      · obtain ⟨t, hS, hR⟩ := id two.st
        obtain ⟨ts, h1, hpa⟩ := hR.pairs
        obtain ⟨dr, fr, hr1, hr2⟩ := two.b1.cell "row" (by decide +kernel) (by decide +kernel) (by decide +kernel)
        obtain ⟨dg, fg, hg1, hg2⟩ := two.b1.cell "gone" (by decide +kernel) (by decide +kernel) (by decide +kernel)
        obtain ⟨dl, fl, hl1, hl2⟩ := two.b1.cell "left_over" (by decide +kernel) (by decide +kernel) (by decide +kernel)
        refine ⟨.ref p, rfl, p, dr, fr, rfl, hr1, hr2, p, r, n, k, rfl, two.b1, fun t2 hR2 => ?_⟩
        refine ⟨.ref p, rfl, p, dg, fg, rfl, hg1, hg2, p, r, n, k, rfl, two.b1, ?_⟩
        refine ⟨.ref p, rfl, p, dl, fl, rfl, hl1, hl2, p, r, n, k, rfl, two.b1, by show 3 ≤ sizeLine; decide, fun U nU => ?_⟩
        have sU := same_new (o := .tup [.ref t2, .int n, .int k]) nU
        refine ⟨.ref S, rfl, bD r n k, bD r n k, dp_b upd_same (hR2.keep (tupS_of sU)), dp_b (sU _ _ hS) (hR.keep (tupS_of sU)), shp_b r n k, shp_b r n k, false, by rw [eqv_b, decide_eq_true ⟨rfl, rfl, rfl⟩]; rfl, iteF ?_⟩
        refine ⟨.ref p, rfl, p, dr, fr, rfl, sU _ _ hr1, p, r, n, k, rfl, two.b1.same sU, (r.length : Int), rfl, by omega, by have := two.le; omega, ?_⟩
        refine ⟨.ref S, rfl, S, _, 0, .ref t, rfl, rfl, st_of (sU _ _ hS), rfl, t, _, rfl, .inr (st_of (sU _ _ h1)), rfl, false, ?_, iteF ⟨two.same sU, rfl⟩⟩
        rw [List.length_map, hpa.1, decide_eq_true rfl]
        rfl
      obtain ⟨two, eσ⟩ := hM
      subst eσ
      obtain ⟨t, hS, hR⟩ := id two.st
      obtain ⟨ts, h1, hpa⟩ := hR.pairs
      obtain ⟨dx, fs, hp⟩ := two.b1.ins
      obtain ⟨dx', fs', hp'⟩ := two.b2.ins
      refine ⟨.ref p, rfl, .ref p', rfl, p, dx, fs, _, rfl, hp, .ins hp', p, p', r, r, n, k, n, k, rfl, two.b1, two.b2, fun G sG => ⟨true, congrArg V.bl (by simp), ?_⟩⟩
      refine ⟨true, congrArg V.bl (by simp), iteF ?_⟩
      refine ⟨.ref p, rfl, .ref S, rfl, S, _, 0, .ref t, rfl, rfl, st_of (sG _ _ hS), rfl, p, dx, fs, _, rfl, sG _ _ hp, .tup (sG _ _ h1) T.st_Belt, p, t, _, rfl, sG _ _ h1, false, rfl, false, rfl, iteF ?_⟩
      exact ⟨S, r, n, k, two.same sG, _, _, _, _, _, rfl⟩
    obtain ⟨S, r, n, k, two, y2, y5, y9, y12, y13, eσ⟩ := hM
    subst eσ
    -- how far
    refine ⟨fun σ H' => Two T L bs H' p p' S r n k ∧ ∃ far : Int, 2 ≤ far ∧ far ≤ 999999999999 ∧ σ = [some (.ref a), some (.ref b), y2, some (.int far), y4, y5, some (.ref p), some (.ref p'), some (.ref S), y9, y10, y11, y12, y13, y14, y15], ?_, fun σ5 H5 hM => ?_⟩
    · refine ⟨.ref b, rfl, 10, 12, rfl, rfl, ⟨by decide, by decide⟩, 1000000000000, 2, rfl, rfl, b, 999999999998, rfl, two.std.b b bm, by decide, fun H' x kb B lo hi => ⟨2, x, rfl, rfl, ?_⟩⟩
      exact ⟨two.kb bm kb B, 2 + x, by omega, by omega, rfl⟩
    obtain ⟨two, far, f1, f2, eσ⟩ := hM
    subst eσ
    refine ⟨fun σ H' => Two T L bs H' p p' S r n k ∧ ∃ part : Int, 1 ≤ part ∧ part ≤ far - 1 ∧ σ = [some (.ref a), some (.ref b), y2, some (.int far), some (.int part), y5, some (.ref p), some (.ref p'), some (.ref S), y9, y10, y11, y12, y13, y14, y15], ?_, fun σ6 H6 hM => ?_⟩
    · refine ⟨.ref b, rfl, .int far, rfl, far, 1, rfl, rfl, b, far - 1, rfl, two.std.b b bm, by omega, fun H' x kb B lo hi => ⟨1, x, rfl, rfl, ?_⟩⟩
      exact ⟨two.kb bm kb B, 1 + x, by omega, by omega, rfl⟩
    obtain ⟨two, part, g1, g2, eσ⟩ := hM
    subst eσ
    refine ⟨fun σ H' => Two T L bs H' p p' S r n k ∧ ∃ g, H' g = some (.lst ((takenF r far).map V.int)) ∧ σ = [some (.ref a), some (.ref b), y2, some (.int far), some (.int part), some (.ref g), some (.ref p), some (.ref p'), some (.ref S), y9, y10, y11, y12, y13, y14, y15], ?_, fun σ7 H7 hM => ?_⟩
    · obtain ⟨dr, fr, hr1, hr2⟩ := two.b1.cell "row" (by decide +kernel) (by decide +kernel) (by decide +kernel)
      refine ⟨.ref p, rfl, p, dr, fr, rfl, hr1, hr2, p, r, n, k, rfl, two.b1, fun t hRt => ⟨.int far, rfl, t, r, far, rfl, hRt, two.ok, two.le, by omega, by omega, fun H' g sm ng hg => ?_⟩⟩
      exact ⟨two.same sm, g, hg, rfl⟩
    obtain ⟨two, g, hg, eσ⟩ := hM
    subst eσ
    -- the belt goes far
    have tbk : ∀ {H H' : Hp} {p : Addr} {r : List (Int × Int)} {n k : Int}, LamX.Tabs (TLs T) H → BeltAt T.C_Belt H p r n k → Kb p H H' → LamX.Tabs (TLs T) H' := fun h hb kb => by
      obtain ⟨dx, fs, hp⟩ := hb.ins
      exact tabs_keep h fun a o h n1 n2 => kb _ _ (ne_of h hp (n2 _ _ _)) h
    refine ⟨fun σ H' => (Std H' L bs ∧ LamX.Tabs (TLs T) H' ∧ BeltAt T.C_Belt H' p (stB r far) (n + far) (k + comeF r r.length far) ∧ BeltAt T.C_Belt H' p' r n k ∧ StAt H' S r n k ∧ H' g = some (.lst ((takenF r far).map V.int))) ∧ σ = [some (.ref a), some (.ref b), y2, some (.int far), some (.int part), some (.ref g), some (.ref p), some (.ref p'), some (.ref S), y9, y10, y11, y12, y13, y14, y15], ?_, fun σ8 H8 hM => ?_⟩
    · obtain ⟨dr, fr, hr1, hr2⟩ := two.b1.cell "go_by" (by decide +kernel) (by decide +kernel) (by decide +kernel)
      refine ⟨.ref p, rfl, p, dr, fr, rfl, hr1, hr2, .int far, rfl, p, r, n, k, far, rfl, two.b1, two.ok, two.le, by omega, by omega, fun H' q' kb nq hq hb => ?_⟩
      have sd := sd_kb two.b1 kb
      refine ⟨.ref g, rfl, _, _, dp_ints (sq_of hq), dp_ints (sq_of (sd.2 _ _ hg)), shp_ints _, shp_ints _, false, by rw [eqv_list, decide_eq_true rfl]; rfl, iteF ?_⟩
      exact ⟨⟨two.std.sd sd, tbk two.tb two.b1 kb, hb, two.b2.other kb two.ne.symm two.b1.ins, two.st.keep sd, sd.2 _ _ hg⟩, rfl⟩
    have ok := two.ok
    have le := two.le
    have ne := two.ne
    clear two hg
    obtain ⟨⟨std, tb, b1, b2, st, hg⟩, eσ⟩ := hM
    subst eσ
    have sp := split_on r part (far - part) ok
    rw [show part + (far - part) = far by omega] at sp
    obtain ⟨sp1, sp2, sp3⟩ := sp
    -- the other in two parts
    refine ⟨fun σ H' => ∃ q1 q2, (Std H' L bs ∧ LamX.Tabs (TLs T) H' ∧ BeltAt T.C_Belt H' p (stB r far) (n + far) (k + comeF r r.length far) ∧ BeltAt T.C_Belt H' p' (stB r far) (n + far) (k + comeF r r.length far) ∧ StAt H' S r n k ∧ H' g = some (.lst ((takenF r far).map V.int)) ∧
        H' q1 = some (.lst ((takenF r part).map V.int)) ∧ H' q2 = some (.lst ((takenF (stB r part) (far - part)).map V.int))) ∧ σ = [some (.ref a), some (.ref b), y2, some (.int far), some (.int part), some (.ref g), some (.ref p), some (.ref p'), some (.ref S), y9, some (.ref q1), some (.ref q2), y12, y13, y14, y15], ?_, fun σ9 H9 hM => ?_⟩
    · obtain ⟨dr, fr, hr1, hr2⟩ := b2.cell "go_by" (by decide +kernel) (by decide +kernel) (by decide +kernel)
      refine ⟨.ref p', rfl, p', dr, fr, rfl, hr1, hr2, .int part, rfl, p', r, n, k, part, rfl, b2, ok, le, by omega, by omega, fun G1 q1 kb1 nq1 hq1 hb1 => ?_⟩
      have sd1 := sd_kb b2 kb1
      obtain ⟨dr', fr', hr1', hr2'⟩ := hb1.cell "go_by" (by decide +kernel) (by decide +kernel) (by decide +kernel)
      refine ⟨.ref p', rfl, p', dr', fr', rfl, hr1', hr2', .int far, rfl, .int part, rfl, far, part, rfl, rfl, p', stB r part, n + part, k + comeF r r.length part, far - part, rfl, hb1, stB_ok ok part, by rw [stB_len]; exact le, by omega, by omega, fun G2 q2 kb2 nq2 hq2 hb2 => ?_⟩
      have sd2 := sd_kb hb1 kb2
      have e1 : n + part + (far - part) = n + far := by omega
      have e2 : k + comeF r r.length part + comeF (stB r part) (stB r part).length (far - part) = k + comeF r r.length far := by rw [sp3]; omega
      rw [e1, e2, ← sp2] at hb2
      exact ⟨_, _, rfl, q1, q2, ⟨(std.sd sd1).sd sd2, tbk (tbk tb b2 kb1) hb1 kb2, (b1.other kb1 ne b2.ins).other kb2 ne hb1.ins, hb2, (st.keep sd1).keep sd2, sd2.2 _ _ (sd1.2 _ _ hg), sd2.2 _ _ hq1, hq2⟩, rfl⟩
    clear std tb b1 b2 st hg
    obtain ⟨q1, q2, ⟨std, tb, b1, b2, st, hg, hq1, hq2⟩, eσ⟩ := hM
    subst eσ
    -- the sums
    refine ⟨fun σ H' => (Std H' L bs ∧ LamX.Tabs (TLs T) H' ∧ BeltAt T.C_Belt H' p (stB r far) (n + far) (k + comeF r r.length far) ∧ BeltAt T.C_Belt H' p' (stB r far) (n + far) (k + comeF r r.length far) ∧ StAt H' S r n k ∧ H' g = some (.lst ((takenF r far).map V.int))) ∧
        ∃ y14 y15, σ = [some (.ref a), some (.ref b), y2, some (.int far), some (.int part), some (.ref g), some (.ref p), some (.ref p'), some (.ref S), y9, some (.ref q1), some (.ref q2), y12, y13, y14, y15], ?_, fun σ10 H10 hM => ?_⟩
    · refine ⟨.ref q1, rfl, .ref q2, rfl, q1, q2, _, _, rfl, sq_of hq1, sq_of hq2, fun D nD => ?_⟩
      have ll : (takenF (stB r part) (far - part)).length = r.length + 1 := by rw [len_takenF, stB_len]
      refine lc_it (walk_zip (K := K) (a := q1) (b := q2) (xs := (takenF r part).map V.int) (ys := (takenF (stB r part) (far - part)).map V.int) (n := r.length + 1) (by rw [List.length_map, List.length_map, len_takenF, ll]; omega)) (fun i H' => Same H9 H' ∧ H' D = some (.lst (((takenF r far).take i).map V.int))) ⟨same_new nD, upd_same⟩ (fun i H' _ hp => ⟨sq_of (hp.1 _ _ hq1), sq_of (hp.1 _ _ hq2)⟩) (fun i v H' H'' hi hp hy => ?_) (fun H10 hp => ?_)
      · obtain ⟨sm, hd⟩ := hp
        obtain ⟨Tt, x, y, rfl, nT, rfl, ex, ey⟩ := hy
        have v1 := List.getElem?_eq_getElem (show i < (takenF r part).length by rw [len_takenF]; exact hi)
        have v2 := List.getElem?_eq_getElem (show i < (takenF (stB r part) (far - part)).length by rw [ll]; exact hi)
        obtain ⟨u1, hu1⟩ : ∃ u, (takenF r part)[i]'(by rw [len_takenF]; exact hi) = u := ⟨_, rfl⟩
        obtain ⟨u2, hu2⟩ : ∃ u, (takenF (stB r part) (far - part))[i]'(by rw [ll]; exact hi) = u := ⟨_, rfl⟩
        rw [hu1] at v1
        rw [hu2] at v2
        have ex2 : x = .int u1 := by
          have e0 : ((takenF r part).map V.int)[i]? = some x := ex
          rw [List.getElem?_map, v1] at e0
          exact (Option.some.inj e0).symm
        have ey2 : y = .int u2 := by
          have e0 : ((takenF (stB r part) (far - part)).map V.int)[i]? = some y := ey
          rw [List.getElem?_map, v2] at e0
          exact (Option.some.inj e0).symm
        subst ex2
        subst ey2
        have sT := same_new (o := .tup [.int u1, .int u2]) nT
        refine ⟨Tt, _, rfl, st_of upd_same, rfl, _, _, rfl, _, _, rfl, rfl, ?_⟩
        refine ⟨rfl, yesT ?_⟩
        refine ⟨.int u1, rfl, .int u2, rfl, u1, u2, rfl, rfl, _, sT _ _ hd, ?_, same_upd_new nD (sm.trans sT), ?_⟩
        · rw [List.length_map, List.length_take]
          exact Nat.lt_of_le_of_lt (Nat.min_le_left _ _) (small1000 (by omega))
        · rw [upd_same, List.take_add_one, sp1, List.getElem?_zipWith, v1, v2, List.map_append]
          rfl
      · obtain ⟨sm, hd⟩ := hp
        rw [List.take_of_length_le (by rw [len_takenF]; exact Nat.le_refl _)] at hd
        refine ⟨.ref g, rfl, _, _, dp_ints (sq_of hd), dp_ints (sq_of (sm _ _ hg)), shp_ints _, shp_ints _, false, by rw [eqv_list, decide_eq_true rfl]; rfl, iteF ?_⟩
        exact ⟨⟨std.same sm, tb.ext sm, b1.same sm, b2.same sm, st.keep (Sd.of sm), sm _ _ hg⟩, _, _, rfl⟩
    clear std tb b1 b2 st hg hq1 hq2
    obtain ⟨⟨std, tb, b1, b2, st, hg⟩, y14, y15, eσ⟩ := hM
    subst eσ
    obtain ⟨t, hS, hR⟩ := id st
    obtain ⟨dx, fs, hp⟩ := b1.ins
    obtain ⟨dx', fs', hp'⟩ := b2.ins
    refine ⟨.ref p, rfl, .ref p', rfl, p, dx, fs, _, rfl, hp, .ins hp', p, p', _, _, _, _, _, _, rfl, b1, b2, fun G sG => ⟨true, congrArg V.bl (by simp), ?_⟩⟩
    refine ⟨true, congrArg V.bl (by simp), iteF ?_⟩
    have b1 := b1.same sG
    have b2 := b2.same sG
    have hg := sG _ _ hg
    have hS := sG _ _ hS
    have std := std.same sG
    have tb := tb.ext sG
    clear hp hp'
    obtain ⟨dg, fg, hg1, hg2⟩ := b1.cell "gone" (by decide +kernel) (by decide +kernel) (by decide +kernel)
    obtain ⟨dl, fl, hl1, hl2⟩ := b1.cell "left_over" (by decide +kernel) (by decide +kernel) (by decide +kernel)
    obtain ⟨db, fb, hb1, hb2⟩ := b1.cell "go_by" (by decide +kernel) (by decide +kernel) (by decide +kernel)
    have el : atI ((takenF r far).map V.int) (-1) = some (.int (comeF r r.length far)) := by
      have e2 : (takenF r far).take (r.length + 1) = takenF r far := List.take_of_length_le (by rw [len_takenF]; exact Nat.le_refl _)
      rw [List.take_add_one, taken_last] at e2
      rw [← e2, List.map_append]
      exact atI_last _ _
    refine ⟨.ref p, rfl, p, dg, fg, rfl, hg1, hg2, p, _, _, _, rfl, b1, .ref S, rfl, S, _, 1, .int n, rfl, rfl, st_of hS, rfl, .int far, rfl, n, far, rfl, rfl, rfl, false, by rw [decide_eq_true rfl]; rfl, iteF ?_⟩
    refine ⟨.ref p, rfl, p, dl, fl, rfl, hl1, hl2, p, _, _, _, rfl, b1, .ref S, rfl, S, _, 2, .int k, rfl, rfl, st_of hS, rfl, .ref g, rfl, 1, rfl, g, _, -1, .int (comeF r r.length far), rfl, rfl, sq_of hg, el, k, _, rfl, rfl, rfl, false, by rw [decide_eq_true rfl]; rfl, iteF ?_⟩
    refine ⟨.ref p, rfl, p, db, fb, rfl, hb1, hb2, p, stB r far, n + far, k + comeF r r.length far, 1, rfl, b1, stB_ok ok far, by rw [stB_len]; exact le, by decide, by decide, fun G2 q2' kb2 nq2 hq2' b1' => ?_⟩
    have sd := sd_kb b1 kb2
    have b2' := b2.other kb2 ne.symm b1.ins
    obtain ⟨dx, fs, hp⟩ := b1'.ins
    obtain ⟨dx', fs', hp'⟩ := b2'.ins
    refine ⟨.ref p, rfl, .ref p', rfl, p, dx, fs, _, rfl, hp, .ins hp', p, p', _, _, _, _, _, _, rfl, b1', b2', fun G3 s3 => ⟨false, ?_, ?_⟩⟩
    · rw [decide_eq_false (fun z => by have := z.2.1; omega)]
    refine ⟨false, ?_, iteF ?_⟩
    · rw [decide_eq_false (fun z => by have := z.2.1; omega)]
    exact ⟨(std.sd sd).same s3, (tbk tb b1 kb2).ext s3, _, _, _, _, _, _, _, _, _, _, _, _, _, _, _, rfl⟩

end
theorem all_mk {l : PySem.W.OpenLaw} {w : World} {K : PySem.W.Frag} {h : Heap} {mg : Str → Option Value} {fa : Addr} (X : K.In h) (G : h.Ns mainGlobals mg) (hfa : mg "law" = some (.ref fa))
    {CBelt : Addr}
    {f1 f2 f3 f4 f5 f6 f7 f8 f9 f10 f11 f12 f13 f14 f15 f16 f17 f18 f19 f20 f21 f22 f23 f24 f25 f26 f27 f28 f29 f30 f31 f32 f33 f34 : Addr} {od1 an1 od2 an2 od3 an3 od4 an4 od5 an5 od6 an6 od7 an7 od8 an8 od9 an9 od10 an10 od11 an11 od12 an12 od13 an13 od14 an14 od15 an15 od16 an16 od17 an17 od18 an18 od19 an19 od20 an20 od21 an21 od22 an22 od23 an23 od24 an24 od25 an25 od26 an26 od27 an27 od28 an28 od29 an29 od30 an30 od31 an31 od32 an32 od33 an33 od34 an34 : Option Addr} {sl1 sl2 sl3 sl4 sl5 sl6 sl7 sl8 sl9 sl10 sl11 sl12 sl13 sl14 sl15 sl16 sl17 sl18 sl19 sl20 sl21 sl22 sl23 sl24 sl25 sl26 sl27 sl28 sl29 sl30 sl31 sl32 sl33 sl34 : Array (Option Value)} {oc1 kV1 dc1 pm1 cd1 ct1 oc2 kV2 dc2 pm2 cd2 ct2 oc3 kV3 dc3 pm3 cd3 ct3 oc4 kV4 dc4 pm4 cd4 ct4 oc5 kV5 dc5 pm5 cd5 ct5 oc6 kV6 dc6 pm6 cd6 ct6 oc7 kV7 dc7 pm7 cd7 ct7 oc8 kV8 dc8 pm8 cd8 ct8 oc9 kV9 dc9 pm9 cd9 ct9 oc10 kV10 dc10 pm10 cd10 ct10 oc11 kV11 dc11 pm11 cd11 ct11 oc12 kV12 dc12 pm12 cd12 ct12 oc13 kV13 dc13 pm13 cd13 ct13 oc14 kV14 dc14 pm14 cd14 ct14 oc15 kV15 dc15 pm15 cd15 ct15 oc16 kV16 dc16 pm16 cd16 ct16 oc17 kV17 dc17 pm17 cd17 ct17 oc18 kV18 dc18 pm18 cd18 ct18 oc19 kV19 dc19 pm19 cd19 ct19 oc20 kV20 dc20 pm20 cd20 ct20 oc21 kV21 dc21 pm21 cd21 ct21 oc22 kV22 dc22 pm22 cd22 ct22 oc23 kV23 dc23 pm23 cd23 ct23 oc24 kV24 dc24 pm24 cd24 ct24 oc25 kV25 dc25 pm25 cd25 ct25 oc26 kV26 dc26 pm26 cd26 ct26 oc27 kV27 dc27 pm27 cd27 ct27 oc28 kV28 dc28 pm28 cd28 ct28 oc29 kV29 dc29 pm29 cd29 ct29 oc30 kV30 dc30 pm30 cd30 ct30 oc31 kV31 dc31 pm31 cd31 ct31 oc32 kV32 dc32 pm32 cd32 ct32 oc33 kV33 dc33 pm33 cd33 ct33 oc34 kV34 dc34 pm34 cd34 ct34 : Value}
    (a1 : PySem.W.nsIn K mainGlobals "is_whole" = some (some (.ref f1)))
    (l1 : K.lookup f1 = some ⟨oc1, od1, .func (PySem.W.fnOf "is_whole" "is_whole" (defArgs s_is_whole) (defBody s_is_whole) (defScope s_is_whole) .none kV1 dc1 pm1 an1 cd1 ct1), sl1⟩)
    (c1 : PySem.W.codeIn K cd1 "is_whole" = true) (k1 : PySem.W.keepIn K (.ref f1) = true)
    (a2 : PySem.W.nsIn K mainGlobals "check_number" = some (some (.ref f2)))
    (l2 : K.lookup f2 = some ⟨oc2, od2, .func (PySem.W.fnOf "check_number" "check_number" (defArgs s_check_number) (defBody s_check_number) (defScope s_check_number) .none kV2 dc2 pm2 an2 cd2 ct2), sl2⟩)
    (c2 : PySem.W.codeIn K cd2 "check_number" = true) (k2 : PySem.W.keepIn K (.ref f2) = true)
    (a3 : PySem.W.nsIn K mainGlobals "is_taker" = some (some (.ref f3)))
    (l3 : K.lookup f3 = some ⟨oc3, od3, .func (PySem.W.fnOf "is_taker" "is_taker" (defArgs s_is_taker) (defBody s_is_taker) (defScope s_is_taker) .none kV3 dc3 pm3 an3 cd3 ct3), sl3⟩)
    (c3 : PySem.W.codeIn K cd3 "is_taker" = true) (k3 : PySem.W.keepIn K (.ref f3) = true)
    (a4 : PySem.W.nsIn K mainGlobals "is_row" = some (some (.ref f4)))
    (l4 : K.lookup f4 = some ⟨oc4, od4, .func (PySem.W.fnOf "is_row" "is_row" (defArgs s_is_row) (defBody s_is_row) (defScope s_is_row) .none kV4 dc4 pm4 an4 cd4 ct4), sl4⟩)
    (c4 : PySem.W.codeIn K cd4 "is_row" = true) (k4 : PySem.W.keepIn K (.ref f4) = true)
    (a5 : PySem.W.nsIn K mainGlobals "check_row" = some (some (.ref f5)))
    (l5 : K.lookup f5 = some ⟨oc5, od5, .func (PySem.W.fnOf "check_row" "check_row" (defArgs s_check_row) (defBody s_check_row) (defScope s_check_row) .none kV5 dc5 pm5 an5 cd5 ct5), sl5⟩)
    (c5 : PySem.W.codeIn K cd5 "check_row" = true) (k5 : PySem.W.keepIn K (.ref f5) = true)
    (a6 : PySem.W.nsIn K mainGlobals "taken" = some (some (.ref f6)))
    (l6 : K.lookup f6 = some ⟨oc6, od6, .func (PySem.W.fnOf "taken" "taken" (defArgs s_taken) (defBody s_taken) (defScope s_taken) .none kV6 dc6 pm6 an6 cd6 ct6), sl6⟩)
    (c6 : PySem.W.codeIn K cd6 "taken" = true) (k6 : PySem.W.keepIn K (.ref f6) = true)
    (a7 : PySem.W.nsIn K mainGlobals "check_place" = some (some (.ref f7)))
    (l7 : K.lookup f7 = some ⟨oc7, od7, .func (PySem.W.fnOf "check_place" "check_place" (defArgs s_check_place) (defBody s_check_place) (defScope s_check_place) .none kV7 dc7 pm7 an7 cd7 ct7), sl7⟩)
    (c7 : PySem.W.codeIn K cd7 "check_place" = true) (k7 : PySem.W.keepIn K (.ref f7) = true)
    (a8 : PySem.W.nsIn K mainGlobals "counted_on" = some (some (.ref f8)))
    (l8 : K.lookup f8 = some ⟨oc8, od8, .func (PySem.W.fnOf "counted_on" "counted_on" (defArgs s_counted_on) (defBody s_counted_on) (defScope s_counted_on) .none kV8 dc8 pm8 an8 cd8 ct8), sl8⟩)
    (c8 : PySem.W.codeIn K cd8 "counted_on" = true) (k8 : PySem.W.keepIn K (.ref f8) = true)
    (a9 : PySem.W.findIn K (.ref CBelt) "__init__" = some (some (.ref f9))) (i9 : PySem.W.isFn K (.ref f9) = true)
    (l9 : K.lookup f9 = some ⟨oc9, od9, .func (PySem.W.fnOf "__init__" "Belt.__init__" (defArgs s_Belt___init__) (defBody s_Belt___init__) (defScope s_Belt___init__) .none kV9 dc9 pm9 an9 cd9 ct9), sl9⟩)
    (c9 : PySem.W.codeIn K cd9 "Belt.__init__" = true) (k9 : PySem.W.keepIn K (.ref f9) = true)
    (a10 : PySem.W.findIn K (.ref CBelt) "go_by" = some (some (.ref f10))) (i10 : PySem.W.isFn K (.ref f10) = true)
    (l10 : K.lookup f10 = some ⟨oc10, od10, .func (PySem.W.fnOf "go_by" "Belt.go_by" (defArgs s_Belt_go_by) (defBody s_Belt_go_by) (defScope s_Belt_go_by) .none kV10 dc10 pm10 an10 cd10 ct10), sl10⟩)
    (c10 : PySem.W.codeIn K cd10 "Belt.go_by" = true) (k10 : PySem.W.keepIn K (.ref f10) = true)
    (a11 : PySem.W.findIn K (.ref CBelt) "come" = some (some (.ref f11))) (i11 : PySem.W.isFn K (.ref f11) = true)
    (l11 : K.lookup f11 = some ⟨oc11, od11, .func (PySem.W.fnOf "come" "Belt.come" (defArgs s_Belt_come) (defBody s_Belt_come) (defScope s_Belt_come) .none kV11 dc11 pm11 an11 cd11 ct11), sl11⟩)
    (c11 : PySem.W.codeIn K cd11 "Belt.come" = true) (k11 : PySem.W.keepIn K (.ref f11) = true)
    (a12 : PySem.W.findIn K (.ref CBelt) "leave" = some (some (.ref f12))) (i12 : PySem.W.isFn K (.ref f12) = true)
    (l12 : K.lookup f12 = some ⟨oc12, od12, .func (PySem.W.fnOf "leave" "Belt.leave" (defArgs s_Belt_leave) (defBody s_Belt_leave) (defScope s_Belt_leave) .none kV12 dc12 pm12 an12 cd12 ct12), sl12⟩)
    (c12 : PySem.W.codeIn K cd12 "Belt.leave" = true) (k12 : PySem.W.keepIn K (.ref f12) = true)
    (a13 : PySem.W.findIn K (.ref CBelt) "change" = some (some (.ref f13))) (i13 : PySem.W.isFn K (.ref f13) = true)
    (l13 : K.lookup f13 = some ⟨oc13, od13, .func (PySem.W.fnOf "change" "Belt.change" (defArgs s_Belt_change) (defBody s_Belt_change) (defScope s_Belt_change) .none kV13 dc13 pm13 an13 cd13 ct13), sl13⟩)
    (c13 : PySem.W.codeIn K cd13 "Belt.change" = true) (k13 : PySem.W.keepIn K (.ref f13) = true)
    (a14 : PySem.W.findIn K (.ref CBelt) "row" = some (some (.ref f14))) (i14 : PySem.W.isFn K (.ref f14) = true)
    (l14 : K.lookup f14 = some ⟨oc14, od14, .func (PySem.W.fnOf "row" "Belt.row" (defArgs s_Belt_row) (defBody s_Belt_row) (defScope s_Belt_row) .none kV14 dc14 pm14 an14 cd14 ct14), sl14⟩)
    (c14 : PySem.W.codeIn K cd14 "Belt.row" = true) (k14 : PySem.W.keepIn K (.ref f14) = true)
    (a15 : PySem.W.findIn K (.ref CBelt) "gone" = some (some (.ref f15))) (i15 : PySem.W.isFn K (.ref f15) = true)
    (l15 : K.lookup f15 = some ⟨oc15, od15, .func (PySem.W.fnOf "gone" "Belt.gone" (defArgs s_Belt_gone) (defBody s_Belt_gone) (defScope s_Belt_gone) .none kV15 dc15 pm15 an15 cd15 ct15), sl15⟩)
    (c15 : PySem.W.codeIn K cd15 "Belt.gone" = true) (k15 : PySem.W.keepIn K (.ref f15) = true)
    (a16 : PySem.W.findIn K (.ref CBelt) "left_over" = some (some (.ref f16))) (i16 : PySem.W.isFn K (.ref f16) = true)
    (l16 : K.lookup f16 = some ⟨oc16, od16, .func (PySem.W.fnOf "left_over" "Belt.left_over" (defArgs s_Belt_left_over) (defBody s_Belt_left_over) (defScope s_Belt_left_over) .none kV16 dc16 pm16 an16 cd16 ct16), sl16⟩)
    (c16 : PySem.W.codeIn K cd16 "Belt.left_over" = true) (k16 : PySem.W.keepIn K (.ref f16) = true)
    (a17 : PySem.W.findIn K (.ref CBelt) "__len__" = some (some (.ref f17))) (i17 : PySem.W.isFn K (.ref f17) = true)
    (l17 : K.lookup f17 = some ⟨oc17, od17, .func (PySem.W.fnOf "__len__" "Belt.__len__" (defArgs s_Belt___len__) (defBody s_Belt___len__) (defScope s_Belt___len__) .none kV17 dc17 pm17 an17 cd17 ct17), sl17⟩)
    (c17 : PySem.W.codeIn K cd17 "Belt.__len__" = true) (k17 : PySem.W.keepIn K (.ref f17) = true)
    (a18 : PySem.W.findIn K (.ref CBelt) "__eq__" = some (some (.ref f18))) (i18 : PySem.W.isFn K (.ref f18) = true)
    (l18 : K.lookup f18 = some ⟨oc18, od18, .func (PySem.W.fnOf "__eq__" "Belt.__eq__" (defArgs s_Belt___eq__) (defBody s_Belt___eq__) (defScope s_Belt___eq__) .none kV18 dc18 pm18 an18 cd18 ct18), sl18⟩)
    (c18 : PySem.W.codeIn K cd18 "Belt.__eq__" = true) (k18 : PySem.W.keepIn K (.ref f18) = true)
    (a19 : PySem.W.nsIn K mainGlobals "_law_cell_at" = some (some (.ref f19)))
    (l19 : K.lookup f19 = some ⟨oc19, od19, .func (PySem.W.fnOf "_law_cell_at" "_law_cell_at" (defArgs s__law_cell_at) (defBody s__law_cell_at) (defScope s__law_cell_at) .none kV19 dc19 pm19 an19 cd19 ct19), sl19⟩)
    (c19 : PySem.W.codeIn K cd19 "_law_cell_at" = true) (k19 : PySem.W.keepIn K (.ref f19) = true)
    (a20 : PySem.W.nsIn K mainGlobals "_law_draws" = some (some (.ref f20)))
    (l20 : K.lookup f20 = some ⟨oc20, od20, .func (PySem.W.fnOf "_law_draws" "_law_draws" (defArgs s__law_draws) (defBody s__law_draws) (defScope s__law_draws) .none kV20 dc20 pm20 an20 cd20 ct20), sl20⟩)
    (c20 : PySem.W.codeIn K cd20 "_law_draws" = true) (k20 : PySem.W.keepIn K (.ref f20) = true)
    (a21 : PySem.W.nsIn K mainGlobals "_law_from" = some (some (.ref f21)))
    (l21 : K.lookup f21 = some ⟨oc21, od21, .func (PySem.W.fnOf "_law_from" "_law_from" (defArgs s__law_from) (defBody s__law_from) (defScope s__law_from) .none kV21 dc21 pm21 an21 cd21 ct21), sl21⟩)
    (c21 : PySem.W.codeIn K cd21 "_law_from" = true) (k21 : PySem.W.keepIn K (.ref f21) = true)
    (a22 : PySem.W.nsIn K mainGlobals "_law_bag" = some (some (.ref f22)))
    (l22 : K.lookup f22 = some ⟨oc22, od22, .func (PySem.W.fnOf "_law_bag" "_law_bag" (defArgs s__law_bag) (defBody s__law_bag) (defScope s__law_bag) .none kV22 dc22 pm22 an22 cd22 ct22), sl22⟩)
    (c22 : PySem.W.codeIn K cd22 "_law_bag" = true) (k22 : PySem.W.keepIn K (.ref f22) = true)
    (a23 : PySem.W.nsIn K mainGlobals "_law_bags" = some (some (.ref f23)))
    (l23 : K.lookup f23 = some ⟨oc23, od23, .func (PySem.W.fnOf "_law_bags" "_law_bags" (defArgs s__law_bags) (defBody s__law_bags) (defScope s__law_bags) .none kV23 dc23 pm23 an23 cd23 ct23), sl23⟩)
    (c23 : PySem.W.codeIn K cd23 "_law_bags" = true) (k23 : PySem.W.keepIn K (.ref f23) = true)
    (a24 : PySem.W.nsIn K mainGlobals "_law_take" = some (some (.ref f24)))
    (l24 : K.lookup f24 = some ⟨oc24, od24, .func (PySem.W.fnOf "_law_take" "_law_take" (defArgs s__law_take) (defBody s__law_take) (defScope s__law_take) .none kV24 dc24 pm24 an24 cd24 ct24), sl24⟩)
    (c24 : PySem.W.codeIn K cd24 "_law_take" = true) (k24 : PySem.W.keepIn K (.ref f24) = true)
    (a25 : PySem.W.nsIn K mainGlobals "_law_far_draw" = some (some (.ref f25)))
    (l25 : K.lookup f25 = some ⟨oc25, od25, .func (PySem.W.fnOf "_law_far_draw" "_law_far_draw" (defArgs s__law_far_draw) (defBody s__law_far_draw) (defScope s__law_far_draw) .none kV25 dc25 pm25 an25 cd25 ct25), sl25⟩)
    (c25 : PySem.W.codeIn K cd25 "_law_far_draw" = true) (k25 : PySem.W.keepIn K (.ref f25) = true)
    (a26 : PySem.W.nsIn K mainGlobals "_law_taker" = some (some (.ref f26)))
    (l26 : K.lookup f26 = some ⟨oc26, od26, .func (PySem.W.fnOf "_law_taker" "_law_taker" (defArgs s__law_taker) (defBody s__law_taker) (defScope s__law_taker) .none kV26 dc26 pm26 an26 cd26 ct26), sl26⟩)
    (c26 : PySem.W.codeIn K cd26 "_law_taker" = true) (k26 : PySem.W.keepIn K (.ref f26) = true)
    (a27 : PySem.W.nsIn K mainGlobals "_law_gone" = some (some (.ref f27)))
    (l27 : K.lookup f27 = some ⟨oc27, od27, .func (PySem.W.fnOf "_law_gone" "_law_gone" (defArgs s__law_gone) (defBody s__law_gone) (defScope s__law_gone) .none kV27 dc27 pm27 an27 cd27 ct27), sl27⟩)
    (c27 : PySem.W.codeIn K cd27 "_law_gone" = true) (k27 : PySem.W.keepIn K (.ref f27) = true)
    (a28 : PySem.W.nsIn K mainGlobals "_law_numbers" = some (some (.ref f28)))
    (l28 : K.lookup f28 = some ⟨oc28, od28, .func (PySem.W.fnOf "_law_numbers" "_law_numbers" (defArgs s__law_numbers) (defBody s__law_numbers) (defScope s__law_numbers) .none kV28 dc28 pm28 an28 cd28 ct28), sl28⟩)
    (c28 : PySem.W.codeIn K cd28 "_law_numbers" = true) (k28 : PySem.W.keepIn K (.ref f28) = true)
    (a29 : PySem.W.nsIn K mainGlobals "_law_refused" = some (some (.ref f29)))
    (l29 : K.lookup f29 = some ⟨oc29, od29, .func (PySem.W.fnOf "_law_refused" "_law_refused" (defArgs s__law_refused) (defBody s__law_refused) (defScope s__law_refused) .none kV29 dc29 pm29 an29 cd29 ct29), sl29⟩)
    (c29 : PySem.W.codeIn K cd29 "_law_refused" = true) (k29 : PySem.W.keepIn K (.ref f29) = true)
    (a30 : PySem.W.nsIn K mainGlobals "_law_after" = some (some (.ref f30)))
    (l30 : K.lookup f30 = some ⟨oc30, od30, .func (PySem.W.fnOf "_law_after" "_law_after" (defArgs s__law_after) (defBody s__law_after) (defScope s__law_after) .none kV30 dc30 pm30 an30 cd30 ct30), sl30⟩)
    (c30 : PySem.W.codeIn K cd30 "_law_after" = true) (k30 : PySem.W.keepIn K (.ref f30) = true)
    (a31 : PySem.W.nsIn K mainGlobals "_law_do" = some (some (.ref f31)))
    (l31 : K.lookup f31 = some ⟨oc31, od31, .func (PySem.W.fnOf "_law_do" "_law_do" (defArgs s__law_do) (defBody s__law_do) (defScope s__law_do) .none kV31 dc31 pm31 an31 cd31 ct31), sl31⟩)
    (c31 : PySem.W.codeIn K cd31 "_law_do" = true) (k31 : PySem.W.keepIn K (.ref f31) = true)
    (a32 : PySem.W.nsIn K mainGlobals "_law_done" = some (some (.ref f32)))
    (l32 : K.lookup f32 = some ⟨oc32, od32, .func (PySem.W.fnOf "_law_done" "_law_done" (defArgs s__law_done) (defBody s__law_done) (defScope s__law_done) .none kV32 dc32 pm32 an32 cd32 ct32), sl32⟩)
    (c32 : PySem.W.codeIn K cd32 "_law_done" = true) (k32 : PySem.W.keepIn K (.ref f32) = true)
    (a33 : PySem.W.nsIn K mainGlobals "_law_a_deed" = some (some (.ref f33)))
    (l33 : K.lookup f33 = some ⟨oc33, od33, .func (PySem.W.fnOf "_law_a_deed" "_law_a_deed" (defArgs s__law_a_deed) (defBody s__law_a_deed) (defScope s__law_a_deed) .none kV33 dc33 pm33 an33 cd33 ct33), sl33⟩)
    (c33 : PySem.W.codeIn K cd33 "_law_a_deed" = true) (k33 : PySem.W.keepIn K (.ref f33) = true)
    (a34 : PySem.W.nsIn K mainGlobals "law" = some (some (.ref f34)))
    (l34 : K.lookup f34 = some ⟨oc34, od34, .func (PySem.W.fnOf "law" "law" (defArgs s_law) (defBody s_law) (defScope s_law) .none kV34 dc34 pm34 an34 cd34 ct34), sl34⟩)
    (c34 : PySem.W.codeIn K cd34 "law" = true) (k34 : PySem.W.keepIn K (.ref f34) = true)
    (aCBelt : PySem.W.nsIn K mainGlobals "Belt" = some (some (.ref CBelt)))
    (pgBelt : PySem.W.plainGet K CBelt Str.empty = true) (hdBelt : PySem.W.hasDictIn K CBelt = true) (poBelt : PySem.W.plainOver K CBelt = true) (saBelt : PySem.W.findIn K (.ref CBelt) "__setattr__" = some (some (.builtin "object.__setattr__"))) (mkBelt : PySem.W.makesIn K CBelt = true) (kcBelt : PySem.W.keepIn K (.ref CBelt) = true)
    (haBelt : PySem.W.findIn K (.ref CBelt) "__class__" = some (some (.builtin "object.__class__"))) (hnBelt : PySem.W.specialIn K (.builtin "object.__class__") "__get__" = some (some (.builtin "getset_descriptor.__get__"))) (htBelt : PySem.W.takesIn K (.builtin "object.__class__") = some true) (hmBelt : PySem.W.mroIn K CBelt (.type "object") = some true) (meBelt : PySem.W.kitOne K (.ref CBelt) (.ref CBelt) = some true)
    (stBelt : PySem.W.subIn K (.type "tuple") (.ref CBelt) = some false)
    (tyBelt : PySem.W.typeIn K (.ref CBelt) = some (.type "type"))
    (nBelt_takers : PySem.W.findIn K (.ref CBelt) "takers" = some none)
    (nBelt_pieces : PySem.W.findIn K (.ref CBelt) "pieces" = some none)
    (nBelt_passed : PySem.W.findIn K (.ref CBelt) "passed" = some none)
    {C_TakeError C_NoRow C_NoNumber C_NoTaker C_NoSeen C_NoCounts C_NoPlace C_Unlike C_Full C_TooMany : Addr}
    (aGg_TakeError : PySem.W.nsIn K mainGlobals "TakeError" = some (some (.ref C_TakeError)))
    (b_TakeError : PySem.W.subIn K (.ref C_TakeError) (.type "BaseException") = some true)
    (t_TakeError : PySem.W.typeIn K (.ref C_TakeError) = some (.type "type"))
    (d_TakeError : PySem.W.hasDictIn K C_TakeError = true)
    (r_TakeError : PySem.W.subIn K (.ref C_TakeError) (.ref C_TakeError) = some true)
    (aGg_NoRow : PySem.W.nsIn K mainGlobals "NoRow" = some (some (.ref C_NoRow)))
    (b_NoRow : PySem.W.subIn K (.ref C_NoRow) (.type "BaseException") = some true)
    (t_NoRow : PySem.W.typeIn K (.ref C_NoRow) = some (.type "type"))
    (d_NoRow : PySem.W.hasDictIn K C_NoRow = true)
    (r_NoRow : PySem.W.subIn K (.ref C_NoRow) (.ref C_NoRow) = some true)
    (aGg_NoNumber : PySem.W.nsIn K mainGlobals "NoNumber" = some (some (.ref C_NoNumber)))
    (b_NoNumber : PySem.W.subIn K (.ref C_NoNumber) (.type "BaseException") = some true)
    (t_NoNumber : PySem.W.typeIn K (.ref C_NoNumber) = some (.type "type"))
    (d_NoNumber : PySem.W.hasDictIn K C_NoNumber = true)
    (r_NoNumber : PySem.W.subIn K (.ref C_NoNumber) (.ref C_NoNumber) = some true)
    (aGg_NoTaker : PySem.W.nsIn K mainGlobals "NoTaker" = some (some (.ref C_NoTaker)))
    (b_NoTaker : PySem.W.subIn K (.ref C_NoTaker) (.type "BaseException") = some true)
    (t_NoTaker : PySem.W.typeIn K (.ref C_NoTaker) = some (.type "type"))
    (d_NoTaker : PySem.W.hasDictIn K C_NoTaker = true)
    (r_NoTaker : PySem.W.subIn K (.ref C_NoTaker) (.ref C_NoTaker) = some true)
    (aGg_NoSeen : PySem.W.nsIn K mainGlobals "NoSeen" = some (some (.ref C_NoSeen)))
    (b_NoSeen : PySem.W.subIn K (.ref C_NoSeen) (.type "BaseException") = some true)
    (t_NoSeen : PySem.W.typeIn K (.ref C_NoSeen) = some (.type "type"))
    (d_NoSeen : PySem.W.hasDictIn K C_NoSeen = true)
    (r_NoSeen : PySem.W.subIn K (.ref C_NoSeen) (.ref C_NoSeen) = some true)
    (aGg_NoCounts : PySem.W.nsIn K mainGlobals "NoCounts" = some (some (.ref C_NoCounts)))
    (b_NoCounts : PySem.W.subIn K (.ref C_NoCounts) (.type "BaseException") = some true)
    (t_NoCounts : PySem.W.typeIn K (.ref C_NoCounts) = some (.type "type"))
    (d_NoCounts : PySem.W.hasDictIn K C_NoCounts = true)
    (r_NoCounts : PySem.W.subIn K (.ref C_NoCounts) (.ref C_NoCounts) = some true)
    (aGg_NoPlace : PySem.W.nsIn K mainGlobals "NoPlace" = some (some (.ref C_NoPlace)))
    (b_NoPlace : PySem.W.subIn K (.ref C_NoPlace) (.type "BaseException") = some true)
    (t_NoPlace : PySem.W.typeIn K (.ref C_NoPlace) = some (.type "type"))
    (d_NoPlace : PySem.W.hasDictIn K C_NoPlace = true)
    (r_NoPlace : PySem.W.subIn K (.ref C_NoPlace) (.ref C_NoPlace) = some true)
    (aGg_Unlike : PySem.W.nsIn K mainGlobals "Unlike" = some (some (.ref C_Unlike)))
    (b_Unlike : PySem.W.subIn K (.ref C_Unlike) (.type "BaseException") = some true)
    (t_Unlike : PySem.W.typeIn K (.ref C_Unlike) = some (.type "type"))
    (d_Unlike : PySem.W.hasDictIn K C_Unlike = true)
    (r_Unlike : PySem.W.subIn K (.ref C_Unlike) (.ref C_Unlike) = some true)
    (aGg_Full : PySem.W.nsIn K mainGlobals "Full" = some (some (.ref C_Full)))
    (b_Full : PySem.W.subIn K (.ref C_Full) (.type "BaseException") = some true)
    (t_Full : PySem.W.typeIn K (.ref C_Full) = some (.type "type"))
    (d_Full : PySem.W.hasDictIn K C_Full = true)
    (r_Full : PySem.W.subIn K (.ref C_Full) (.ref C_Full) = some true)
    (aGg_TooMany : PySem.W.nsIn K mainGlobals "TooMany" = some (some (.ref C_TooMany)))
    (b_TooMany : PySem.W.subIn K (.ref C_TooMany) (.type "BaseException") = some true)
    (t_TooMany : PySem.W.typeIn K (.ref C_TooMany) = some (.type "type"))
    (d_TooMany : PySem.W.hasDictIn K C_TooMany = true)
    (r_TooMany : PySem.W.subIn K (.ref C_TooMany) (.ref C_TooMany) = some true)
    (q_n : PySem.W.specialIn K (.builtin "object.__class__") "__get__" = some (some (.builtin "getset_descriptor.__get__")))
    (q_t : PySem.W.takesIn K (.builtin "object.__class__") = some true)
    (x_NoNumber : PySem.W.excIn K C_NoNumber [.type "ValueError", .type "Exception", .type "BaseException", .type "object"] "ValueError.__new__" = true)
    (k_NoNumber : PySem.W.keepIn K (.ref C_NoNumber) = true)
    (y_NoNumber : PySem.W.findIn K (.ref C_NoNumber) "__getattribute__" = some (some (.builtin "BaseException.__getattribute__")))
    (w_NoNumber : PySem.W.findIn K (.ref C_NoNumber) "__getattr__" = some none)
    (u_NoNumber : PySem.W.findIn K (.ref C_NoNumber) "__class__" = some (some (.builtin "object.__class__")))
    (m_NoNumber : PySem.W.mroIn K C_NoNumber (.type "object") = some true)
    (v_NoNumber : PySem.W.subIn K (.ref C_NoNumber) (.type "ValueError") = some true)
    (s_NoNumber_NoRow : PySem.W.subIn K (.ref C_NoNumber) (.ref C_NoRow) = some false)
    (s_NoNumber_NoTaker : PySem.W.subIn K (.ref C_NoNumber) (.ref C_NoTaker) = some false)
    (s_NoNumber_NoSeen : PySem.W.subIn K (.ref C_NoNumber) (.ref C_NoSeen) = some false)
    (s_NoNumber_NoCounts : PySem.W.subIn K (.ref C_NoNumber) (.ref C_NoCounts) = some false)
    (s_NoNumber_NoPlace : PySem.W.subIn K (.ref C_NoNumber) (.ref C_NoPlace) = some false)
    (s_NoNumber_Unlike : PySem.W.subIn K (.ref C_NoNumber) (.ref C_Unlike) = some false)
    (s_NoNumber_Full : PySem.W.subIn K (.ref C_NoNumber) (.ref C_Full) = some false)
    (s_NoNumber_TooMany : PySem.W.subIn K (.ref C_NoNumber) (.ref C_TooMany) = some false)
    (s_NoNumber_TakeError : PySem.W.subIn K (.ref C_NoNumber) (.ref C_TakeError) = some true)
    (x_NoTaker : PySem.W.excIn K C_NoTaker [.type "ValueError", .type "Exception", .type "BaseException", .type "object"] "ValueError.__new__" = true)
    (k_NoTaker : PySem.W.keepIn K (.ref C_NoTaker) = true)
    (y_NoTaker : PySem.W.findIn K (.ref C_NoTaker) "__getattribute__" = some (some (.builtin "BaseException.__getattribute__")))
    (w_NoTaker : PySem.W.findIn K (.ref C_NoTaker) "__getattr__" = some none)
    (u_NoTaker : PySem.W.findIn K (.ref C_NoTaker) "__class__" = some (some (.builtin "object.__class__")))
    (m_NoTaker : PySem.W.mroIn K C_NoTaker (.type "object") = some true)
    (v_NoTaker : PySem.W.subIn K (.ref C_NoTaker) (.type "ValueError") = some true)
    (s_NoTaker_NoRow : PySem.W.subIn K (.ref C_NoTaker) (.ref C_NoRow) = some false)
    (s_NoTaker_NoNumber : PySem.W.subIn K (.ref C_NoTaker) (.ref C_NoNumber) = some false)
    (s_NoTaker_NoSeen : PySem.W.subIn K (.ref C_NoTaker) (.ref C_NoSeen) = some false)
    (s_NoTaker_NoCounts : PySem.W.subIn K (.ref C_NoTaker) (.ref C_NoCounts) = some false)
    (s_NoTaker_NoPlace : PySem.W.subIn K (.ref C_NoTaker) (.ref C_NoPlace) = some false)
    (s_NoTaker_Unlike : PySem.W.subIn K (.ref C_NoTaker) (.ref C_Unlike) = some false)
    (s_NoTaker_Full : PySem.W.subIn K (.ref C_NoTaker) (.ref C_Full) = some false)
    (s_NoTaker_TooMany : PySem.W.subIn K (.ref C_NoTaker) (.ref C_TooMany) = some false)
    (s_NoTaker_TakeError : PySem.W.subIn K (.ref C_NoTaker) (.ref C_TakeError) = some true)
    (x_NoPlace : PySem.W.excIn K C_NoPlace [.type "ValueError", .type "Exception", .type "BaseException", .type "object"] "ValueError.__new__" = true)
    (k_NoPlace : PySem.W.keepIn K (.ref C_NoPlace) = true)
    (y_NoPlace : PySem.W.findIn K (.ref C_NoPlace) "__getattribute__" = some (some (.builtin "BaseException.__getattribute__")))
    (w_NoPlace : PySem.W.findIn K (.ref C_NoPlace) "__getattr__" = some none)
    (u_NoPlace : PySem.W.findIn K (.ref C_NoPlace) "__class__" = some (some (.builtin "object.__class__")))
    (m_NoPlace : PySem.W.mroIn K C_NoPlace (.type "object") = some true)
    (v_NoPlace : PySem.W.subIn K (.ref C_NoPlace) (.type "ValueError") = some true)
    (s_NoPlace_NoRow : PySem.W.subIn K (.ref C_NoPlace) (.ref C_NoRow) = some false)
    (s_NoPlace_NoNumber : PySem.W.subIn K (.ref C_NoPlace) (.ref C_NoNumber) = some false)
    (s_NoPlace_NoTaker : PySem.W.subIn K (.ref C_NoPlace) (.ref C_NoTaker) = some false)
    (s_NoPlace_NoSeen : PySem.W.subIn K (.ref C_NoPlace) (.ref C_NoSeen) = some false)
    (s_NoPlace_NoCounts : PySem.W.subIn K (.ref C_NoPlace) (.ref C_NoCounts) = some false)
    (s_NoPlace_Unlike : PySem.W.subIn K (.ref C_NoPlace) (.ref C_Unlike) = some false)
    (s_NoPlace_Full : PySem.W.subIn K (.ref C_NoPlace) (.ref C_Full) = some false)
    (s_NoPlace_TooMany : PySem.W.subIn K (.ref C_NoPlace) (.ref C_TooMany) = some false)
    (s_NoPlace_TakeError : PySem.W.subIn K (.ref C_NoPlace) (.ref C_TakeError) = some true)
    (x_Full : PySem.W.excIn K C_Full [.type "ValueError", .type "Exception", .type "BaseException", .type "object"] "ValueError.__new__" = true)
    (k_Full : PySem.W.keepIn K (.ref C_Full) = true)
    (y_Full : PySem.W.findIn K (.ref C_Full) "__getattribute__" = some (some (.builtin "BaseException.__getattribute__")))
    (w_Full : PySem.W.findIn K (.ref C_Full) "__getattr__" = some none)
    (u_Full : PySem.W.findIn K (.ref C_Full) "__class__" = some (some (.builtin "object.__class__")))
    (m_Full : PySem.W.mroIn K C_Full (.type "object") = some true)
    (v_Full : PySem.W.subIn K (.ref C_Full) (.type "ValueError") = some true)
    (s_Full_NoRow : PySem.W.subIn K (.ref C_Full) (.ref C_NoRow) = some false)
    (s_Full_NoNumber : PySem.W.subIn K (.ref C_Full) (.ref C_NoNumber) = some false)
    (s_Full_NoTaker : PySem.W.subIn K (.ref C_Full) (.ref C_NoTaker) = some false)
    (s_Full_NoSeen : PySem.W.subIn K (.ref C_Full) (.ref C_NoSeen) = some false)
    (s_Full_NoCounts : PySem.W.subIn K (.ref C_Full) (.ref C_NoCounts) = some false)
    (s_Full_NoPlace : PySem.W.subIn K (.ref C_Full) (.ref C_NoPlace) = some false)
    (s_Full_Unlike : PySem.W.subIn K (.ref C_Full) (.ref C_Unlike) = some false)
    (s_Full_TooMany : PySem.W.subIn K (.ref C_Full) (.ref C_TooMany) = some false)
    (s_Full_TakeError : PySem.W.subIn K (.ref C_Full) (.ref C_TakeError) = some true)
    {ts : List Addr} (tabs : ∀ P ∈ ts, h.get? P = some (PySem.W.tabObj #[])) (nt : PySem.W.noTabs K = true)
    {cc__law_done pt__law_done : Addr} {ec__law_done : Value} {dc__law_done : Option Addr} {vc__law_done : Array Value} {sl__law_done : Array (Option Value)} (hc__law_done : cd32 = .ref cc__law_done) (lc__law_done : K.lookup cc__law_done = some ⟨ec__law_done, dc__law_done, .fields vc__law_done, sl__law_done⟩) (tc__law_done : vc__law_done[11]? = some (.ref pt__law_done)) (ch__law_done : PySem.W.codeHdIn K cc__law_done pt__law_done = true) (mt__law_done : pt__law_done ∈ ts)
    {t0 : Tok} (v0 : PySem.W.nsIn K mainGlobals "MOST_TAKERS" = some (some (.int 8 t0)))
    {t1 : Tok} (v1 : PySem.W.nsIn K mainGlobals "LEAST_EVERY" = some (some (.int 2 t1)))
    {t2 : Tok} (v2 : PySem.W.nsIn K mainGlobals "MOST_EVERY" = some (some (.int 1000 t2)))
    {t3 : Tok} (v3 : PySem.W.nsIn K mainGlobals "MOST_PIECES" = some (some (.int 1000000000000000000 t3)))
    {t4 : Tok} (v4 : PySem.W.nsIn K mainGlobals "MOST_AT_ONCE" = some (some (.int 1000000000000 t4)))
    (z0 : PySem.W.nsIn K mainGlobals "ValueError" = some none)
    (z1 : PySem.W.nsIn K mainGlobals "all" = some none)
    (z2 : PySem.W.nsIn K mainGlobals "bool" = some none)
    (z3 : PySem.W.nsIn K mainGlobals "divmod" = some none)
    (z4 : PySem.W.nsIn K mainGlobals "enumerate" = some none)
    (z5 : PySem.W.nsIn K mainGlobals "int" = some none)
    (z6 : PySem.W.nsIn K mainGlobals "isinstance" = some none)
    (z7 : PySem.W.nsIn K mainGlobals "len" = some none)
    (z8 : PySem.W.nsIn K mainGlobals "list" = some none)
    (z9 : PySem.W.nsIn K mainGlobals "max" = some none)
    (z10 : PySem.W.nsIn K mainGlobals "min" = some none)
    (z11 : PySem.W.nsIn K mainGlobals "range" = some none)
    (z12 : PySem.W.nsIn K mainGlobals "tuple" = some none)
    (z13 : PySem.W.nsIn K mainGlobals "zip" = some none)
    : LamX.LawAtS l w K CX0 11 63 "script" mg fa h := by
  have e := hfa.symm.trans (PySem.W.mg_of X G a34)
  cases e
  let T : Top K mg := {
    C_Belt := CBelt,
    a_is_whole := f1, fd_is_whole := _, F_is_whole := fun_mk (st := s_is_whole) l1 c1 k1,
    b_is_whole := (fun_mk (st := s_is_whole) l1 c1 k1).binds (ps := ["thing", "least", "most"]) fun _ _ _ _ _ _ us hl => match us, hl with | [_, _, _], _ => rfl,
    g_is_whole := PySem.W.mg_of X G a1,
    a_check_number := f2, fd_check_number := _, F_check_number := fun_mk (st := s_check_number) l2 c2 k2,
    b_check_number := (fun_mk (st := s_check_number) l2 c2 k2).binds (ps := ["thing", "least", "most"]) fun _ _ _ _ _ _ us hl => match us, hl with | [_, _, _], _ => rfl,
    g_check_number := PySem.W.mg_of X G a2,
    a_is_taker := f3, fd_is_taker := _, F_is_taker := fun_mk (st := s_is_taker) l3 c3 k3,
    b_is_taker := (fun_mk (st := s_is_taker) l3 c3 k3).binds (ps := ["thing"]) fun _ _ _ _ _ _ us hl => match us, hl with | [_], _ => rfl,
    g_is_taker := PySem.W.mg_of X G a3,
    a_is_row := f4, fd_is_row := _, F_is_row := fun_mk (st := s_is_row) l4 c4 k4,
    b_is_row := (fun_mk (st := s_is_row) l4 c4 k4).binds (ps := ["thing"]) fun _ _ _ _ _ _ us hl => match us, hl with | [_], _ => rfl,
    g_is_row := PySem.W.mg_of X G a4,
    a_check_row := f5, fd_check_row := _, F_check_row := fun_mk (st := s_check_row) l5 c5 k5,
    b_check_row := (fun_mk (st := s_check_row) l5 c5 k5).binds (ps := ["thing"]) fun _ _ _ _ _ _ us hl => match us, hl with | [_], _ => rfl,
    g_check_row := PySem.W.mg_of X G a5,
    a_taken := f6, fd_taken := _, F_taken := fun_mk (st := s_taken) l6 c6 k6,
    b_taken := (fun_mk (st := s_taken) l6 c6 k6).binds (ps := ["row", "number"]) fun _ _ _ _ _ _ us hl => match us, hl with | [_, _], _ => rfl,
    g_taken := PySem.W.mg_of X G a6,
    a_check_place := f7, fd_check_place := _, F_check_place := fun_mk (st := s_check_place) l7 c7 k7,
    b_check_place := (fun_mk (st := s_check_place) l7 c7 k7).binds (ps := ["row", "thing"]) fun _ _ _ _ _ _ us hl => match us, hl with | [_, _], _ => rfl,
    g_check_place := PySem.W.mg_of X G a7,
    a_counted_on := f8, fd_counted_on := _, F_counted_on := fun_mk (st := s_counted_on) l8 c8 k8,
    b_counted_on := (fun_mk (st := s_counted_on) l8 c8 k8).binds (ps := ["row", "number"]) fun _ _ _ _ _ _ us hl => match us, hl with | [_, _], _ => rfl,
    g_counted_on := PySem.W.mg_of X G a8,
    a_Belt___init__ := f9, fd_Belt___init__ := _, F_Belt___init__ := fun_mk (st := s_Belt___init__) l9 c9 k9,
    b_Belt___init__ := (fun_mk (st := s_Belt___init__) l9 c9 k9).binds (ps := ["self"]) fun _ _ _ _ _ _ us hl => match us, hl with | [_], _ => rfl,
    m_Belt___init__ := ⟨a9, i9, k9⟩,
    a_Belt_go_by := f10, fd_Belt_go_by := _, F_Belt_go_by := fun_mk (st := s_Belt_go_by) l10 c10 k10,
    b_Belt_go_by := (fun_mk (st := s_Belt_go_by) l10 c10 k10).binds (ps := ["self", "number"]) fun _ _ _ _ _ _ us hl => match us, hl with | [_, _], _ => rfl,
    m_Belt_go_by := ⟨a10, i10, k10⟩,
    a_Belt_come := f11, fd_Belt_come := _, F_Belt_come := fun_mk (st := s_Belt_come) l11 c11 k11,
    b_Belt_come := (fun_mk (st := s_Belt_come) l11 c11 k11).binds (ps := ["self", "taker"]) fun _ _ _ _ _ _ us hl => match us, hl with | [_, _], _ => rfl,
    m_Belt_come := ⟨a11, i11, k11⟩,
    a_Belt_leave := f12, fd_Belt_leave := _, F_Belt_leave := fun_mk (st := s_Belt_leave) l12 c12 k12,
    b_Belt_leave := (fun_mk (st := s_Belt_leave) l12 c12 k12).binds (ps := ["self", "place"]) fun _ _ _ _ _ _ us hl => match us, hl with | [_, _], _ => rfl,
    m_Belt_leave := ⟨a12, i12, k12⟩,
    a_Belt_change := f13, fd_Belt_change := _, F_Belt_change := fun_mk (st := s_Belt_change) l13 c13 k13,
    b_Belt_change := (fun_mk (st := s_Belt_change) l13 c13 k13).binds (ps := ["self", "place", "other"]) fun _ _ _ _ _ _ us hl => match us, hl with | [_, _, _], _ => rfl,
    m_Belt_change := ⟨a13, i13, k13⟩,
    a_Belt_row := f14, fd_Belt_row := _, F_Belt_row := fun_mk (st := s_Belt_row) l14 c14 k14,
    b_Belt_row := (fun_mk (st := s_Belt_row) l14 c14 k14).binds (ps := ["self"]) fun _ _ _ _ _ _ us hl => match us, hl with | [_], _ => rfl,
    m_Belt_row := ⟨a14, i14, k14⟩,
    a_Belt_gone := f15, fd_Belt_gone := _, F_Belt_gone := fun_mk (st := s_Belt_gone) l15 c15 k15,
    b_Belt_gone := (fun_mk (st := s_Belt_gone) l15 c15 k15).binds (ps := ["self"]) fun _ _ _ _ _ _ us hl => match us, hl with | [_], _ => rfl,
    m_Belt_gone := ⟨a15, i15, k15⟩,
    a_Belt_left_over := f16, fd_Belt_left_over := _, F_Belt_left_over := fun_mk (st := s_Belt_left_over) l16 c16 k16,
    b_Belt_left_over := (fun_mk (st := s_Belt_left_over) l16 c16 k16).binds (ps := ["self"]) fun _ _ _ _ _ _ us hl => match us, hl with | [_], _ => rfl,
    m_Belt_left_over := ⟨a16, i16, k16⟩,
    a_Belt___len__ := f17, fd_Belt___len__ := _, F_Belt___len__ := fun_mk (st := s_Belt___len__) l17 c17 k17,
    b_Belt___len__ := (fun_mk (st := s_Belt___len__) l17 c17 k17).binds (ps := ["self"]) fun _ _ _ _ _ _ us hl => match us, hl with | [_], _ => rfl,
    m_Belt___len__ := ⟨a17, i17, k17⟩,
    a_Belt___eq__ := f18, fd_Belt___eq__ := _, F_Belt___eq__ := fun_mk (st := s_Belt___eq__) l18 c18 k18,
    b_Belt___eq__ := (fun_mk (st := s_Belt___eq__) l18 c18 k18).binds (ps := ["self", "other"]) fun _ _ _ _ _ _ us hl => match us, hl with | [_, _], _ => rfl,
    m_Belt___eq__ := ⟨a18, i18, k18⟩,
    a__law_cell_at := f19, fd__law_cell_at := _, F__law_cell_at := fun_mk (st := s__law_cell_at) l19 c19 k19,
    b__law_cell_at := (fun_mk (st := s__law_cell_at) l19 c19 k19).binds (ps := ["script", "k"]) fun _ _ _ _ _ _ us hl => match us, hl with | [_, _], _ => rfl,
    g__law_cell_at := PySem.W.mg_of X G a19,
    a__law_draws := f20, fd__law_draws := _, F__law_draws := fun_mk (st := s__law_draws) l20 c20 k20,
    b__law_draws := (fun_mk (st := s__law_draws) l20 c20 k20).binds (ps := ["cell", "many", "size"]) fun _ _ _ _ _ _ us hl => match us, hl with | [_, _, _], _ => rfl,
    g__law_draws := PySem.W.mg_of X G a20,
    a__law_from := f21, fd__law_from := _, F__law_from := fun_mk (st := s__law_from) l21 c21 k21,
    b__law_from := (fun_mk (st := s__law_from) l21 c21 k21).binds (ps := ["thing", "least", "top"]) fun _ _ _ _ _ _ us hl => match us, hl with | [_, _, _], _ => rfl,
    g__law_from := PySem.W.mg_of X G a21,
    a__law_bag := f22, fd__law_bag := _, F__law_bag := fun_mk (st := s__law_bag) l22 c22 k22,
    b__law_bag := (fun_mk (st := s__law_bag) l22 c22 k22).binds (ps := ["script", "k"]) fun _ _ _ _ _ _ us hl => match us, hl with | [_, _], _ => rfl,
    g__law_bag := PySem.W.mg_of X G a22,
    a__law_bags := f23, fd__law_bags := _, F__law_bags := fun_mk (st := s__law_bags) l23 c23 k23,
    b__law_bags := (fun_mk (st := s__law_bags) l23 c23 k23).binds (ps := ["script", "limit"]) fun _ _ _ _ _ _ us hl => match us, hl with | [_, _], _ => rfl,
    g__law_bags := PySem.W.mg_of X G a23,
    a__law_take := f24, fd__law_take := _, F__law_take := fun_mk (st := s__law_take) l24 c24 k24,
    b__law_take := (fun_mk (st := s__law_take) l24 c24 k24).binds (ps := ["bag", "many"]) fun _ _ _ _ _ _ us hl => match us, hl with | [_, _], _ => rfl,
    g__law_take := PySem.W.mg_of X G a24,
    a__law_far_draw := f25, fd__law_far_draw := _, F__law_far_draw := fun_mk (st := s__law_far_draw) l25 c25 k25,
    b__law_far_draw := (fun_mk (st := s__law_far_draw) l25 c25 k25).binds (ps := ["bag", "many"]) fun _ _ _ _ _ _ us hl => match us, hl with | [_, _], _ => rfl,
    g__law_far_draw := PySem.W.mg_of X G a25,
    a__law_taker := f26, fd__law_taker := _, F__law_taker := fun_mk (st := s__law_taker) l26 c26 k26,
    b__law_taker := (fun_mk (st := s__law_taker) l26 c26 k26).binds (ps := ["bag", "far"]) fun _ _ _ _ _ _ us hl => match us, hl with | [_, _], _ => rfl,
    g__law_taker := PySem.W.mg_of X G a26,
    a__law_gone := f27, fd__law_gone := _, F__law_gone := fun_mk (st := s__law_gone) l27 c27 k27,
    b__law_gone := (fun_mk (st := s__law_gone) l27 c27 k27).binds (ps := ["house", "many"]) fun _ _ _ _ _ _ us hl => match us, hl with | [_, _], _ => rfl,
    g__law_gone := PySem.W.mg_of X G a27,
    a__law_numbers := f28, fd__law_numbers := _, F__law_numbers := fun_mk (st := s__law_numbers) l28 c28 k28,
    b__law_numbers := (fun_mk (st := s__law_numbers) l28 c28 k28).binds (ps := ["house", "seen"]) fun _ _ _ _ _ _ us hl => match us, hl with | [_, _], _ => rfl,
    g__law_numbers := PySem.W.mg_of X G a28,
    a__law_refused := f29, fd__law_refused := _, F__law_refused := fun_mk (st := s__law_refused) l29 c29 k29,
    b__law_refused := (fun_mk (st := s__law_refused) l29 c29 k29).binds (ps := ["call", "one", "two", "three"]) fun _ _ _ _ _ _ us hl => match us, hl with | [_, _, _, _], _ => rfl,
    g__law_refused := PySem.W.mg_of X G a29,
    a__law_after := f30, fd__law_after := _, F__law_after := fun_mk (st := s__law_after) l30 c30 k30,
    b__law_after := (fun_mk (st := s__law_after) l30 c30 k30).binds (ps := ["state", "deed"]) fun _ _ _ _ _ _ us hl => match us, hl with | [_, _], _ => rfl,
    g__law_after := PySem.W.mg_of X G a30,
    a__law_do := f31, fd__law_do := _, F__law_do := fun_mk (st := s__law_do) l31 c31 k31,
    b__law_do := (fun_mk (st := s__law_do) l31 c31 k31).binds (ps := ["belt", "deed"]) fun _ _ _ _ _ _ us hl => match us, hl with | [_, _], _ => rfl,
    g__law_do := PySem.W.mg_of X G a31,
    a__law_done := f32, fd__law_done := _, F__law_done := fun_mk (st := s__law_done) l32 c32 k32,
    b__law_done := (fun_mk (st := s__law_done) l32 c32 k32).binds (ps := ["belt", "deed"]) fun _ _ _ _ _ _ us hl => match us, hl with | [_, _], _ => rfl,
    g__law_done := PySem.W.mg_of X G a32,
    a__law_a_deed := f33, fd__law_a_deed := _, F__law_a_deed := fun_mk (st := s__law_a_deed) l33 c33 k33,
    b__law_a_deed := (fun_mk (st := s__law_a_deed) l33 c33 k33).binds (ps := ["bag", "many"]) fun _ _ _ _ _ _ us hl => match us, hl with | [_, _], _ => rfl,
    g__law_a_deed := PySem.W.mg_of X G a33,
    a_law := fa, fd_law := _, F_law := fun_mk (st := s_law) l34 c34 k34,
    b_law := (fun_mk (st := s_law) l34 c34 k34).binds (ps := ["script"]) fun _ _ _ _ _ _ us hl => match us, hl with | [_], _ => rfl,
    g_law := PySem.W.mg_of X G a34,
    cl_Belt := ⟨pgBelt, hdBelt, poBelt, saBelt⟩, mk_Belt := ⟨mkBelt, a9, i9, kcBelt⟩, g_Belt := PySem.W.mg_of X G aCBelt,
    n_Belt_takers := nBelt_takers,
    n_Belt_pieces := nBelt_pieces,
    n_Belt_passed := nBelt_passed,
    ins_Belt := ⟨⟨pgBelt, hdBelt, poBelt, saBelt⟩, haBelt, hnBelt, htBelt, hmBelt, meBelt⟩, st_Belt := stBelt,
    ty_Belt := tyBelt,
    C_TakeError := C_TakeError,
    C_NoRow := C_NoRow,
    C_NoNumber := C_NoNumber,
    C_NoTaker := C_NoTaker,
    C_NoSeen := C_NoSeen,
    C_NoCounts := C_NoCounts,
    C_NoPlace := C_NoPlace,
    C_Unlike := C_Unlike,
    C_Full := C_Full,
    C_TooMany := C_TooMany,
    g_TakeError := PySem.W.mg_of X G aGg_TakeError,
    b_TakeError := b_TakeError,
    t_TakeError := t_TakeError,
    d_TakeError := d_TakeError,
    r_TakeError := r_TakeError,
    g_NoRow := PySem.W.mg_of X G aGg_NoRow,
    b_NoRow := b_NoRow,
    t_NoRow := t_NoRow,
    d_NoRow := d_NoRow,
    r_NoRow := r_NoRow,
    g_NoNumber := PySem.W.mg_of X G aGg_NoNumber,
    b_NoNumber := b_NoNumber,
    t_NoNumber := t_NoNumber,
    d_NoNumber := d_NoNumber,
    r_NoNumber := r_NoNumber,
    g_NoTaker := PySem.W.mg_of X G aGg_NoTaker,
    b_NoTaker := b_NoTaker,
    t_NoTaker := t_NoTaker,
    d_NoTaker := d_NoTaker,
    r_NoTaker := r_NoTaker,
    g_NoSeen := PySem.W.mg_of X G aGg_NoSeen,
    b_NoSeen := b_NoSeen,
    t_NoSeen := t_NoSeen,
    d_NoSeen := d_NoSeen,
    r_NoSeen := r_NoSeen,
    g_NoCounts := PySem.W.mg_of X G aGg_NoCounts,
    b_NoCounts := b_NoCounts,
    t_NoCounts := t_NoCounts,
    d_NoCounts := d_NoCounts,
    r_NoCounts := r_NoCounts,
    g_NoPlace := PySem.W.mg_of X G aGg_NoPlace,
    b_NoPlace := b_NoPlace,
    t_NoPlace := t_NoPlace,
    d_NoPlace := d_NoPlace,
    r_NoPlace := r_NoPlace,
    g_Unlike := PySem.W.mg_of X G aGg_Unlike,
    b_Unlike := b_Unlike,
    t_Unlike := t_Unlike,
    d_Unlike := d_Unlike,
    r_Unlike := r_Unlike,
    g_Full := PySem.W.mg_of X G aGg_Full,
    b_Full := b_Full,
    t_Full := t_Full,
    d_Full := d_Full,
    r_Full := r_Full,
    g_TooMany := PySem.W.mg_of X G aGg_TooMany,
    b_TooMany := b_TooMany,
    t_TooMany := t_TooMany,
    d_TooMany := d_TooMany,
    r_TooMany := r_TooMany,
    q_n := q_n,
    q_t := q_t,
    x_NoNumber := x_NoNumber,
    k_NoNumber := k_NoNumber,
    y_NoNumber := y_NoNumber,
    w_NoNumber := w_NoNumber,
    u_NoNumber := u_NoNumber,
    m_NoNumber := m_NoNumber,
    v_NoNumber := v_NoNumber,
    s_NoNumber_NoRow := s_NoNumber_NoRow,
    s_NoNumber_NoTaker := s_NoNumber_NoTaker,
    s_NoNumber_NoSeen := s_NoNumber_NoSeen,
    s_NoNumber_NoCounts := s_NoNumber_NoCounts,
    s_NoNumber_NoPlace := s_NoNumber_NoPlace,
    s_NoNumber_Unlike := s_NoNumber_Unlike,
    s_NoNumber_Full := s_NoNumber_Full,
    s_NoNumber_TooMany := s_NoNumber_TooMany,
    s_NoNumber_TakeError := s_NoNumber_TakeError,
    x_NoTaker := x_NoTaker,
    k_NoTaker := k_NoTaker,
    y_NoTaker := y_NoTaker,
    w_NoTaker := w_NoTaker,
    u_NoTaker := u_NoTaker,
    m_NoTaker := m_NoTaker,
    v_NoTaker := v_NoTaker,
    s_NoTaker_NoRow := s_NoTaker_NoRow,
    s_NoTaker_NoNumber := s_NoTaker_NoNumber,
    s_NoTaker_NoSeen := s_NoTaker_NoSeen,
    s_NoTaker_NoCounts := s_NoTaker_NoCounts,
    s_NoTaker_NoPlace := s_NoTaker_NoPlace,
    s_NoTaker_Unlike := s_NoTaker_Unlike,
    s_NoTaker_Full := s_NoTaker_Full,
    s_NoTaker_TooMany := s_NoTaker_TooMany,
    s_NoTaker_TakeError := s_NoTaker_TakeError,
    x_NoPlace := x_NoPlace,
    k_NoPlace := k_NoPlace,
    y_NoPlace := y_NoPlace,
    w_NoPlace := w_NoPlace,
    u_NoPlace := u_NoPlace,
    m_NoPlace := m_NoPlace,
    v_NoPlace := v_NoPlace,
    s_NoPlace_NoRow := s_NoPlace_NoRow,
    s_NoPlace_NoNumber := s_NoPlace_NoNumber,
    s_NoPlace_NoTaker := s_NoPlace_NoTaker,
    s_NoPlace_NoSeen := s_NoPlace_NoSeen,
    s_NoPlace_NoCounts := s_NoPlace_NoCounts,
    s_NoPlace_Unlike := s_NoPlace_Unlike,
    s_NoPlace_Full := s_NoPlace_Full,
    s_NoPlace_TooMany := s_NoPlace_TooMany,
    s_NoPlace_TakeError := s_NoPlace_TakeError,
    x_Full := x_Full,
    k_Full := k_Full,
    y_Full := y_Full,
    w_Full := w_Full,
    u_Full := u_Full,
    m_Full := m_Full,
    v_Full := v_Full,
    s_Full_NoRow := s_Full_NoRow,
    s_Full_NoNumber := s_Full_NoNumber,
    s_Full_NoTaker := s_Full_NoTaker,
    s_Full_NoSeen := s_Full_NoSeen,
    s_Full_NoCounts := s_Full_NoCounts,
    s_Full_NoPlace := s_Full_NoPlace,
    s_Full_Unlike := s_Full_Unlike,
    s_Full_TooMany := s_Full_TooMany,
    s_Full_TakeError := s_Full_TakeError,
    cc__law_done := cc__law_done, pt__law_done := pt__law_done, hc__law_done := hc__law_done,
    t_MOST_TAKERS := t0, g_MOST_TAKERS := PySem.W.mg_of X G v0,
    t_LEAST_EVERY := t1, g_LEAST_EVERY := PySem.W.mg_of X G v1,
    t_MOST_EVERY := t2, g_MOST_EVERY := PySem.W.mg_of X G v2,
    t_MOST_PIECES := t3, g_MOST_PIECES := PySem.W.mg_of X G v3,
    t_MOST_AT_ONCE := t4, g_MOST_AT_ONCE := PySem.W.mg_of X G v4,
    z_ValueError := PySem.W.mg_none_of X G z0,
    z_all := PySem.W.mg_none_of X G z1,
    z_bool := PySem.W.mg_none_of X G z2,
    z_divmod := PySem.W.mg_none_of X G z3,
    z_enumerate := PySem.W.mg_none_of X G z4,
    z_int := PySem.W.mg_none_of X G z5,
    z_isinstance := PySem.W.mg_none_of X G z6,
    z_len := PySem.W.mg_none_of X G z7,
    z_list := PySem.W.mg_none_of X G z8,
    z_max := PySem.W.mg_none_of X G z9,
    z_min := PySem.W.mg_none_of X G z10,
    z_range := PySem.W.mg_none_of X G z11,
    z_tuple := PySem.W.mg_none_of X G z12,
    z_zip := PySem.W.mg_none_of X G z13 }
  have hp : ∀ p ∈ cs0 T, h.get? p.2 = some { cls := .none, data := .fields #[] } ∧ PySem.W.codeHdIn K p.1 p.2 = true := by
    intro p hp
    simp only [cs0, List.mem_cons, List.not_mem_nil, or_false] at hp
    rcases hp with rfl
    · exact ⟨tabs _ mt__law_done, ch__law_done⟩
  exact ⟨T.fd_law, cs0 T, spLawT K T, fun p h1 => (hp p h1).1, fun p h1 => no_tab X nt (hp p h1).1, fun p h1 => PySem.W.codeHd_of_K X (hp p h1).2, fun s v => .of_eq rfl,
    fun H a ns hl _ hH hS => ⟨a, ns, rfl, hS, hl, tabs0 T hH, fun _ => rfl⟩, fun base _ _ TB => ok_law T TB⟩
end Lk15
open PySem PySem.W PyProof.Rows
set_option maxHeartbeats 0 in
theorem PySem.Challenge.cw_takenth_k15_whole_a_belt_kept_deed_by_de_holds : PySem.Challenge.rw_takenth_k15_whole_a_belt_kept_deed_by_de.Holds := by
  w_on; o_law; k_head; (case hw => w_witness2)
  k_fill
  refine LamX.walk_ofTs (l := PySem.Challenge.rw_takenth_k15_whole_a_belt_kept_deed_by_de) (n := 63) (k := 11) (x := "script") (CX := fun _ => L2.CX0) rfl (by decide) rfl ⟨rfl, by decide, by decide⟩ (fun w h Y => PySem.W.km_in_of Y) ?F (fun _ _ _ _ _ h => h)
  case F =>
    intro w mg fa h Y KX G hmg
    refine' Lk15.all_mk KX G hmg ?a1 ?l1 ?c1 ?k1 ?a2 ?l2 ?c2 ?k2 ?a3 ?l3 ?c3 ?k3 ?a4 ?l4 ?c4 ?k4 ?a5 ?l5 ?c5 ?k5 ?a6 ?l6 ?c6 ?k6 ?a7 ?l7 ?c7 ?k7 ?a8 ?l8 ?c8 ?k8 ?a9 ?i9 ?l9 ?c9 ?k9 ?a10 ?i10 ?l10 ?c10 ?k10 ?a11 ?i11 ?l11 ?c11 ?k11 ?a12 ?i12 ?l12 ?c12 ?k12 ?a13 ?i13 ?l13 ?c13 ?k13 ?a14 ?i14 ?l14 ?c14 ?k14 ?a15 ?i15 ?l15 ?c15 ?k15 ?a16 ?i16 ?l16 ?c16 ?k16 ?a17 ?i17 ?l17 ?c17 ?k17 ?a18 ?i18 ?l18 ?c18 ?k18 ?a19 ?l19 ?c19 ?k19 ?a20 ?l20 ?c20 ?k20 ?a21 ?l21 ?c21 ?k21 ?a22 ?l22 ?c22 ?k22 ?a23 ?l23 ?c23 ?k23 ?a24 ?l24 ?c24 ?k24 ?a25 ?l25 ?c25 ?k25 ?a26 ?l26 ?c26 ?k26 ?a27 ?l27 ?c27 ?k27 ?a28 ?l28 ?c28 ?k28 ?a29 ?l29 ?c29 ?k29 ?a30 ?l30 ?c30 ?k30 ?a31 ?l31 ?c31 ?k31 ?a32 ?l32 ?c32 ?k32 ?a33 ?l33 ?c33 ?k33 ?a34 ?l34 ?c34 ?k34 ?aCBelt ?pgBelt ?hdBelt ?poBelt ?saBelt ?mkBelt ?kcBelt ?haBelt ?hnBelt ?htBelt ?hmBelt ?meBelt ?stBelt ?tyBelt ?nBelt_takers ?nBelt_pieces ?nBelt_passed ?aGg_TakeError ?b_TakeError ?t_TakeError ?d_TakeError ?r_TakeError ?aGg_NoRow ?b_NoRow ?t_NoRow ?d_NoRow ?r_NoRow ?aGg_NoNumber ?b_NoNumber ?t_NoNumber ?d_NoNumber ?r_NoNumber ?aGg_NoTaker ?b_NoTaker ?t_NoTaker ?d_NoTaker ?r_NoTaker ?aGg_NoSeen ?b_NoSeen ?t_NoSeen ?d_NoSeen ?r_NoSeen ?aGg_NoCounts ?b_NoCounts ?t_NoCounts ?d_NoCounts ?r_NoCounts ?aGg_NoPlace ?b_NoPlace ?t_NoPlace ?d_NoPlace ?r_NoPlace ?aGg_Unlike ?b_Unlike ?t_Unlike ?d_Unlike ?r_Unlike ?aGg_Full ?b_Full ?t_Full ?d_Full ?r_Full ?aGg_TooMany ?b_TooMany ?t_TooMany ?d_TooMany ?r_TooMany ?q_n ?q_t ?x_NoNumber ?k_NoNumber ?y_NoNumber ?w_NoNumber ?u_NoNumber ?m_NoNumber ?v_NoNumber ?s_NoNumber_NoRow ?s_NoNumber_NoTaker ?s_NoNumber_NoSeen ?s_NoNumber_NoCounts ?s_NoNumber_NoPlace ?s_NoNumber_Unlike ?s_NoNumber_Full ?s_NoNumber_TooMany ?s_NoNumber_TakeError ?x_NoTaker ?k_NoTaker ?y_NoTaker ?w_NoTaker ?u_NoTaker ?m_NoTaker ?v_NoTaker ?s_NoTaker_NoRow ?s_NoTaker_NoNumber ?s_NoTaker_NoSeen ?s_NoTaker_NoCounts ?s_NoTaker_NoPlace ?s_NoTaker_Unlike ?s_NoTaker_Full ?s_NoTaker_TooMany ?s_NoTaker_TakeError ?x_NoPlace ?k_NoPlace ?y_NoPlace ?w_NoPlace ?u_NoPlace ?m_NoPlace ?v_NoPlace ?s_NoPlace_NoRow ?s_NoPlace_NoNumber ?s_NoPlace_NoTaker ?s_NoPlace_NoSeen ?s_NoPlace_NoCounts ?s_NoPlace_Unlike ?s_NoPlace_Full ?s_NoPlace_TooMany ?s_NoPlace_TakeError ?x_Full ?k_Full ?y_Full ?w_Full ?u_Full ?m_Full ?v_Full ?s_Full_NoRow ?s_Full_NoNumber ?s_Full_NoTaker ?s_Full_NoSeen ?s_Full_NoCounts ?s_Full_NoPlace ?s_Full_Unlike ?s_Full_TooMany ?s_Full_TakeError (PySem.W.km_tabs_of Y) ?nt ?hc__law_done ?lc__law_done ?tc__law_done ?ch__law_done ?mt__law_done ?v0 ?v1 ?v2 ?v3 ?v4 ?z0 ?z1 ?z2 ?z3 ?z4 ?z5 ?z6 ?z7 ?z8 ?z9 ?z10 ?z11 ?z12 ?z13
    (case aCBelt => k_is)
    (case aGg_TakeError => k_is)
    (case aGg_NoRow => k_is)
    (case aGg_NoNumber => k_is)
    (case aGg_NoTaker => k_is)
    (case aGg_NoSeen => k_is)
    (case aGg_NoCounts => k_is)
    (case aGg_NoPlace => k_is)
    (case aGg_Unlike => k_is)
    (case aGg_Full => k_is)
    (case aGg_TooMany => k_is)
    (case a1 => k_is)
    (case l1 => k_is)
    (case c1 => k_is)
    (case k1 => k_is)
    (case a2 => k_is)
    (case l2 => k_is)
    (case c2 => k_is)
    (case k2 => k_is)
    (case a3 => k_is)
    (case l3 => k_is)
    (case c3 => k_is)
    (case k3 => k_is)
    (case a4 => k_is)
    (case l4 => k_is)
    (case c4 => k_is)
    (case k4 => k_is)
    (case a5 => k_is)
    (case l5 => k_is)
    (case c5 => k_is)
    (case k5 => k_is)
    (case a6 => k_is)
    (case l6 => k_is)
    (case c6 => k_is)
    (case k6 => k_is)
    (case a7 => k_is)
    (case l7 => k_is)
    (case c7 => k_is)
    (case k7 => k_is)
    (case a8 => k_is)
    (case l8 => k_is)
    (case c8 => k_is)
    (case k8 => k_is)
    (case a9 => k_is)
    (case i9 => k_is)
    (case l9 => k_is)
    (case c9 => k_is)
    (case k9 => k_is)
    (case a10 => k_is)
    (case i10 => k_is)
    (case l10 => k_is)
    (case c10 => k_is)
    (case k10 => k_is)
    (case a11 => k_is)
    (case i11 => k_is)
    (case l11 => k_is)
    (case c11 => k_is)
    (case k11 => k_is)
    (case a12 => k_is)
    (case i12 => k_is)
    (case l12 => k_is)
    (case c12 => k_is)
    (case k12 => k_is)
    (case a13 => k_is)
    (case i13 => k_is)
    (case l13 => k_is)
    (case c13 => k_is)
    (case k13 => k_is)
    (case a14 => k_is)
    (case i14 => k_is)
    (case l14 => k_is)
    (case c14 => k_is)
    (case k14 => k_is)
    (case a15 => k_is)
    (case i15 => k_is)
    (case l15 => k_is)
    (case c15 => k_is)
    (case k15 => k_is)
    (case a16 => k_is)
    (case i16 => k_is)
    (case l16 => k_is)
    (case c16 => k_is)
    (case k16 => k_is)
    (case a17 => k_is)
    (case i17 => k_is)
    (case l17 => k_is)
    (case c17 => k_is)
    (case k17 => k_is)
    (case a18 => k_is)
    (case i18 => k_is)
    (case l18 => k_is)
    (case c18 => k_is)
    (case k18 => k_is)
    (case a19 => k_is)
    (case l19 => k_is)
    (case c19 => k_is)
    (case k19 => k_is)
    (case a20 => k_is)
    (case l20 => k_is)
    (case c20 => k_is)
    (case k20 => k_is)
    (case a21 => k_is)
    (case l21 => k_is)
    (case c21 => k_is)
    (case k21 => k_is)
    (case a22 => k_is)
    (case l22 => k_is)
    (case c22 => k_is)
    (case k22 => k_is)
    (case a23 => k_is)
    (case l23 => k_is)
    (case c23 => k_is)
    (case k23 => k_is)
    (case a24 => k_is)
    (case l24 => k_is)
    (case c24 => k_is)
    (case k24 => k_is)
    (case a25 => k_is)
    (case l25 => k_is)
    (case c25 => k_is)
    (case k25 => k_is)
    (case a26 => k_is)
    (case l26 => k_is)
    (case c26 => k_is)
    (case k26 => k_is)
    (case a27 => k_is)
    (case l27 => k_is)
    (case c27 => k_is)
    (case k27 => k_is)
    (case a28 => k_is)
    (case l28 => k_is)
    (case c28 => k_is)
    (case k28 => k_is)
    (case a29 => k_is)
    (case l29 => k_is)
    (case c29 => k_is)
    (case k29 => k_is)
    (case a30 => k_is)
    (case l30 => k_is)
    (case c30 => k_is)
    (case k30 => k_is)
    (case a31 => k_is)
    (case l31 => k_is)
    (case c31 => k_is)
    (case k31 => k_is)
    (case a32 => k_is)
    (case l32 => k_is)
    (case c32 => k_is)
    (case k32 => k_is)
    (case a33 => k_is)
    (case l33 => k_is)
    (case c33 => k_is)
    (case k33 => k_is)
    (case a34 => k_is)
    (case l34 => k_is)
    (case c34 => k_is)
    (case k34 => k_is)
    (case pgBelt => k_is)
    (case hdBelt => k_is)
    (case poBelt => k_is)
    (case saBelt => k_is)
    (case mkBelt => k_is)
    (case kcBelt => k_is)
    (case haBelt => k_is)
    (case hnBelt => k_is)
    (case htBelt => k_is)
    (case hmBelt => k_is)
    (case meBelt => simp [PySem.W.kitOne])
    (case stBelt => k_is)
    (case tyBelt => k_is)
    (case nBelt_takers => k_is)
    (case nBelt_pieces => k_is)
    (case nBelt_passed => k_is)
    (case b_TakeError => k_is)
    (case t_TakeError => k_is)
    (case d_TakeError => k_is)
    (case r_TakeError => k_is)
    (case b_NoRow => k_is)
    (case t_NoRow => k_is)
    (case d_NoRow => k_is)
    (case r_NoRow => k_is)
    (case b_NoNumber => k_is)
    (case t_NoNumber => k_is)
    (case d_NoNumber => k_is)
    (case r_NoNumber => k_is)
    (case b_NoTaker => k_is)
    (case t_NoTaker => k_is)
    (case d_NoTaker => k_is)
    (case r_NoTaker => k_is)
    (case b_NoSeen => k_is)
    (case t_NoSeen => k_is)
    (case d_NoSeen => k_is)
    (case r_NoSeen => k_is)
    (case b_NoCounts => k_is)
    (case t_NoCounts => k_is)
    (case d_NoCounts => k_is)
    (case r_NoCounts => k_is)
    (case b_NoPlace => k_is)
    (case t_NoPlace => k_is)
    (case d_NoPlace => k_is)
    (case r_NoPlace => k_is)
    (case b_Unlike => k_is)
    (case t_Unlike => k_is)
    (case d_Unlike => k_is)
    (case r_Unlike => k_is)
    (case b_Full => k_is)
    (case t_Full => k_is)
    (case d_Full => k_is)
    (case r_Full => k_is)
    (case b_TooMany => k_is)
    (case t_TooMany => k_is)
    (case d_TooMany => k_is)
    (case r_TooMany => k_is)
    (case q_n => k_is)
    (case q_t => k_is)
    (case x_NoNumber => k_exc)
    (case k_NoNumber => k_is)
    (case y_NoNumber => k_is)
    (case w_NoNumber => k_is)
    (case u_NoNumber => k_is)
    (case m_NoNumber => k_is)
    (case v_NoNumber => k_is)
    (case s_NoNumber_NoRow => k_is)
    (case s_NoNumber_NoTaker => k_is)
    (case s_NoNumber_NoSeen => k_is)
    (case s_NoNumber_NoCounts => k_is)
    (case s_NoNumber_NoPlace => k_is)
    (case s_NoNumber_Unlike => k_is)
    (case s_NoNumber_Full => k_is)
    (case s_NoNumber_TooMany => k_is)
    (case s_NoNumber_TakeError => k_is)
    (case x_NoTaker => k_exc)
    (case k_NoTaker => k_is)
    (case y_NoTaker => k_is)
    (case w_NoTaker => k_is)
    (case u_NoTaker => k_is)
    (case m_NoTaker => k_is)
    (case v_NoTaker => k_is)
    (case s_NoTaker_NoRow => k_is)
    (case s_NoTaker_NoNumber => k_is)
    (case s_NoTaker_NoSeen => k_is)
    (case s_NoTaker_NoCounts => k_is)
    (case s_NoTaker_NoPlace => k_is)
    (case s_NoTaker_Unlike => k_is)
    (case s_NoTaker_Full => k_is)
    (case s_NoTaker_TooMany => k_is)
    (case s_NoTaker_TakeError => k_is)
    (case x_NoPlace => k_exc)
    (case k_NoPlace => k_is)
    (case y_NoPlace => k_is)
    (case w_NoPlace => k_is)
    (case u_NoPlace => k_is)
    (case m_NoPlace => k_is)
    (case v_NoPlace => k_is)
    (case s_NoPlace_NoRow => k_is)
    (case s_NoPlace_NoNumber => k_is)
    (case s_NoPlace_NoTaker => k_is)
    (case s_NoPlace_NoSeen => k_is)
    (case s_NoPlace_NoCounts => k_is)
    (case s_NoPlace_Unlike => k_is)
    (case s_NoPlace_Full => k_is)
    (case s_NoPlace_TooMany => k_is)
    (case s_NoPlace_TakeError => k_is)
    (case x_Full => k_exc)
    (case k_Full => k_is)
    (case y_Full => k_is)
    (case w_Full => k_is)
    (case u_Full => k_is)
    (case m_Full => k_is)
    (case v_Full => k_is)
    (case s_Full_NoRow => k_is)
    (case s_Full_NoNumber => k_is)
    (case s_Full_NoTaker => k_is)
    (case s_Full_NoSeen => k_is)
    (case s_Full_NoCounts => k_is)
    (case s_Full_NoPlace => k_is)
    (case s_Full_Unlike => k_is)
    (case s_Full_TooMany => k_is)
    (case s_Full_TakeError => k_is)
    (case nt => rfl)
    (case hc__law_done => rfl)
    (case lc__law_done => k_is)
    (case tc__law_done => rfl)
    (case ch__law_done => rfl)
    (case mt__law_done => simp)
    (case v0 => k_is)
    (case v1 => k_is)
    (case v2 => k_is)
    (case v3 => k_is)
    (case v4 => k_is)
    (case z0 => k_is)
    (case z1 => k_is)
    (case z2 => k_is)
    (case z3 => k_is)
    (case z4 => k_is)
    (case z5 => k_is)
    (case z6 => k_is)
    (case z7 => k_is)
    (case z8 => k_is)
    (case z9 => k_is)
    (case z10 => k_is)
    (case z11 => k_is)
    (case z12 => k_is)
    (case z13 => k_is)
