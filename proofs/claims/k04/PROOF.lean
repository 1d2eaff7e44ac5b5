import PyProof.Rows.All
import Wide.All
import OpenK.AllK
import Wide.FinOn
import HandS.ForMost
import HandS.IsInst
import HandS.TupAny
import HandS.Walk
import HandS.Rev
import KE.GoesMore
import HandS.Conv
import HandS.Style
import PySem.Challenge.RW_takenth_k04_whole_however_far
set_option Elab.async false
set_option linter.all false
set_option maxRecDepth 100000
set_option maxHeartbeats 4000000
namespace TK
/-- who takes piece n (from 1 on) -/
def whoF : List (Int × Int) → Int → Option Nat
  | [], _ => none
  | (e, c) :: r, n => if (c + n) % e = 0 then some 0 else (whoF r (n - (c + n) / e)).map (· + 1)
/-- how many each one takes of n, the left over last -/
def takenF : List (Int × Int) → Int → List Int
  | [], n => [n]
  | (e, c) :: r, n => (c + n) / e :: takenF r (n - (c + n) / e)
/-- what each has counted behind n pieces -/
def cntF : List (Int × Int) → Int → List Int
  | [], _ => []
  | (e, c) :: r, n => (c + n) % e :: cntF r (n - (c + n) / e)
/-- how many of n pieces come to place i -/
def comeF : List (Int × Int) → Nat → Int → Int
  | _, 0, n => n
  | [], _ + 1, n => n
  | (e, c) :: r, i + 1, n => comeF r i (n - (c + n) / e)
theorem come_zero (r : List (Int × Int)) (n : Int) : comeF r 0 n = n := by cases r <;> rfl
def okT (ec : Int × Int) : Prop := 2 ≤ ec.1 ∧ ec.1 ≤ 1000 ∧ 0 ≤ ec.2 ∧ ec.2 ≤ ec.1 - 1

theorem div_step0 {a e : Int} (he : 0 < e) (h : (a + 1) % e = 0) : (a + 1) / e = a / e + 1 := by
  have h1 := Int.mul_ediv_add_emod (a + 1) e
  have h2 := Int.mul_ediv_add_emod a e
  have h3 := Int.emod_nonneg a (Int.ne_of_gt he)
  have h4 := Int.emod_lt_of_pos a he
  rw [h] at h1
  have h5 : e * ((a + 1) / e) = e * (a / e) + (a % e + 1) := by omega
  have h6 : e * ((a + 1) / e - a / e) = a % e + 1 := by rw [Int.mul_sub]; omega
  have h7 : (a + 1) / e - a / e = 1 := by
    have p : 0 < (a + 1) / e - a / e := by
      rcases Int.lt_or_le 0 ((a + 1) / e - a / e) with h | h
      · exact h
      · have := Int.mul_nonpos_of_nonneg_of_nonpos (Int.le_of_lt he) h
        omega
    rcases Int.lt_or_le 1 ((a + 1) / e - a / e) with h | h
    · have : e * 2 ≤ e * ((a + 1) / e - a / e) := Int.mul_le_mul_of_nonneg_left (by omega) (Int.le_of_lt he)
      omega
    · omega
  omega
theorem div_stepN {a e : Int} (he : 0 < e) (h : (a + 1) % e ≠ 0) : (a + 1) / e = a / e := by
  have h1 := Int.mul_ediv_add_emod (a + 1) e
  have h2 := Int.mul_ediv_add_emod a e
  have h3 := Int.emod_nonneg a (Int.ne_of_gt he)
  have h4 := Int.emod_lt_of_pos a he
  have h3' := Int.emod_nonneg (a + 1) (Int.ne_of_gt he)
  have h4' := Int.emod_lt_of_pos (a + 1) he
  have h6 : e * ((a + 1) / e - a / e) = a % e + 1 - (a + 1) % e := by rw [Int.mul_sub]; omega
  have h7 : (a + 1) / e - a / e = 0 := by
    rcases Int.lt_or_le 0 ((a + 1) / e - a / e) with h | h
    · have : e * 1 ≤ e * ((a + 1) / e - a / e) := Int.mul_le_mul_of_nonneg_left (by omega) (Int.le_of_lt he)
      omega
    · rcases Int.lt_or_le ((a + 1) / e - a / e) 0 with h | h
      · have : e * ((a + 1) / e - a / e) ≤ e * (-1) := Int.mul_le_mul_of_nonneg_left (by omega) (Int.le_of_lt he)
        omega
      · omega
  omega
theorem mod_step (a e : Int) : (a % e + 1) % e = (a + 1) % e := by
  rw [Int.add_emod, Int.emod_emod_of_dvd _ (Int.dvd_refl e), ← Int.add_emod]

theorem len_takenF : ∀ (r : List (Int × Int)) (n : Int), (takenF r n).length = r.length + 1
  | [], _ => rfl
  | (e, c) :: r, n => by simp [takenF, len_takenF r]
theorem len_cntF : ∀ (r : List (Int × Int)) (n : Int), (cntF r n).length = r.length
  | [], _ => rfl
  | (e, c) :: r, n => by simp [cntF, len_cntF r]
theorem whoF_lt : ∀ (r : List (Int × Int)) (n : Int) (j : Nat), whoF r n = some j → j < r.length
  | [], _, _, h => by simp [whoF] at h
  | (e, c) :: r, n, j, h => by
    unfold whoF at h
    split at h
    · have := Option.some.inj h
      simp; omega
    · cases q : whoF r (n - (c + n) / e) with
      | none => rw [q] at h; simp at h
      | some k =>
        rw [q] at h
        have := whoF_lt r _ k q
        simp at h
        simp; omega
theorem come_succ : ∀ (r : List (Int × Int)) (n : Int) (i : Nat) (e c : Int), r[i]? = some (e, c) → comeF r (i + 1) n = comeF r i n - (c + comeF r i n) / e
  | [], _, _, _, _, h => by simp at h
  | (e, c) :: r, n, 0, e', c', h => by
    simp at h
    obtain ⟨rfl, rfl⟩ := h
    simp [comeF]
  | (e, c) :: r, n, i + 1, e', c', h => by
    have := come_succ r (n - (c + n) / e) i e' c' (by simpa using h)
    simpa [comeF] using this
theorem taken_get : ∀ (r : List (Int × Int)) (n : Int) (i : Nat) (e c : Int), r[i]? = some (e, c) → (takenF r n)[i]? = some ((c + comeF r i n) / e)
  | [], _, _, _, _, h => by simp at h
  | (e, c) :: r, n, 0, e', c', h => by
    simp at h
    obtain ⟨rfl, rfl⟩ := h
    simp [takenF, comeF]
  | (e, c) :: r, n, i + 1, e', c', h => by
    have := taken_get r (n - (c + n) / e) i e' c' (by simpa using h)
    simpa [takenF, comeF] using this
theorem taken_last : ∀ (r : List (Int × Int)) (n : Int), (takenF r n)[r.length]? = some (comeF r r.length n)
  | [], _ => by simp [takenF, comeF]
  | (e, c) :: r, n => by
    have := taken_last r (n - (c + n) / e)
    simpa [takenF, comeF] using this
/-- the place i is reached by piece n + 1 -/
def reach (r : List (Int × Int)) (n : Int) (i : Nat) : Prop := ∀ j, whoF r n = some j → i ≤ j
theorem come_step : ∀ (r : List (Int × Int)) (n : Int) (i : Nat), (∀ ec ∈ r, okT ec) → i ≤ r.length → reach r (n + 1) i → comeF r i (n + 1) = comeF r i n + 1
  | _, _, 0, _, _, _ => by simp [comeF]
  | [], _, i + 1, _, hi, _ => by simp at hi
  | (e, c) :: r, n, i + 1, ok, hi, h => by
    have he : (0 : Int) < e := by have := ok (e, c) (by simp); unfold okT at this; simp at this; omega
    have ea : c + (n + 1) = c + n + 1 := by omega
    by_cases q : (c + (n + 1)) % e = 0
    · have : i + 1 ≤ 0 := h 0 (by simp [whoF, q])
      omega
    · have e1 : (c + (n + 1)) / e = (c + n) / e := by rw [ea] at q ⊢; exact div_stepN he q
      unfold comeF
      rw [e1]
      have := come_step r (n - (c + n) / e) i (fun x hx => ok x (by simp [hx])) (by simp at hi; omega) (fun j hj => by
        have := h (j + 1) (by
          unfold whoF
          rw [if_neg q, e1, show n + 1 - (c + n) / e = n - (c + n) / e + 1 by omega, hj]
          rfl)
        omega)
      rw [← this]
      congr 1
      omega
theorem cnt_get : ∀ (r : List (Int × Int)) (n : Int) (i : Nat) (e c : Int), r[i]? = some (e, c) → (cntF r n)[i]? = some ((c + comeF r i n) % e)
  | [], _, _, _, _, h => by simp at h
  | (e, c) :: r, n, 0, e', c', h => by
    simp at h
    obtain ⟨rfl, rfl⟩ := h
    simp [cntF, comeF]
  | (e, c) :: r, n, i + 1, e', c', h => by
    have := cnt_get r (n - (c + n) / e) i e' c' (by simpa using h)
    simpa [cntF, comeF] using this
theorem who_at : ∀ (r : List (Int × Int)) (n : Int) (i : Nat) (e c : Int), r[i]? = some (e, c) → reach r n i → (whoF r n = some i ↔ (c + comeF r i n) % e = 0)
  | [], _, _, _, _, h, _ => by simp at h
  | (e, c) :: r, n, 0, e', c', h, hr => by
    simp at h
    obtain ⟨rfl, rfl⟩ := h
    simp [whoF, comeF]
  | (e, c) :: r, n, i + 1, e', c', h, hr => by
    have q : (c + n) % e ≠ 0 := fun q => by
      have := hr 0 (by simp [whoF, q])
      omega
    have := who_at r (n - (c + n) / e) i e' c' (by simpa using h) (fun j hj => by
      have := hr (j + 1) (by unfold whoF; rw [if_neg q, hj]; rfl)
      omega)
    unfold whoF comeF
    rw [if_neg q, ← this]
    cases whoF r (n - (c + n) / e) with
    | none => simp
    | some k => simp
theorem reach_succ {r : List (Int × Int)} {n : Int} {i : Nat} (h : reach r n i) (h2 : whoF r n ≠ some i) : reach r n (i + 1) := fun j hj => by
  have := h j hj
  rcases Nat.lt_or_ge i j with q | q
  · omega
  · have e : j = i := by omega
    subst e
    exact absurd hj h2
/-- behind the taker of piece n + 1 nothing is counted -/
theorem cnt_same : ∀ (r : List (Int × Int)) (n : Int) (i j : Nat), (∀ ec ∈ r, okT ec) → whoF r (n + 1) = some j → j < i → (cntF r (n + 1))[i]? = (cntF r n)[i]?
  | [], _, _, _, _, h, _ => by simp [whoF] at h
  | (e, c) :: r, n, 0, j, _, _, h => by omega
  | (e, c) :: r, n, i + 1, j, ok, h, hj => by
    have he : (0 : Int) < e := by have := ok (e, c) (by simp); unfold okT at this; simp at this; omega
    have ea : c + (n + 1) = c + n + 1 := by omega
    unfold whoF at h
    by_cases q : (c + (n + 1)) % e = 0
    · have e1 : (c + (n + 1)) / e = (c + n) / e + 1 := by rw [ea] at q ⊢; exact div_step0 he q
      unfold cntF
      rw [e1, show n + 1 - ((c + n) / e + 1) = n - (c + n) / e by omega]
      simp
    · have e1 : (c + (n + 1)) / e = (c + n) / e := by rw [ea] at q ⊢; exact div_stepN he q
      rw [if_neg q, e1, show n + 1 - (c + n) / e = n - (c + n) / e + 1 by omega] at h
      cases k : whoF r (n - (c + n) / e + 1) with
      | none => rw [k] at h; simp at h
      | some j' =>
        rw [k] at h
        simp at h
        have := cnt_same r (n - (c + n) / e) i j' (fun x hx => ok x (by simp [hx])) k (by omega)
        unfold cntF
        rw [e1, show n + 1 - (c + n) / e = n - (c + n) / e + 1 by omega]
        simpa using this
/-- the index that is counted up by who takes piece n: the last one where it is left over -/
def slot (r : List (Int × Int)) : Option Nat → Nat
  | none => r.length
  | some j => j
theorem taken_step : ∀ (r : List (Int × Int)) (n : Int) (i : Nat) (v : Int), (∀ ec ∈ r, okT ec) → (takenF r n)[i]? = some v →
    (takenF r (n + 1))[i]? = some (v + if i = slot r (whoF r (n + 1)) then 1 else 0)
  | [], n, i, v, _, h => by
    cases i with
    | zero => simp [takenF, whoF, slot] at h ⊢; omega
    | succ i => simp [takenF] at h
  | (e, c) :: r, n, i, v, ok, h => by
    have he : (0 : Int) < e := by have := ok (e, c) (by simp); unfold okT at this; simp at this; omega
    have ea : c + (n + 1) = c + n + 1 := by omega
    by_cases q : (c + (n + 1)) % e = 0
    · have e1 : (c + (n + 1)) / e = (c + n) / e + 1 := by rw [ea] at q ⊢; exact div_step0 he q
      unfold takenF at h ⊢
      rw [e1, show n + 1 - ((c + n) / e + 1) = n - (c + n) / e by omega]
      have hw : whoF ((e, c) :: r) (n + 1) = some 0 := by simp [whoF, q]
      rw [hw]
      cases i with
      | zero => simp [slot] at h ⊢; omega
      | succ i => simp [slot] at h ⊢; exact h
    · have e1 : (c + (n + 1)) / e = (c + n) / e := by rw [ea] at q ⊢; exact div_stepN he q
      have hw : whoF ((e, c) :: r) (n + 1) = (whoF r (n - (c + n) / e + 1)).map (· + 1) := by
        conv => lhs; unfold whoF
        rw [if_neg q, e1, show n + 1 - (c + n) / e = n - (c + n) / e + 1 by omega]
      have hs : slot ((e, c) :: r) (whoF ((e, c) :: r) (n + 1)) = slot r (whoF r (n - (c + n) / e + 1)) + 1 := by
        rw [hw]
        cases whoF r (n - (c + n) / e + 1) <;> simp [slot]
      rw [hs]
      unfold takenF at h ⊢
      rw [e1, show n + 1 - (c + n) / e = n - (c + n) / e + 1 by omega]
      cases i with
      | zero => simp at h ⊢; omega
      | succ i =>
        have := taken_step r (n - (c + n) / e) i v (fun x hx => ok x (by simp [hx])) (by simpa using h)
        simpa using this
theorem taken_zero : ∀ (r : List (Int × Int)), (∀ ec ∈ r, okT ec) → takenF r 0 = List.replicate (r.length + 1) 0
  | [], _ => rfl
  | (e, c) :: r, ok => by
    have h := ok (e, c) (by simp)
    unfold okT at h
    simp at h
    have e0 : (c + 0) / e = 0 := by rw [Int.add_zero]; exact Int.ediv_eq_zero_of_lt h.2.2.1 (by omega)
    unfold takenF
    rw [e0, show (0 : Int) - 0 = 0 by omega, taken_zero r fun x hx => ok x (by simp [hx])]
    rfl
theorem cnt_zero : ∀ (r : List (Int × Int)), (∀ ec ∈ r, okT ec) → cntF r 0 = r.map (·.2)
  | [], _ => rfl
  | (e, c) :: r, ok => by
    have h := ok (e, c) (by simp)
    unfold okT at h
    simp at h
    have e0 : (c + 0) / e = 0 := by rw [Int.add_zero]; exact Int.ediv_eq_zero_of_lt h.2.2.1 (by omega)
    unfold cntF
    rw [e0, show (0 : Int) - 0 = 0 by omega, cnt_zero r fun x hx => ok x (by simp [hx])]
    simp
    exact Int.emod_eq_of_lt h.2.2.1 (by omega)
/-- who takes the first m pieces -/
def seenF (r : List (Int × Int)) (m : Nat) : List (Option Nat) := (List.range m).map fun (k : Nat) => whoF r ((k : Int) + 1)
theorem seen_succ (r : List (Int × Int)) (m : Nat) : seenF r (m + 1) = seenF r m ++ [whoF r ((m : Int) + 1)] := by
  unfold seenF
  rw [List.range_succ, List.map_append]
  rfl
theorem len_seenF (r : List (Int × Int)) (m : Nat) : (seenF r m).length = m := by simp [seenF]
theorem slot_inj {r : List (Int × Int)} {n : Int} {i : Nat} {o : Option Nat} (ho : ∀ j, o = some j → j < r.length) : i = slot r (whoF r n) ∧ i = slot r o → whoF r n = o := by
  intro ⟨h1, h2⟩
  cases q : whoF r n with
  | none =>
    rw [q] at h1
    cases o with
    | none => rfl
    | some j =>
      have := ho j rfl
      simp [slot] at h1 h2
      omega
  | some k =>
    have := whoF_lt r n k q
    rw [q] at h1
    cases o with
    | none => simp [slot] at h1 h2; omega
    | some j => simp [slot] at h1 h2; congr 1; omega
/-- counted among the pieces seen: what takenF tells -/
theorem taken_count (r : List (Int × Int)) (ok : ∀ ec ∈ r, okT ec) (o : Option Nat) (ho : ∀ j, o = some j → j < r.length) :
    ∀ m : Nat, (takenF r (m : Int))[slot r o]? = some (((seenF r m).countP fun x => decide (x = o) : Nat) : Int)
  | 0 => by
    rw [show ((0 : Nat) : Int) = 0 from rfl, taken_zero r ok, List.getElem?_replicate]
    rw [if_pos]
    · simp [seenF]
    · cases o with
      | none => simp [slot]
      | some j => have := ho j rfl; simp [slot]; omega
  | m + 1 => by
    have ih := taken_count r ok o ho m
    have := taken_step r (m : Int) (slot r o) _ ok ih
    rw [show ((m + 1 : Nat) : Int) = (m : Int) + 1 by omega, this, seen_succ, List.countP_append]
    by_cases q : whoF r ((m : Int) + 1) = o
    · rw [if_pos (by rw [q])]
      simp [q]
    · rw [if_neg (fun z => q (slot_inj ho ⟨z, rfl⟩))]
      simp [q]
end TK

namespace TK
/-- which piece is the m-th that passes all of the row -/
def passF : List (Int × Int) → Int → Int
  | [], m => m
  | (e, c) :: r, m => passF r m + (c + passF r m - 1) / (e - 1)
theorem pass_one {e c m : Int} (he : 2 ≤ e) (p : Int) (hp : p = m + (c + m - 1) / (e - 1)) : (c + p) / e = p - m ∧ (c + p) % e ≠ 0 := by
  have d1 := Int.mul_ediv_add_emod (c + m - 1) (e - 1)
  have d2 := Int.emod_nonneg (c + m - 1) (show e - 1 ≠ 0 by omega)
  have d3 := Int.emod_lt_of_pos (c + m - 1) (show 0 < e - 1 by omega)
  have hq : (c + m - 1) / (e - 1) = p - m := by omega
  rw [hq] at d1
  have key : c + p = e * (p - m) + ((c + m - 1) % (e - 1) + 1) := by
    rw [Int.sub_mul, Int.one_mul] at d1
    omega
  have q1 : (c + p) / e = p - m := by
    rw [key, Int.add_comm, Int.add_mul_ediv_left _ _ (by omega), Int.ediv_eq_zero_of_lt (by omega) (by omega), Int.zero_add]
  refine ⟨q1, ?_⟩
  rw [key, Int.add_comm, Int.add_mul_emod_self_left, Int.emod_eq_of_lt (by omega) (by omega)]
  omega
theorem pass_back {e c n : Int} (he : 2 ≤ e) (h : (c + n) % e ≠ 0) : n - (c + n) / e + (c + (n - (c + n) / e) - 1) / (e - 1) = n := by
  have d1 := Int.mul_ediv_add_emod (c + n) e
  have d2 := Int.emod_nonneg (c + n) (show e ≠ 0 by omega)
  have d3 := Int.emod_lt_of_pos (c + n) (show 0 < e by omega)
  obtain ⟨q, hq⟩ : ∃ q, q = (c + n) / e := ⟨_, rfl⟩
  rw [← hq] at d1 ⊢
  have key : c + (n - q) - 1 = ((c + n) % e - 1) + (e - 1) * q := by
    rw [Int.sub_mul, Int.one_mul]
    omega
  rw [key, Int.add_mul_ediv_left _ _ (by omega), Int.ediv_eq_zero_of_lt (by omega) (by omega)]
  omega
theorem pass_ge : ∀ (r : List (Int × Int)) (m : Int), (∀ ec ∈ r, okT ec) → 1 ≤ m → m ≤ passF r m
  | [], m, _, _ => Int.le_refl m
  | (e, c) :: r, m, ok, hm => by
    have h := ok (e, c) (by simp)
    unfold okT at h
    simp at h
    have ih := pass_ge r m (fun x hx => ok x (by simp [hx])) hm
    have : 0 ≤ (c + passF r m - 1) / (e - 1) := Int.ediv_nonneg (by omega) (by omega)
    unfold passF
    omega
theorem pass_lt : ∀ (r : List (Int × Int)) (m n : Int), (∀ ec ∈ r, okT ec) → m < n → passF r m < passF r n
  | [], m, n, _, h => h
  | (e, c) :: r, m, n, ok, hm => by
    have h := ok (e, c) (by simp)
    unfold okT at h
    simp at h
    have ih := pass_lt r m n (fun x hx => ok x (by simp [hx])) hm
    have : (c + passF r m - 1) / (e - 1) ≤ (c + passF r n - 1) / (e - 1) := Int.ediv_le_ediv (by omega) (by omega)
    unfold passF
    omega
/-- the piece that comes to what stands behind pre as the x-th -/
theorem who_pass : ∀ (pre rest : List (Int × Int)) (x : Int), (∀ ec ∈ pre, okT ec) →
    whoF (pre ++ rest) (passF pre x) = (whoF rest x).map (· + pre.length) ∧ comeF (pre ++ rest) pre.length (passF pre x) = x
  | [], rest, x, _ => by
    constructor
    · cases h : whoF rest x <;> simp [passF, h]
    · simp [passF, come_zero]
  | (e, c) :: pre, rest, x, ok => by
    have h := ok (e, c) (by simp)
    unfold okT at h
    simp at h
    obtain ⟨ih1, ih2⟩ := who_pass pre rest x (fun y hy => ok y (by simp [hy]))
    obtain ⟨p1, p2⟩ := pass_one (c := c) (m := passF pre x) h.1 _ rfl
    have e1 : passF pre x + (c + passF pre x - 1) / (e - 1) - (c + (passF pre x + (c + passF pre x - 1) / (e - 1))) / e = passF pre x := by
      rw [p1]
      omega
    constructor
    · rw [List.cons_append]
      conv => lhs; unfold passF whoF
      rw [if_neg p2, e1, ih1]
      cases whoF rest x with
      | none => rfl
      | some j =>
        show some (j + pre.length + 1) = some (j + (pre.length + 1))
        rfl
    · rw [List.cons_append]
      unfold passF
      simp only [List.length_cons, comeF]
      rw [e1]
      exact ih2
theorem pass_come : ∀ (r : List (Int × Int)) (k : Nat) (n : Int), (∀ ec ∈ r, okT ec) → k ≤ r.length → reach r n k → passF (r.take k) (comeF r k n) = n
  | r, 0, n, _, _, _ => by simp [passF, come_zero]
  | [], k + 1, n, _, h, _ => by simp at h
  | (e, c) :: r, k + 1, n, ok, hk, hr => by
    have h := ok (e, c) (by simp)
    unfold okT at h
    simp at h
    have q : (c + n) % e ≠ 0 := fun q => by
      have := hr 0 (by simp [whoF, q])
      omega
    have ih := pass_come r k (n - (c + n) / e) (fun x hx => ok x (by simp [hx])) (by simp at hk; omega) (fun j hj => by
      have := hr (j + 1) (by unfold whoF; rw [if_neg q, hj]; rfl)
      omega)
    simp only [List.take_succ_cons, passF, comeF]
    rw [ih]
    exact pass_back h.1 q
/-- which piece is told -/
def pieceF (r : List (Int × Int)) (o : Option Nat) (n : Int) : Int := match o with
  | none => passF r n
  | some k => match r[k]? with
    | some (e, c) => passF (r.take k) (n * e - c)
    | none => 0
theorem split_at {r : List (Int × Int)} {k : Nat} {e c : Int} (h : r[k]? = some (e, c)) : r = r.take k ++ (e, c) :: r.drop (k + 1) := by
  obtain ⟨hk, he⟩ := List.getElem?_eq_some_iff.mp h
  rw [← he, ← List.drop_eq_getElem_cons hk, List.take_append_drop]
theorem take_ok {r : List (Int × Int)} (ok : ∀ ec ∈ r, okT ec) (k : Nat) : ∀ ec ∈ r.take k, okT ec := fun ec h => ok ec (List.mem_of_mem_take h)
/-- all that is asked of a told piece -/
theorem piece_facts (r : List (Int × Int)) (ok : ∀ ec ∈ r, okT ec) (o : Option Nat) (ho : ∀ j, o = some j → j < r.length) (n : Int) (hn : 1 ≤ n) :
    whoF r (pieceF r o n) = o ∧ (takenF r (pieceF r o n))[slot r o]? = some n ∧ 1 ≤ pieceF r o n := by
  cases o with
  | none =>
    obtain ⟨h1, h2⟩ := who_pass r [] n ok
    rw [List.append_nil] at h1 h2
    refine ⟨by simpa [pieceF, whoF] using h1, ?_, ?_⟩
    · show (takenF r (passF r n))[r.length]? = some n
      rw [taken_last, h2]
    · have := pass_ge r n ok hn
      show 1 ≤ passF r n
      omega
  | some k =>
    have hk := ho k rfl
    obtain ⟨⟨e, c⟩, hec⟩ : ∃ ec, r[k]? = some ec := ⟨_, List.getElem?_eq_getElem hk⟩
    have hok : okT (e, c) := ok _ (List.mem_of_getElem? hec)
    unfold okT at hok
    simp at hok
    have sp := split_at hec
    have lt : (r.take k).length = k := by rw [List.length_take]; omega
    have pe : pieceF r (some k) n = passF (r.take k) (n * e - c) := by
      unfold pieceF
      simp only [hec]
    obtain ⟨h1, h2⟩ := who_pass (r.take k) ((e, c) :: r.drop (k + 1)) (n * e - c) (take_ok ok k)
    rw [← sp, lt] at h1 h2
    have hx : c + (n * e - c) = n * e := by omega
    have m0 : (c + (n * e - c)) % e = 0 := by rw [hx]; exact Int.mul_emod_left n e
    have w1 : whoF ((e, c) :: r.drop (k + 1)) (n * e - c) = some 0 := by
      unfold whoF
      rw [if_pos m0]
    rw [w1] at h1
    refine ⟨?_, ?_, ?_⟩
    · rw [pe, h1]
      simp
    · rw [pe]
      show (takenF r _)[k]? = some n
      rw [taken_get r _ k e c hec, h2, hx, Int.mul_ediv_cancel _ (by omega)]
    · rw [pe]
      have : 1 * e ≤ n * e := Int.mul_le_mul_of_nonneg_right hn (by omega)
      have := pass_ge (r.take k) (n * e - c) (take_ok ok k) (by omega)
      omega
theorem piece_lt (r : List (Int × Int)) (ok : ∀ ec ∈ r, okT ec) (o : Option Nat) (ho : ∀ j, o = some j → j < r.length) (n : Int) : pieceF r o n < pieceF r o (n + 1) := by
  cases o with
  | none => exact pass_lt r _ _ ok (by omega)
  | some k =>
    have hk := ho k rfl
    obtain ⟨⟨e, c⟩, hec⟩ : ∃ ec, r[k]? = some ec := ⟨_, List.getElem?_eq_getElem hk⟩
    have hok : okT (e, c) := ok _ (List.mem_of_getElem? hec)
    unfold okT at hok
    simp at hok
    unfold pieceF
    simp only [hec]
    apply pass_lt _ _ _ (take_ok ok k)
    rw [Int.add_mul]
    omega
theorem slot_lt {r : List (Int × Int)} {o : Option Nat} (ho : ∀ j, o = some j → j < r.length) : slot r o < r.length + 1 := by
  cases o with
  | none => simp [slot]
  | some j => have := ho j rfl; simp [slot]; omega
/-- just ahead of a piece that o takes one fewer -/
theorem taken_ahead (r : List (Int × Int)) (ok : ∀ ec ∈ r, okT ec) (o : Option Nat) (ho : ∀ j, o = some j → j < r.length) (p n : Int) (hw : whoF r p = o) (ht : (takenF r p)[slot r o]? = some n) : (takenF r (p - 1))[slot r o]? = some (n - 1) := by
  have hl : slot r o < (takenF r (p - 1)).length := by rw [len_takenF]; exact slot_lt ho
  have h := taken_step r (p - 1) (slot r o) _ ok (List.getElem?_eq_getElem hl)
  rw [show p - 1 + 1 = p by omega, hw, if_pos rfl, ht] at h
  rw [List.getElem?_eq_getElem hl]
  have := Option.some.inj h
  congr 1
  omega
theorem sum_taken : ∀ (r : List (Int × Int)) (n : Int), (takenF r n).sum = n
  | [], n => by simp [takenF]
  | (e, c) :: r, n => by
    unfold takenF
    rw [List.sum_cons, sum_taken r]
    omega
theorem taken_nonneg : ∀ (r : List (Int × Int)) (n : Int), (∀ ec ∈ r, okT ec) → 0 ≤ n → ∀ x ∈ takenF r n, 0 ≤ x
  | [], n, _, hn => by simp [takenF]; exact hn
  | (e, c) :: r, n, ok, hn => by
    have h := ok (e, c) (by simp)
    unfold okT at h
    simp at h
    have d0 : 0 ≤ (c + n) / e := Int.ediv_nonneg (by omega) (by omega)
    have d1 : (c + n) / e ≤ n := by
      have : (c + n) / e < n + 1 := by
        apply Int.ediv_lt_of_lt_mul (by omega)
        have : n * 2 ≤ n * e := Int.mul_le_mul_of_nonneg_left (by omega) hn
        rw [Int.add_mul]
        omega
      omega
    intro x hx
    unfold takenF at hx
    rcases List.mem_cons.mp hx with e | hx
    · rw [e]; exact d0
    · exact taken_nonneg r _ (fun y hy => ok y (by simp [hy])) (by omega) x hx
theorem who_ok (r : List (Int × Int)) (n : Int) : ∀ j, whoF r n = some j → j < r.length := fun j h => whoF_lt r n j h
/-- the told piece of whom takes it is that piece -/
theorem piece_back (r : List (Int × Int)) (ok : ∀ ec ∈ r, okT ec) (n v : Int) (hv : (takenF r n)[slot r (whoF r n)]? = some v) : pieceF r (whoF r n) v = n := by
  cases hw : whoF r n with
  | none =>
    rw [hw] at hv
    have hv : (takenF r n)[r.length]? = some v := hv
    rw [taken_last] at hv
    have := Option.some.inj hv
    subst this
    have := pass_come r r.length n ok (Nat.le_refl _) (fun j hj => by rw [hw] at hj; cases hj)
    rw [List.take_length] at this
    exact this
  | some k =>
    have hk := whoF_lt r n k hw
    obtain ⟨⟨e, c⟩, hec⟩ : ∃ ec, r[k]? = some ec := ⟨_, List.getElem?_eq_getElem hk⟩
    have hok : okT (e, c) := ok _ (List.mem_of_getElem? hec)
    unfold okT at hok
    simp at hok
    have hre : reach r n k := fun j hj => by rw [hw] at hj; have := Option.some.inj hj; omega
    have wa := (who_at r n k e c hec hre).mp hw
    rw [hw] at hv
    have hv : (takenF r n)[k]? = some v := hv
    rw [taken_get r n k e c hec] at hv
    have := Option.some.inj hv
    subst this
    unfold pieceF
    simp only [hec]
    have d1 := Int.mul_ediv_add_emod (c + comeF r k n) e
    rw [wa] at d1
    rw [show (c + comeF r k n) / e * e - c = comeF r k n by rw [Int.mul_comm]; omega]
    exact pass_come r k n ok (by omega) hre
end TK

set_option maxRecDepth 100000
/-! enumerate over a tuple, as a rule of the layer -/
namespace TK
open PySem PySem.Spec PyProof.Rows L2

/-- the iterator that a tuple gives -/
def tupIt (t : Addr) : Obj := { cls := .type "tuple_iterator", data := .fields #[.ref t, .int 0 0] }
/-- a new enumerate over the iterator at a -/
def enumOf (a : Addr) : Obj := { cls := .type "enumerate", data := .fields #[.none, .bool false, .ref a, rawInt 0, .none, .none] }

set_option maxHeartbeats 2000000 in
theorem newEnumT (t : Addr) (vs : Array Value) (m : Nat) (dd : Option Addr) (ss : Array (Option Value)) :
    Meets (Builtin.«enumerate.__new__» ⟨[.type "enumerate", .ref t], []⟩) (fun _ R s =>
      s.heap.get? t = some { cls := .type "tuple", dict := dd, data := .seq vs m, slots := ss } ∧
      R (.ok (.ret (.ref (s.heap.push (tupIt t)).objs.size))) { s with heap := (s.heap.push (tupIt t)).push (enumOf s.heap.objs.size) }) :=
  .of_wp fun prog w A R s hyp => by
    obtain ⟨hp, g, d, tk, os⟩ := s
    obtain ⟨ht, hR⟩ := hyp
    have isSub := sub_enumerate
    have isT : Heap.IsTuple (Shared.heap ⟨hp, g, d, tk, os⟩) t vs := ⟨_, ht, rfl, m, rfl⟩
    wp_walk using AutoSeq1.wpAny_loadPart' ht
    refine wpAny_stack_any fun st => wpAny_pure ?_
    split
    · rename_i c _ _ _ _ _
      cases (c == Value.type "enumerate") <;> (wp_walk using AutoSeq1.wpAny_loadPart' ht, wpAny_pyIter_tuple isT; exact ⟨_, rfl, hR⟩)
    · wp_walk using AutoSeq1.wpAny_loadPart' ht, wpAny_pyIter_tuple isT
      exact ⟨_, rfl, hR⟩

section
variable {prog : Program} {w : World} {A : Around} {E : Value → Shared → Prop} {s : Shared}
theorem callEnumT {t : Addr} {vs : Array Value} {Q : Value → Shared → Prop} (ht : s.heap.IsTuple t vs)
    (k : ∀ h', IsEnum h' (s.heap.objs.size + 1) s.heap.objs.size 0 .none → h'.IsTupleIter s.heap.objs.size t 0 →
      (∀ b o, s.heap.get? b = some o → h'.get? b = some o) → Q (.ref (s.heap.objs.size + 1)) { s with heap := h' }) :
    wpAny (model prog w) A (call (.type "enumerate") [.ref t]) Q E s := by
  obtain ⟨⟨cl, dd, dt, ss⟩, e0, e1, m, e2⟩ := ht
  replace e1 : cl = .type "tuple" := e1
  replace e2 : dt = .seq vs m := e2
  subst e1 e2
  refine callType_new F.called_enumerate (by decide) (F.typeCall_enumerate_1 _) (F.newCall_enumerate_1 _)
    (fun obj => F.args_object_init_2 obj _) F.entry_enumerate_new (newEnumT t vs m dd ss) ⟨e0, ?_⟩
  have sz : (s.heap.push (tupIt t)).objs.size = s.heap.objs.size + 1 := Heap.size_push ..
  show _ ∧ _
  rw [sz]
  have he : IsEnum ((s.heap.push (tupIt t)).push (enumOf s.heap.objs.size)) (s.heap.objs.size + 1) s.heap.objs.size 0 .none := by
    have q := Heap.get?_push_size (s.heap.push (tupIt t)) (o := enumOf s.heap.objs.size) rfl
    rw [sz] at q
    exact q
  exact ⟨⟨_, he, rfl⟩, k _ he ⟨_, Heap.get?_push_of_some _ (Heap.get?_push_size _ rfl), rfl, rfl⟩ fun b o x => Heap.get?_push_of_some _ (Heap.get?_push_of_some _ x)⟩

theorem nextEnumT_end {e it t : Addr} {i : Nat} {vs : Array Value} {old : Value} {Q : Option Value → Shared → Prop} (hh : A.handled = none)
    (he : IsEnum s.heap e it i old) (hi : s.heap.IsTupleIter it t i) (ht : s.heap.IsTuple t vs) (hx : vs[i]? = none)
    (k : ∀ h', Heap.ExtBut it s.heap h' → Q none { s with heap := h' }) : wpAny (model prog w) A (pyNext (.ref e)) Q E s := by
  have ty : s.TypeIs (.ref e) "enumerate" := ⟨_, he, rfl⟩
  unfold pyNext
  refine wpAny_bind (wpAny_attempt (wpAny_callSpecial?_slot (name := Str.ofString "__next__") ty F.slot_enumerate_next
    (wpAny_call_entry F.slot_enumerate_next ty F.entry_enumerate_next ?_ (F.args_enumerate_next_1 _))))
  show wpAny _ _ (field (.ref e) 2 >>= _) _ _ s
  refine wpAny_bind (wpAny_field he rfl (x := .ref it) rfl ?_)
  refine wpAny_bind (wpAny_nextOf_tuple_end hh hi ht hx fun h1 x eb xo => ?_)
  obtain ⟨o, ho, hc⟩ := xo
  exact wpAny_bind (wpAny_isInstance (T := "StopIteration") (b := true) ⟨o, ho, hc⟩ isSubtype_stop (wpAny_pure (k _ eb)))
end

/-- the tuple at a, each item in a new pair -/
def ItEt (K : PySem.W.Frag) (a : Addr) : It where
  go := fun i H => ∃ (xs : List V) (x : V), SqT K H a xs ∧ xs[i]? = some x
  yld := fun i H v H' => ∃ T x, v = .ref T ∧ H T = none ∧ H' = upd H T (.tup [.int (i : Nat), x]) ∧ ∀ xs, SqT K H a xs → xs[i]? = some x
  stop := fun i H => ∃ xs : List V, SqT K H a xs ∧ xs.length ≤ i

theorem turn_enumT {P : Program} {w : World} {K : PySem.W.Frag} {elts : List Expr} {kk : Nat} {tpos : Pos} (a e it : Addr) :
    Turn P w K (.Tuple elts kk tpos) (ItEt K a) [e, it] e (fun i h => (∃ old, IsEnum h e it ((i : Nat) : Int) old) ∧ h.IsTupleIter it a i ∧ e ≠ it ∧ a ≠ it ∧ a ≠ e) where
  mem := by simp
  obj := fun i h st b hb => by
    obtain ⟨⟨old, he⟩, ⟨o, ho, hc, hd⟩, _⟩ := st
    rcases (show b = e ∨ b = it by simpa using hb) with z | z
    · subst z
      exact ⟨_, he, fun v q => nomatch q⟩
    · subst z
      exact ⟨o, ho, fun v q => by rw [hd] at q; cases q⟩
  keep := fun i h h' st k => by
    obtain ⟨⟨old, he⟩, ⟨o, ho, r⟩, hne⟩ := st
    exact ⟨⟨old, k e (by simp) _ he⟩, ⟨o, k it (by simp) o ho, r⟩, hne⟩
  item := by
    intro X hP hw hK hc i pins s σ H E I hf st hg
    subst hP hw hK
    obtain ⟨⟨old, he⟩, hit, n1, n2, n3⟩ := st
    obtain ⟨xs, x, hq, hx⟩ := hg
    obtain ⟨its, rv, p, hz⟩ := I.tuple hq
    obtain ⟨u, hu, ru⟩ := rv.get hx
    have le : e < s.heap.objs.size := Heap.lt_size he
    have li : it < s.heap.objs.size := by
      obtain ⟨_, q, _⟩ := hit
      exact Heap.lt_size q
    have hil : i < its.toArray.size := by
      rw [List.size_toArray]
      exact (List.getElem?_eq_some_iff.mp hu).1
    refine wpAny_pyNext_enum_itemD (Draws.tuple (A := X.A.in1) (show X.A.in1.handled = none from I.ok.hd hc) it a n2 its.toArray) he ⟨hit, p⟩ hil n1 (fun z => ?_) fun y h' tk hy ho hs' hT hsz hk => ?_
    · rcases (show e = it ∨ e = a by simpa using z) with z | z
      · exact n1 z
      · exact n3 z.symm
    have ey : y = u := by
      have q1 : its[i]? = some y := by simpa using hy
      exact Option.some.inj (q1.symm.trans hu)
    subst ey
    refine ⟨_, rfl, wpAny_letOwnedTupleGo_enum (s := { s with heap := h', toks := tk + 1 }) ho fun h2 he' sb => ?_⟩
    have hT2 : h2.get? s.heap.objs.size = some { cls := .type "tuple", data := .seq #[.int i tk, y] } := (sb.2 _ (Nat.ne_of_gt le)).trans hT
    have new : ObjOk X.prog X.w (upd H s.heap.objs.size (.tup [.int (i : Nat), x])) h2 s.heap.objs.size (.tup [.int (i : Nat), x]) :=
      ⟨by show 2 ≤ sizeLine; decide, [.int i tk, y], .cons ⟨_, rfl⟩ (.cons ru .nil), ⟨_, hT2, rfl, _, rfl⟩⟩
    have I1 : Inv X pins σ (upd H s.heap.objs.size (.tup [.int (i : Nat), x])) { s with heap := h2, toks := tk + 1 } :=
      I.turnedNew (ch := [e, it]) (fun b ob hb q => (sb.2 b fun z => hb (by simp [z])).trans (hk b ob (fun z => hb (by simp [z])) (fun z => hb (by simp [z])) q)) hf (Nat.le_refl _) new
    refine ⟨.ref s.heap.objs.size, _, I1, rfl, ⟨_, x, rfl, I.hok.fresh (Nat.le_refl _), rfl, fun ys hy => by rw [I.tuple_inj hy hq]; exact hx⟩, ⟨⟨y, ?_⟩, ?_, n1, n2, n3⟩, fun b hb => ?_⟩
    · rw [show ((i + 1 : Nat) : Int) = (i : Int) + 1 by omega]
      exact he'
    · obtain ⟨o, ho, r⟩ := hs'.1
      exact ⟨o, (sb.2 it (Ne.symm n1)).trans ho, r⟩
    · have lb : b < s.heap.objs.size := by
        rcases (show b = e ∨ b = it by simpa using hb) with z | z
        · rw [z]; exact le
        · rw [z]; exact li
      rw [upd_ne (Nat.ne_of_lt lb)]
      exact (hf b hb).1
  done := by
    intro X hP hw hK hc i pins s σ H E I hf st hg
    subst hP hw hK
    obtain ⟨⟨old, he⟩, hit, n1, n2, n3⟩ := st
    obtain ⟨xs, hq, hx⟩ := hg
    obtain ⟨its, rv, p, hz⟩ := I.tuple hq
    obtain ⟨f0, f1, f2, f3, f4, f5⟩ := hf it (by simp)
    have hl := rv.length
    exact nextEnumT_end (I.ok.hd hc) he hit p (by simp; omega) fun h' eb => ⟨rfl, I.turned (t' := s.toks) (fun b o hb q => eb b o hb q) f0 f1 f3 f4 f5⟩
  self := fun A i s Q E st h => by
    obtain ⟨⟨_, he⟩, _⟩ := st
    exact wpAny_pyIter_enum he h

def iEnumT (K : PySem.W.Frag) (ta : TA) : TI := fun σ H R => ta σ H fun vs H1 => ∃ a xs, vs = [.ref a] ∧ SqT K H1 a xs ∧ R (ItEt K a) H1
theorem pi_enumT {X : Cx} {e : Expr} {ta : TA} {p pos tpos : Pos} {elts : List Expr} {kk : Nat} (hg : Gl X "enumerate") (hm : X.mg "enumerate" = none) (ha : PA X [e] ta)
    (hs : starEach [e] X.env = [(false, eval e X.env)] := by rfl) : PI X (.Tuple elts kk tpos) (.Call (.Name "enumerate" p) [e] [] pos) (iEnumT X.K ta) := by
  refine ⟨fun pins s σ H R I h => ?_⟩
  refine Call_ (ld_blt I hg hm boot_enumerate (PyProof.Rows.callWith_type1 (thn (ha.run pos pins s σ H _ I h) fun us s1 ⟨vs, H1, I1, r1, q1⟩ => ?_) hs rfl))
  obtain ⟨a, xs, ex, hq, q⟩ := q1
  subst ex
  cases r1 with
  | cons r rr =>
    cases rr
    cases r
    obtain ⟨its, rv, pt, hz⟩ := I1.tuple hq
    have la : a < s1.heap.objs.size := pt.lt
    refine callEnumT pt fun h' he hit hk => wpAny_pyIter_enum he ?_
    have I2 : Inv X pins σ H1 { s1 with heap := h' } := I1.kept (t' := s1.toks) hk
    refine ⟨s1.heap.objs.size + 1, [s1.heap.objs.size + 1, s1.heap.objs.size], _, _, H1, rfl, I2, turn_enumT a (s1.heap.objs.size + 1) s1.heap.objs.size,
      ⟨⟨.none, he⟩, hit, Nat.succ_ne_self _, Nat.ne_of_lt la, Nat.ne_of_lt (Nat.lt_succ_of_lt la)⟩, fun b hb => ?_, q⟩
    have hle : s1.heap.objs.size ≤ b := by
      rcases (show b = s1.heap.objs.size + 1 ∨ b = s1.heap.objs.size by simpa using hb) with z | z
      · rw [z]; exact Nat.le_add_right _ _
      · rw [z]; exact Nat.le_refl _
    exact I1.fpOk hle (I1.hok.fresh hle)
end TK

set_option maxRecDepth 100000
/-! xs.count(y), flat things -/
namespace TK
open PySem PySem.Spec PyProof.Rows L2
theorem count_eqU {x : V} : ∀ {xs : List V} {us : List Value}, Vals xs us → xs.all flatV = true → us.countP (eqU x) = xs.countP fun y => eqV y x
  | _, _, .nil, _ => rfl
  | y :: xs, u :: us, .cons r t, f => by
    rw [List.all_cons, Bool.and_eq_true] at f
    rw [List.countP_cons, List.countP_cons, count_eqU t f.2, eqU_of r f.1]
section
variable {X : Cx}
def rCntF (K : PySem.W.Frag) : V → List V → Hp → VK → Prop := fun x xs H Q => ∃ (p : Addr) (ys : List V) (y : V), x = .ref p ∧ xs = [y] ∧ SqL K H p ys ∧ flatV y = true ∧ ys.all flatV = true ∧ Q (.int ((ys.countP fun z => eqV z y : Nat) : Int)) H
theorem mt_countF : MtR X "list.count" (rCntF X.K) := by
  intro pins s σ H x xs v us Q I rx rxs h
  obtain ⟨p, ys, y, rfl, rfl, hs, fy, fs, q⟩ := h
  cases rx
  obtain ⟨u, rfl, ru⟩ := rxs.one
  obtain ⟨its, rv, ⟨⟨cls, dd, data, sl⟩, n, ho, hc, hdn, hd⟩, hlen⟩ := I.list hs
  simp only at hc hd
  subst hc hd
  refine call_meets PySem.F.slot_list_count ⟨_, ho, rfl⟩ PySem.F.entry_list_count (PySem.F.args_list_count_2 _ _)
    (SeqAt.list_countAt p its.toArray n dd sl u (eqU y)) ⟨ho, fun z hz => mem_eqAt ru fy rv fs z (by simpa using hz), ?_⟩
  refine ⟨.int ((ys.countP fun z => eqV z y : Nat) : Int), H, I.tok _, ⟨s.toks, ?_⟩, q⟩
  have e : its.toArray.toList.countP (eqU y) = ys.countP fun z => eqV z y := count_eqU rv fs
  rw [← e]
end
end TK

set_option maxRecDepth 100000
/-! heaps: rows, bags -/
namespace TK
open PySem PySem.Spec PyProof.Rows L2

theorem same_new {H : Hp} {p : Addr} {o : HO} (h : H p = none) : Same H (upd H p o) := fun b x e => by
  rw [upd_ne (ne_of_none e h)]
  exact e
/-- a new object's own changes leave what stood -/
theorem same_upd_new {H H' : Hp} {p : Addr} {o : HO} (h : H p = none) (s : Same H H') : Same H (upd H' p o) := fun b x e => by
  rw [upd_ne (ne_of_none e h)]
  exact s b x e
def ofO : Option Nat → V
  | none => .non
  | some k => .int (k : Nat)
theorem ofO_inj : ∀ {a b : Option Nat}, ofO a = ofO b → a = b
  | none, none, _ => rfl
  | none, some _, h => nomatch h
  | some _, none, h => nomatch h
  | some a, some b, h => by
    have := V.int.inj h
    congr 1
    omega
theorem scal_ofO : ∀ (a b : Option Nat), scal (ofO a) (ofO b) = true
  | none, none => rfl
  | none, some _ => rfl
  | some _, none => rfl
  | some _, some _ => rfl
theorem flat_ofO : ∀ (a : Option Nat), flatV (ofO a) = true
  | none => rfl
  | some _ => rfl
theorem eqV_ofO (a b : Option Nat) : eqV (ofO a) (ofO b) = decide (a = b) := by
  cases a with
  | none => cases b <;> rfl
  | some x =>
    cases b with
    | none => rfl
    | some y =>
      show ((x : Int) == (y : Int)) = decide (some x = some y)
      rw [Bool.eq_iff_iff, beq_iff_eq, decide_eq_true_iff]
      constructor
      · intro h; congr 1; omega
      · intro h; have := Option.some.inj h; omega

/-- a row: a tuple of pairs -/
def RowAt (H : Hp) (p : Addr) (r : List (Int × Int)) : Prop :=
  ∃ ts : List Addr, H p = some (.tup (ts.map V.ref)) ∧ ts.length = r.length ∧ ∀ (i : Nat) (t : Addr) (ec : Int × Int), ts[i]? = some t → r[i]? = some ec → H t = some (.tup [.int ec.1, .int ec.2])
/-- every tuple stands as it stood -/
def TupS (H H' : Hp) : Prop := ∀ a xs, H a = some (.tup xs) → H' a = some (.tup xs)
theorem tupS_of {H H' : Hp} (s : Same H H') : TupS H H' := fun a xs h => s a _ h
theorem TupS.trans {H H1 H2 : Hp} (a : TupS H H1) (b : TupS H1 H2) : TupS H H2 := fun c o h => b c o (a c o h)
theorem RowAt.keep {H H' : Hp} {p : Addr} {r : List (Int × Int)} (h : RowAt H p r) (k : TupS H H') : RowAt H' p r := by
  obtain ⟨ts, h1, h2, h3⟩ := h
  exact ⟨ts, k _ _ h1, h2, fun i t ec a b => k _ _ (h3 i t ec a b)⟩

/-- a bag of draws -/
def Bag (H : Hp) (b : Addr) : Prop :=
  ∃ (d : Addr) (ds : List Int) (c : Int), H b = some (.lst [.ref d, .int c]) ∧ H d = some (.lst (ds.map V.int)) ∧ ds.length = 400 ∧ (∀ x ∈ ds, 0 ≤ x ∧ x < 1000) ∧ 0 ≤ c
/-- all but the object at b stands as it stood -/
def Kb (b : Addr) (H H' : Hp) : Prop := ∀ a o, a ≠ b → H a = some o → H' a = some o
theorem Kb.refl (b : Addr) (H : Hp) : Kb b H H := fun _ _ _ h => h
theorem Kb.trans {b : Addr} {H H1 H2 : Hp} (x : Kb b H H1) (y : Kb b H1 H2) : Kb b H H2 := fun a o n h => y a o n (x a o n h)
theorem Kb.of {b : Addr} {H H' : Hp} (s : Same H H') : Kb b H H' := fun a o _ h => s a o h
theorem Kb.tup {b : Addr} {H H' : Hp} (k : Kb b H H') (hb : Bag H b) : TupS H H' := fun a xs h => by
  obtain ⟨d, ds, c, h1, _⟩ := hb
  exact k a _ (ne_of h h1 (by intro z; cases z)) h
theorem Bag.same {b : Addr} {H H' : Hp} (hb : Bag H b) (s : Same H H') : Bag H' b := by
  obtain ⟨d, ds, c, h1, h2, h3⟩ := hb
  exact ⟨d, ds, c, s _ _ h1, s _ _ h2, h3⟩
theorem Bag.keep {b b' : Addr} {H H' : Hp} (hb : Bag H b) (k : Kb b H H') (hn : Bag H' b) (hb' : Bag H b') : Bag H' b' := by
  by_cases e : b' = b
  · rw [e]; exact hn
  · obtain ⟨d, ds, c, h1, h2, h3, h4, h5⟩ := hb'
    obtain ⟨d0, ds0, c0, g1, _⟩ := hb
    have nd : d ≠ b := ne_of h2 g1 (by
      intro z
      have z1 : ds.map V.int = [.ref d0, .int c0] := HO.lst.inj z
      have z2 := congrArg List.length z1
      rw [List.length_map, h3] at z2
      simp at z2)
    exact ⟨d, ds, c, k _ _ e h1, k _ _ nd h2, h3, h4, h5⟩
theorem Kb.free {b l : Addr} {H H' : Hp} (k : Kb b H H') (hn : Bag H' b) (h : H' l = none) : H l = none := by
  cases q : H l with
  | none => rfl
  | some o =>
    by_cases e : l = b
    · obtain ⟨d, ds, c, h1, _⟩ := hn
      rw [e, h1] at h
      cases h
    · rw [k l o e q] at h
      cases h
/-- a list whose first is no reference is no bag -/
theorem ne_bag {H : Hp} {a b : Addr} {xs : List V} (h : H a = some (.lst xs)) (hb : Bag H b) (hx : ∀ d, xs[0]? ≠ some (.ref d)) : a ≠ b := by
  obtain ⟨d, ds, c, h1, _⟩ := hb
  refine ne_of h h1 fun z => ?_
  have z1 : xs = [.ref d, .int c] := HO.lst.inj z
  exact hx d (by rw [z1]; rfl)
theorem ne_bag2 {H : Hp} {a b : Addr} {xs : List V} (h : H a = some (.lst xs)) (hb : Bag H b) (hx : ∀ d, xs[1]? ≠ some (.int d)) : a ≠ b := by
  obtain ⟨d, ds, c, h1, _⟩ := hb
  refine ne_of h h1 fun z => ?_
  have z1 : xs = [.ref d, .int c] := HO.lst.inj z
  exact hx c (by rw [z1]; rfl)
theorem sq_of {K : PySem.W.Frag} {H : Hp} {a : Addr} {xs : List V} (h : H a = some (.lst xs)) : SqL K H a xs := .inl (.inl h)
theorem st_of {K : PySem.W.Frag} {H : Hp} {a : Addr} {xs : List V} (h : H a = some (.tup xs)) : SqT K H a xs := .inl (.inl h)
/-- the script stands, whatever a bag does -/
theorem Kb.seq {K : PySem.W.Frag} {b a : Addr} {H H' : Hp} {ns : List Int} (k : Kb b H H') (hb : Bag H b) (h : SqL K H a (ns.map V.int)) : SqL K H' a (ns.map V.int) := by
  rcases h with (h | ⟨o, h⟩) | h
  · exact .inl (.inl (k _ _ (ne_bag h hb (by intro d; rw [List.getElem?_map]; cases ns[0]? <;> simp)) h))
  · obtain ⟨d, ds, c, h1, _⟩ := hb
    exact .inl (.inr ⟨o, k _ _ (ne_of h h1 (by intro z; cases z)) h⟩)
  · exact .inr h
theorem Bag.upd_refs {b D : Addr} {H : Hp} {bs : List Addr} {o : HO} (hb : Bag H b) (h : H D = some (.lst (bs.map V.ref))) : Bag (upd H D o) b := by
  obtain ⟨d, ds, c, h1, h2, h3, h4⟩ := hb
  have n1 : b ≠ D := ne_of h1 h (by
    intro z
    have z1 : [V.ref d, V.int c] = bs.map V.ref := HO.lst.inj z
    have z2 : (bs.map V.ref)[1]? = some (.int c) := by rw [← z1]; rfl
    rw [List.getElem?_map] at z2
    cases q : bs[1]? <;> rw [q] at z2 <;> cases z2)
  have n2 : d ≠ D := ne_of h2 h (by
    intro z
    have z1 : ds.map V.int = bs.map V.ref := HO.lst.inj z
    have z2 : (ds.map V.int)[0]? = (bs.map V.ref)[0]? := by rw [z1]
    rw [List.getElem?_map, List.getElem?_map, List.getElem?_eq_getElem (by omega)] at z2
    cases q : bs[0]? <;> rw [q] at z2 <;> cases z2)
  exact ⟨d, ds, c, by rw [upd_ne n1]; exact h1, by rw [upd_ne n2]; exact h2, h3, h4⟩
theorem yesT {σ : L2.St} {H : Hp} {A B : Hp → Prop} (h : A H) : tYes σ H (fun b H3 => if b = true then A H3 else B H3) := by
  show if true = true then A H else B H
  rw [if_pos rfl]
  exact h
/-- the walk of enumerate over a tuple -/
theorem walk_enumT {K : PySem.W.Frag} {a : Addr} {xs : List V} : Walk (ItEt K a) xs.length (fun H => SqT K H a xs) (YPair (fun i => some (.int (i : Nat))) (fun i => xs[i]?)) := by
  refine ⟨fun i H hi h => ⟨xs, xs[i], h, List.getElem?_eq_getElem hi⟩, fun H h => ⟨xs, h, Nat.le_refl _⟩, fun i H v H' hi h y => ?_⟩
  obtain ⟨T, x, e1, e2, e3, e4⟩ := y
  exact ⟨T, _, x, e1, e2, e3, rfl, e4 xs h⟩
end TK

set_option maxRecDepth 100000
/-! lists compared, cut, set -/
namespace TK
open PySem PySem.Spec PyProof.Rows L2
theorem lay_ints : ∀ ns : List Int, PyData.canLayAll0 (ns.map PyData.int) = true
  | [] => rfl
  | n :: r => by
    show (PyData.canLay0 (.int n) && PyData.canLayAll0 (r.map PyData.int)) = true
    rw [lay_ints r]
    rfl
theorem deep_ints : ∀ ns : List Int, PyData.depthAll (ns.map PyData.int) = 0
  | [] => rfl
  | n :: r => by
    show max (PyData.depth (.int n)) (PyData.depthAll (r.map PyData.int)) = 0
    rw [deep_ints r]
    rfl
theorem shp_ints (ns : List Int) : SeqAt.shaped (.list (ns.map PyData.int)) = true := by
  unfold SeqAt.shaped
  rw [show PyData.canLay0 (.list (ns.map PyData.int)) = PyData.canLayAll0 (ns.map PyData.int) from rfl, lay_ints,
    show PyData.depth (.list (ns.map PyData.int)) = PyData.depthAll (ns.map PyData.int) + 1 from rfl, deep_ints]
  decide
theorem all_ints {K : PySem.W.Frag} {H : Hp} : ∀ ns : List Int, DpAll K H (ns.map V.int) (ns.map PyData.int)
  | [] => .nil
  | n :: r => .cons (.int n) (all_ints r)
theorem dp_ints {K : PySem.W.Frag} {H : Hp} {a : Addr} {ns : List Int} (h : SqL K H a (ns.map V.int)) : Dp K H (.ref a) (.list (ns.map PyData.int)) := .lst h (all_ints ns)
theorem eqv_ints : ∀ (ns ms : List Int), PyData.eqvAll (ns.map PyData.int) (ms.map PyData.int) = decide (ns = ms)
  | [], [] => rfl
  | [], _ :: _ => rfl
  | _ :: _, [] => rfl
  | n :: r, m :: q => by
    show ((n == m) && PyData.eqvAll (r.map PyData.int) (q.map PyData.int)) = _
    rw [eqv_ints r q, Bool.eq_iff_iff]
    simp
theorem eqv_list (ns ms : List Int) : PyData.eqv (.list (ns.map PyData.int)) (.list (ms.map PyData.int)) = decide (ns = ms) := by
  rw [PyData.eqv]
  exact eqv_ints ns ms
/-- two equal lists of ints, != -/
theorem ne_ints {K : PySem.W.Frag} {H : Hp} {a b : Addr} {ns : List Int} {Q : VK} (ha : SqL K H a (ns.map V.int)) (hb : SqL K H b (ns.map V.int)) (q : Q (.bl false) H) : rNeD K (.ref a) (.ref b) H Q := by
  refine ⟨_, _, dp_ints ha, dp_ints hb, shp_ints ns, shp_ints ns, ?_⟩
  rw [eqv_list, decide_eq_true rfl]
  exact q
theorem eq_ints {K : PySem.W.Frag} {H : Hp} {a b : Addr} {ns : List Int} {Q : VK} (ha : SqL K H a (ns.map V.int)) (hb : SqL K H b (ns.map V.int)) (q : Q (.bl true) H) : rEqD K (.ref a) (.ref b) H Q := by
  refine ⟨_, _, dp_ints ha, dp_ints hb, shp_ints ns, shp_ints ns, ?_⟩
  rw [eqv_list, decide_eq_true rfl]
  exact q
theorem cut_to {xs : List V} {m : Int} {k : Nat} (h : m = (k : Int)) (hk : k ≤ xs.length) : cutV xs none (some m) = xs.take k := by
  subst h
  unfold cutV
  rw [HT.sIx_none, HT.sIx_nat, List.drop_zero, Nat.sub_zero, Nat.min_eq_left hk]
theorem cut_init (xs : List V) : cutV xs none (some (-1)) = xs.dropLast := by
  unfold cutV
  rw [HT.sIx_none, List.drop_zero, Nat.sub_zero, List.dropLast_eq_take]
  congr 1
  show (if (-1 : Int) < 0 then ((-1 : Int) + (xs.length : Int)).toNat else min (-1 : Int).toNat xs.length) = xs.length - 1
  rw [if_pos (by decide)]
  omega
theorem mix_get {α : Type} {A B : List α} {i : Nat} (hA : i ≤ A.length) : (A.take i ++ B.drop i)[i]? = B[i]? := by
  have h : (A.take i).length = i := by rw [List.length_take]; omega
  rw [List.getElem?_append_right (by omega), h, Nat.sub_self, List.getElem?_drop, Nat.add_zero]
theorem mix_set {α : Type} {A B : List α} {i : Nat} {x : α} (hx : A[i]? = some x) (hl : A.length = B.length) : (A.take i ++ B.drop i).set i x = A.take (i + 1) ++ B.drop (i + 1) := by
  have hi : i < A.length := (List.getElem?_eq_some_iff.mp hx).1
  have h : (A.take i).length = i := by rw [List.length_take]; omega
  rw [List.set_append_right i x (by omega), h, Nat.sub_self, List.take_add_one, hx, List.append_assoc]
  congr 1
  rw [List.drop_eq_getElem_cons (show i < B.length by omega)]
  rfl
theorem mix_same {α : Type} {A B : List α} {i : Nat} (hx : A[i]? = B[i]?) (hi : i < A.length) (hl : A.length = B.length) : A.take i ++ B.drop i = A.take (i + 1) ++ B.drop (i + 1) := by
  rw [List.take_add_one, List.append_assoc, hx, List.getElem?_eq_getElem (show i < B.length by omega), List.drop_eq_getElem_cons (show i < B.length by omega)]
  rfl
theorem map_set (L : List Int) (i : Nat) (x : Int) : (L.map V.int).set i (.int x) = (L.set i x).map V.int := by
  rw [List.map_set]
theorem ixN_nat {n i : Nat} {z : Int} (h : z = (i : Int)) (hi : i < n) : ixN n z = some i := by
  subst h
  unfold ixN
  rw [if_pos (by omega), if_pos (by omega), Int.toNat_natCast]
theorem Bag.upd_ints {b D : Addr} {H : Hp} {ms : List Int} {o : HO} (hb : Bag H b) (h : H D = some (.lst (ms.map V.int))) (hl : ms.length < 400) : Bag (upd H D o) b := by
  obtain ⟨d, ds, c, h1, h2, h3, h4⟩ := hb
  have n1 : b ≠ D := ne_of h1 h (by
    intro z
    have z1 : [V.ref d, V.int c] = ms.map V.int := HO.lst.inj z
    have z2 : (ms.map V.int)[0]? = some (.ref d) := by rw [← z1]; rfl
    rw [List.getElem?_map] at z2
    cases q : ms[0]? <;> rw [q] at z2 <;> cases z2)
  have n2 : d ≠ D := ne_of h2 h (by
    intro z
    have z1 : ds.map V.int = ms.map V.int := HO.lst.inj z
    have z2 := congrArg List.length z1
    rw [List.length_map, List.length_map] at z2
    omega)
  exact ⟨d, ds, c, by rw [upd_ne n1]; exact h1, by rw [upd_ne n2]; exact h2, h3, h4⟩
theorem tIf_at {σ : L2.St} {H : Hp} {Q : VK} {tc : TT} {ta tb : TE} {v : V} (h : Q v H)
    (hc : ∃ b : Bool, (∀ R : Bool → Hp → Prop, R b H → tc σ H R) ∧ (b = true → ∀ R : VK, R v H → ta σ H R) ∧ (b = false → ∀ R : VK, R v H → tb σ H R)) : tIf tc ta tb σ H Q := by
  obtain ⟨b, h1, h2, h3⟩ := hc
  refine h1 _ ?_
  cases b with
  | true =>
    show if true = true then ta σ H Q else tb σ H Q
    rw [if_pos rfl]
    exact h2 rfl Q h
  | false =>
    show if false = true then ta σ H Q else tb σ H Q
    rw [if_neg Bool.false_ne_true]
    exact h3 rfl Q h
theorem lst_get {ns : List Int} {i : Nat} {v : Int} (h : ns[i]? = some v) : atI (ns.map V.int) (i : Int) = some (.int v) := at_of rfl (by rw [List.getElem?_map, h]; rfl)
theorem row0 {H : Hp} {t : Addr} (h : H t = some (.tup [])) : RowAt H t [] := ⟨[], h, rfl, fun i t ec h => nomatch h⟩
theorem row1 {H : Hp} {t t1 : Addr} {e c : Int} (h : H t = some (.tup [.ref t1])) (h1 : H t1 = some (.tup [.int e, .int c])) : RowAt H t [(e, c)] :=
  ⟨[t1], h, rfl, fun i t ec a b => by
    cases i with
    | zero => cases a; cases b; exact h1
    | succ i => simp at a⟩
theorem row2 {H : Hp} {t t1 t2 : Addr} {e c e' c' : Int} (h : H t = some (.tup [.ref t1, .ref t2])) (h1 : H t1 = some (.tup [.int e, .int c])) (h2 : H t2 = some (.tup [.int e', .int c'])) : RowAt H t [(e, c), (e', c')] :=
  ⟨[t1, t2], h, rfl, fun i t ec a b => by
    cases i with
    | zero => cases a; cases b; exact h1
    | succ i =>
      cases i with
      | zero => cases a; cases b; exact h2
      | succ i => simp at a⟩
/-- how far a piece has come -/
def TkSt (r : List (Int × Int)) (n : Int) (i : Nat) (o : Option Nat) : Prop := (o = none ∧ reach r n i) ∨ ∃ j, o = some j ∧ j < i ∧ whoF r n = some j
theorem TkSt.done {r : List (Int × Int)} {n : Int} {o : Option Nat} (h : TkSt r n r.length o) : o = whoF r n := by
  rcases h with ⟨rfl, h⟩ | ⟨j, rfl, _, h⟩
  · cases k : whoF r n with
    | none => rfl
    | some j =>
      have := whoF_lt r n j k
      have := h j k
      omega
  · exact h.symm
/-- the row's numbers, counted among what is seen -/
def numF (r : List (Int × Int)) (os : List (Option Nat)) : List Int :=
  (List.range r.length).map (fun (j : Nat) => ((os.countP fun x => decide (x = some j) : Nat) : Int)) ++ [((os.countP fun x => decide (x = none) : Nat) : Int)]
theorem num_taken (r : List (Int × Int)) (ok : ∀ ec ∈ r, okT ec) (m : Nat) : numF r (seenF r m) = takenF r (m : Int) := by
  apply List.ext_getElem?
  intro i
  unfold numF
  rcases Nat.lt_trichotomy i r.length with h | h | h
  · rw [List.getElem?_append_left (by simpa using h), List.getElem?_map, List.getElem?_range h]
    have := taken_count r ok (some i) (fun j hj => by cases hj; exact h) m
    exact this.symm
  · rw [List.getElem?_append_right (by simp; omega)]
    have := taken_count r ok none (fun j hj => nomatch hj) m
    simp only [List.length_map, List.length_range, h, Nat.sub_self, List.getElem?_cons_zero]
    exact this.symm
  · rw [List.getElem?_eq_none (by simp; omega), List.getElem?_eq_none (by rw [len_takenF]; omega)]
end TK

namespace Lk04
open PySem PySem.Spec PyProof.Rows L2 TK
def topS (i : Nat) : Stmt := PySem.Challenge.pw_takenth_k04_whole_however_far.main.body.getD i (.Pass ⟨0, 0, 0, 0⟩)
abbrev s_is_whole : Stmt := topS 6
theorem sc_is_whole : FnScope ["thing", "least", "most"] ["thing", "least", "most"] (defScope s_is_whole) := ⟨rfl, rfl, rfl, by decide +kernel, rfl, by decide +kernel, by decide +kernel⟩
abbrev s_check_number : Stmt := topS 7
theorem sc_check_number : FnScope ["thing", "least", "most"] ["thing", "least", "most"] (defScope s_check_number) := ⟨rfl, rfl, rfl, by decide +kernel, rfl, by decide +kernel, by decide +kernel⟩
abbrev s_is_taker : Stmt := topS 14
theorem sc_is_taker : FnScope ["thing", "every", "counted"] ["thing"] (defScope s_is_taker) := ⟨rfl, rfl, rfl, by decide +kernel, rfl, by decide +kernel, by decide +kernel⟩
abbrev s_is_row : Stmt := topS 15
theorem sc_is_row : FnScope ["thing", "part"] ["thing"] (defScope s_is_row) := ⟨rfl, rfl, rfl, by decide +kernel, rfl, by decide +kernel, by decide +kernel⟩
abbrev s_check_row : Stmt := topS 16
theorem sc_check_row : FnScope ["thing"] ["thing"] (defScope s_check_row) := ⟨rfl, rfl, rfl, by decide +kernel, rfl, by decide +kernel, by decide +kernel⟩
abbrev s_check_taker : Stmt := topS 17
theorem sc_check_taker : FnScope ["row", "thing"] ["row", "thing"] (defScope s_check_taker) := ⟨rfl, rfl, rfl, by decide +kernel, rfl, by decide +kernel, by decide +kernel⟩
abbrev s_who : Stmt := topS 18
theorem sc_who : FnScope ["row", "piece", "coming", "place", "every", "counted", "took", "count"] ["row", "piece"] (defScope s_who) := ⟨rfl, rfl, rfl, by decide +kernel, rfl, by decide +kernel, by decide +kernel⟩
abbrev s_taken : Stmt := topS 19
theorem sc_taken : FnScope ["row", "number", "told", "coming", "every", "counted", "took"] ["row", "number"] (defScope s_taken) := ⟨rfl, rfl, rfl, by decide +kernel, rfl, by decide +kernel, by decide +kernel⟩
abbrev s_piece_of : Stmt := topS 20
theorem sc_piece_of : FnScope ["row", "taker", "number", "every", "counted"] ["row", "taker", "number"] (defScope s_piece_of) := ⟨rfl, rfl, rfl, by decide +kernel, rfl, by decide +kernel, by decide +kernel⟩
abbrev s_piece_behind : Stmt := topS 21
theorem sc_piece_behind : FnScope ["row", "number", "piece", "every", "counted", "passed"] ["row", "number"] (defScope s_piece_behind) := ⟨rfl, rfl, rfl, by decide +kernel, rfl, by decide +kernel, by decide +kernel⟩
abbrev s__law_cell_at : Stmt := topS 23
theorem sc__law_cell_at : FnScope ["script", "k"] ["script", "k"] (defScope s__law_cell_at) := ⟨rfl, rfl, rfl, by decide +kernel, rfl, by decide +kernel, by decide +kernel⟩
abbrev s__law_draws : Stmt := topS 24
theorem sc__law_draws : FnScope ["cell", "many", "size", "found", "rest", "stirred", "k"] ["cell", "many", "size"] (defScope s__law_draws) := ⟨rfl, rfl, rfl, by decide +kernel, rfl, by decide +kernel, by decide +kernel⟩
abbrev s__law_bag : Stmt := topS 25
theorem sc__law_bag : FnScope ["script", "k"] ["script", "k"] (defScope s__law_bag) := ⟨rfl, rfl, rfl, by decide +kernel, rfl, by decide +kernel, by decide +kernel⟩
abbrev s__law_bags : Stmt := topS 26
theorem sc__law_bags : FnScope ["script", "limit", "k"] ["script", "limit"] (defScope s__law_bags) := ⟨rfl, rfl, rfl, by decide +kernel, rfl, by decide +kernel, by decide +kernel⟩
abbrev s__law_take : Stmt := topS 27
theorem sc__law_take : FnScope ["bag", "many"] ["bag", "many"] (defScope s__law_take) := ⟨rfl, rfl, rfl, by decide +kernel, rfl, by decide +kernel, by decide +kernel⟩
abbrev s__law_far_draw : Stmt := topS 28
theorem sc__law_far_draw : FnScope ["bag", "many", "found", "much"] ["bag", "many"] (defScope s__law_far_draw) := ⟨rfl, rfl, rfl, by decide +kernel, rfl, by decide +kernel, by decide +kernel⟩
abbrev s__law_taker : Stmt := topS 29
theorem sc__law_taker : FnScope ["bag", "far", "every"] ["bag", "far"] (defScope s__law_taker) := ⟨rfl, rfl, rfl, by decide +kernel, rfl, by decide +kernel, by decide +kernel⟩
abbrev s__law_drawn_row : Stmt := topS 30
theorem sc__law_drawn_row : FnScope ["bag", "takers", "far", "turn"] ["bag", "takers", "far"] (defScope s__law_drawn_row) := ⟨rfl, rfl, rfl, by decide +kernel, rfl, by decide +kernel, by decide +kernel⟩
abbrev s_law : Stmt := topS 31
theorem sc_law : FnScope ["script", "bag", "house", "place", "turn", "at", "number", "many", "now", "then", "took", "piece", "next_one", "k", "one"] ["script"] (defScope s_law) := ⟨rfl, rfl, rfl, by decide +kernel, rfl, by decide +kernel, by decide +kernel⟩
structure Top (K : PySem.W.Frag) (mg : Str → Option Value) where
  a_is_whole : Addr
  fd_is_whole : FuncData
  F_is_whole : Fun K "is_whole" "is_whole" s_is_whole a_is_whole fd_is_whole
  b_is_whole : Binds K fd_is_whole ["thing", "least", "most"] []
  g_is_whole : mg "is_whole" = some (.ref a_is_whole)
  a_check_number : Addr
  fd_check_number : FuncData
  F_check_number : Fun K "check_number" "check_number" s_check_number a_check_number fd_check_number
  b_check_number : Binds K fd_check_number ["thing", "least", "most"] []
  g_check_number : mg "check_number" = some (.ref a_check_number)
  a_is_taker : Addr
  fd_is_taker : FuncData
  F_is_taker : Fun K "is_taker" "is_taker" s_is_taker a_is_taker fd_is_taker
  b_is_taker : Binds K fd_is_taker ["thing"] []
  g_is_taker : mg "is_taker" = some (.ref a_is_taker)
  a_is_row : Addr
  fd_is_row : FuncData
  F_is_row : Fun K "is_row" "is_row" s_is_row a_is_row fd_is_row
  b_is_row : Binds K fd_is_row ["thing"] []
  g_is_row : mg "is_row" = some (.ref a_is_row)
  a_check_row : Addr
  fd_check_row : FuncData
  F_check_row : Fun K "check_row" "check_row" s_check_row a_check_row fd_check_row
  b_check_row : Binds K fd_check_row ["thing"] []
  g_check_row : mg "check_row" = some (.ref a_check_row)
  a_check_taker : Addr
  fd_check_taker : FuncData
  F_check_taker : Fun K "check_taker" "check_taker" s_check_taker a_check_taker fd_check_taker
  b_check_taker : Binds K fd_check_taker ["row", "thing"] []
  g_check_taker : mg "check_taker" = some (.ref a_check_taker)
  a_who : Addr
  fd_who : FuncData
  F_who : Fun K "who" "who" s_who a_who fd_who
  b_who : Binds K fd_who ["row", "piece"] []
  g_who : mg "who" = some (.ref a_who)
  a_taken : Addr
  fd_taken : FuncData
  F_taken : Fun K "taken" "taken" s_taken a_taken fd_taken
  b_taken : Binds K fd_taken ["row", "number"] []
  g_taken : mg "taken" = some (.ref a_taken)
  a_piece_of : Addr
  fd_piece_of : FuncData
  F_piece_of : Fun K "piece_of" "piece_of" s_piece_of a_piece_of fd_piece_of
  b_piece_of : Binds K fd_piece_of ["row", "taker", "number"] []
  g_piece_of : mg "piece_of" = some (.ref a_piece_of)
  a_piece_behind : Addr
  fd_piece_behind : FuncData
  F_piece_behind : Fun K "piece_behind" "piece_behind" s_piece_behind a_piece_behind fd_piece_behind
  b_piece_behind : Binds K fd_piece_behind ["row", "number"] []
  g_piece_behind : mg "piece_behind" = some (.ref a_piece_behind)
  a__law_cell_at : Addr
  fd__law_cell_at : FuncData
  F__law_cell_at : Fun K "_law_cell_at" "_law_cell_at" s__law_cell_at a__law_cell_at fd__law_cell_at
  b__law_cell_at : Binds K fd__law_cell_at ["script", "k"] []
  g__law_cell_at : mg "_law_cell_at" = some (.ref a__law_cell_at)
  a__law_draws : Addr
  fd__law_draws : FuncData
  F__law_draws : Fun K "_law_draws" "_law_draws" s__law_draws a__law_draws fd__law_draws
  b__law_draws : Binds K fd__law_draws ["cell", "many", "size"] []
  g__law_draws : mg "_law_draws" = some (.ref a__law_draws)
  a__law_bag : Addr
  fd__law_bag : FuncData
  F__law_bag : Fun K "_law_bag" "_law_bag" s__law_bag a__law_bag fd__law_bag
  b__law_bag : Binds K fd__law_bag ["script", "k"] []
  g__law_bag : mg "_law_bag" = some (.ref a__law_bag)
  a__law_bags : Addr
  fd__law_bags : FuncData
  F__law_bags : Fun K "_law_bags" "_law_bags" s__law_bags a__law_bags fd__law_bags
  b__law_bags : Binds K fd__law_bags ["script", "limit"] []
  g__law_bags : mg "_law_bags" = some (.ref a__law_bags)
  a__law_take : Addr
  fd__law_take : FuncData
  F__law_take : Fun K "_law_take" "_law_take" s__law_take a__law_take fd__law_take
  b__law_take : Binds K fd__law_take ["bag", "many"] []
  g__law_take : mg "_law_take" = some (.ref a__law_take)
  a__law_far_draw : Addr
  fd__law_far_draw : FuncData
  F__law_far_draw : Fun K "_law_far_draw" "_law_far_draw" s__law_far_draw a__law_far_draw fd__law_far_draw
  b__law_far_draw : Binds K fd__law_far_draw ["bag", "many"] []
  g__law_far_draw : mg "_law_far_draw" = some (.ref a__law_far_draw)
  a__law_taker : Addr
  fd__law_taker : FuncData
  F__law_taker : Fun K "_law_taker" "_law_taker" s__law_taker a__law_taker fd__law_taker
  b__law_taker : Binds K fd__law_taker ["bag", "far"] []
  g__law_taker : mg "_law_taker" = some (.ref a__law_taker)
  a__law_drawn_row : Addr
  fd__law_drawn_row : FuncData
  F__law_drawn_row : Fun K "_law_drawn_row" "_law_drawn_row" s__law_drawn_row a__law_drawn_row fd__law_drawn_row
  b__law_drawn_row : Binds K fd__law_drawn_row ["bag", "takers", "far"] []
  g__law_drawn_row : mg "_law_drawn_row" = some (.ref a__law_drawn_row)
  a_law : Addr
  fd_law : FuncData
  F_law : Fun K "law" "law" s_law a_law fd_law
  b_law : Binds K fd_law ["script"] []
  g_law : mg "law" = some (.ref a_law)
  t_MOST_TAKERS : Tok
  g_MOST_TAKERS : mg "MOST_TAKERS" = some (.int 8 t_MOST_TAKERS)
  t_LEAST_EVERY : Tok
  g_LEAST_EVERY : mg "LEAST_EVERY" = some (.int 2 t_LEAST_EVERY)
  t_MOST_EVERY : Tok
  g_MOST_EVERY : mg "MOST_EVERY" = some (.int 1000 t_MOST_EVERY)
  t_MOST_PIECES : Tok
  g_MOST_PIECES : mg "MOST_PIECES" = some (.int 1000000000000000000 t_MOST_PIECES)
  t_MOST_TAKEN : Tok
  g_MOST_TAKEN : mg "MOST_TAKEN" = some (.int 1000000000000 t_MOST_TAKEN)
  z_all : mg "all" = none
  z_bool : mg "bool" = none
  z_divmod : mg "divmod" = none
  z_enumerate : mg "enumerate" = none
  z_int : mg "int" = none
  z_isinstance : mg "isinstance" = none
  z_len : mg "len" = none
  z_list : mg "list" = none
  z_max : mg "max" = none
  z_min : mg "min" = none
  z_range : mg "range" = none
  z_reversed : mg "reversed" = none
  z_sum : mg "sum" = none
  z_tuple : mg "tuple" = none
section
variable {P : Program} {w : World} {K : PySem.W.Frag} {mg : Str → Option Value} {base : Heap}
/-! the program: whole numbers, rows of takers -/
def spWhole : Sp := fun vs H Q _ => ∃ n lo hi : Int, vs = [.int n, .int lo, .int hi] ∧ Q (.bl (decide (lo ≤ n) && decide (n ≤ hi))) H
theorem ok_is_whole (T : Top K mg) : FnOk P w K mg base CX0 1 T.a_is_whole T.fd_is_whole ["thing", "least", "most"] spWhole := by
  refine T.F_is_whole.ok sc_is_whole (fun vs H Q E h => ?_) (fun cdv A outer s H vs Q E hr h => ?_)
  · obtain ⟨n, lo, hi, rfl, _⟩ := h
    rfl
  · obtain ⟨n, lo, hi, rfl, q⟩ := h
    refine ⟨_, (pss_cons (ps_if (PW.pt (pw_or (pt_not (pt_val (pe_callB call_isi (by rfl) T.z_isinstance (by decide +kernel) (pa_cons (pv 0) (pa_cons (pe_bltn (v := .ty "int") (by rfl) T.z_int (by decide +kernel) rfl) pa_nil))))) (pw_or1 (pt_val (pe_callB call_isi (by rfl) T.z_isinstance (by decide +kernel) (pa_cons (pv 0) (pa_cons (pe_bltn (v := .ty "bool") (by rfl) T.z_bool (by decide +kernel) rfl) pa_nil))))))) (pss_one (ps_ret pe_bl)) pss_nil)
      (pss_one (ps_ret (pe_chain op_le op_le (pv 1) (pv 0) (pv 2))))), ?_⟩
    refine ⟨.int n, rfl, .int n, .ty "int", .type "int", .type "int", true, rfl, .ty _, .base (.int n), kit_ty (by decide +kernel), true, rfl, iteF ?_⟩
    refine ⟨.int n, rfl, .int n, .ty "bool", .type "int", .type "bool", false, rfl, .ty _, .base (.int n), kit_ty (by decide +kernel), false, rfl, iteF ?_⟩
    refine ⟨.int lo, rfl, .int n, rfl, lo, n, rfl, rfl, _, rfl, ite2 (fun e => ?_) (fun e => ?_)⟩
    · refine ⟨.int hi, rfl, n, hi, rfl, rfl, ?_⟩
      rw [e, Bool.true_and] at q
      exact q
    · rw [show decide (lo ≤ n) = false by simpa using e, Bool.false_and] at q
      exact q
def spTaker : Sp := fun vs H Q _ => ∃ (t : Addr) (e c : Int), vs = [.ref t] ∧ H t = some (.tup [.int e, .int c]) ∧ okT (e, c) ∧ Q (.bl true) H
theorem ok_is_taker (T : Top K mg) : FnOk P w K mg base CX0 2 T.a_is_taker T.fd_is_taker ["thing"] spTaker := by
  refine T.F_is_taker.ok sc_is_taker (fun vs H Q E h => ?_) (fun cdv A outer s H vs Q E hr h => ?_)
  · obtain ⟨t, e, c, rfl, _⟩ := h
    rfl
  · obtain ⟨t, e, c, rfl, ht, ok, q⟩ := h
    obtain ⟨o1, o2, o3, o4⟩ := ok
    simp only at o1 o2 o3 o4
    refine ⟨_, (pss_cons (ps_if (PW.pt (pw_or (pt_not (pt_val (pe_callB call_isi (by rfl) T.z_isinstance (by decide +kernel) (pa_cons (pv 0) (pa_cons (pe_bltn (v := .ty "tuple") (by rfl) T.z_tuple (by decide +kernel) rfl) pa_nil))))) (pw_or1 (pt_cmpR op_ne (pe_callB call_len_seq (by rfl) T.z_len (by decide +kernel) (pa_cons (pv 0) pa_nil)) pe_int (nomark _))))) (pss_one (ps_ret pe_bl)) pss_nil)
      (pss_cons (ps_asg (pv 0) (pg_tup (by rfl) (pgs_cons (pg_name (i := 1) sc_is_taker.nd rfl (.inl rfl)) (pgs_cons (pg_name (i := 2) sc_is_taker.nd rfl (.inl rfl)) pgs_nil))))
      (pss_one (ps_ret (pe_and (pe_call (ok_is_whole T) (hr.mono (by decide)) (by rfl) T.g_is_whole T.F_is_whole.kp T.b_is_whole .nil pass0 (pa_cons (pv 1) (pa_cons (pe_glob (v := .int 2) (by rfl) T.g_LEAST_EVERY ⟨_, rfl⟩) (pa_cons (pe_glob (v := .int 1000) (by rfl) T.g_MOST_EVERY ⟨_, rfl⟩) pa_nil)))) (pe_one (pe_call (ok_is_whole T) (hr.mono (by decide)) (by rfl) T.g_is_whole T.F_is_whole.kp T.b_is_whole .nil pass0 (pa_cons (pv 2) (pa_cons pe_int (pa_cons (pe_op op_sub (pv 1) pe_int) pa_nil)))))))))), ?_⟩
    refine ⟨.ref t, rfl, .ref t, .ty "tuple", .type "tuple", .type "tuple", true, rfl, .ty _, .base (.tup ht), kit_ty (by decide +kernel), true, rfl, iteF ?_⟩
    refine ⟨.ref t, rfl, t, _, rfl, .inr (st_of ht), rfl, false, rfl, iteF ?_⟩
    refine ⟨.ref t, rfl, t, _, rfl, st_of ht, rfl, .int e, _, rfl, .int c, _, rfl, rfl, ?_⟩
    refine ⟨.int e, rfl, e, 2, 1000, rfl, ?_⟩
    rw [decide_eq_true o1, decide_eq_true o2]
    refine ⟨_, rfl, iteT ?_⟩
    refine ⟨.int c, rfl, .int e, rfl, e, 1, rfl, rfl, c, 0, e - 1, rfl, ?_⟩
    rw [decide_eq_true o3, decide_eq_true o4]
    exact q
def spRow : Sp := fun vs H Q _ => ∃ (p : Addr) (r : List (Int × Int)), vs = [.ref p] ∧ RowAt H p r ∧ (∀ ec ∈ r, okT ec) ∧ r.length ≤ 8 ∧ ∀ H', Same H H' → Q (.bl true) H'
theorem ok_is_row (T : Top K mg) : FnOk P w K mg base CX0 3 T.a_is_row T.fd_is_row ["thing"] spRow := by
  refine T.F_is_row.ok sc_is_row (fun vs H Q E h => ?_) (fun cdv A outer s H vs Q E hr h => ?_)
  · obtain ⟨p, r, rfl, _⟩ := h
    rfl
  · obtain ⟨p, r, rfl, hR, ok, hlen, q⟩ := h
    obtain ⟨ts, h1, h2, h3⟩ := id hR
    refine ⟨_, (pss_cons (ps_if (PW.pt (pw_or (pt_not (pt_val (pe_callB call_isi (by rfl) T.z_isinstance (by decide +kernel) (pa_cons (pv 0) (pa_cons (pe_bltn (v := .ty "tuple") (by rfl) T.z_tuple (by decide +kernel) rfl) pa_nil))))) (pw_or1 (pt_cmpR op_gt (pe_callB call_len_seq (by rfl) T.z_len (by decide +kernel) (pa_cons (pv 0) pa_nil)) (pe_glob (v := .int 8) (by rfl) T.g_MOST_TAKERS ⟨_, rfl⟩) (nomark _))))) (pss_one (ps_ret pe_bl)) pss_nil)
      (pss_one (ps_ret (pe_callB (cr_all rfl) (by rfl) T.z_all (by decide +kernel) (pa_cons (pe_lc (own := [("part", 1)]) (by rfl) sc_is_row.nd (pi_tup (pv 0))
        (blkOk_by (own := [("part", 1)]) (N := ["thing", "part"]) (sc := defScope s_is_row) (by decide +kernel))
        (fun _ _ _ _ _ => (pg_name (i := 1) sc_is_row.nd rfl (.inl rfl))) (fun _ _ _ _ _ => pts_nil) (fun _ _ _ _ _ => (pe_call (ok_is_taker T) (hr.mono (by decide)) (by rfl) T.g_is_taker T.F_is_taker.kp T.b_is_taker .nil pass0 (pa_cons (pv 1) pa_nil)))) pa_nil))))), ?_⟩
    refine ⟨.ref p, rfl, .ref p, .ty "tuple", .type "tuple", .type "tuple", true, rfl, .ty _, .base (.tup h1), kit_ty (by decide +kernel), true, rfl, iteF ?_⟩
    refine ⟨.ref p, rfl, p, _, rfl, .inr (st_of h1), _, _, rfl, rfl, false, ?_, iteF ?_⟩
    · rw [List.length_map, h2]
      have : ¬ ((8 : Int) < (r.length : Int)) := by omega
      show V.bl (decide ((8 : Int) < (r.length : Int))) = _
      rw [decide_eq_false this]
    refine ⟨.ref p, rfl, p, rfl, ⟨_, st_of h1⟩, fun D hD => ?_⟩
    refine lc_tup (K := K) (a := p) (xs := ts.map V.ref) (fun i H' => Same H H' ∧ H' D = some (.lst ((List.replicate i true).map V.bl))) ⟨same_new hD, upd_same⟩ (fun i H' _ hp => st_of (hp.1 _ _ h1)) (fun i x H' hx hp => ?_) (fun H' hp => ?_)
    · obtain ⟨sm, hd⟩ := hp
      rw [List.getElem?_map] at hx
      cases ht : ts[i]? with
      | none => rw [ht] at hx; cases hx
      | some t =>
        rw [ht] at hx
        cases hx
        have hi : i < r.length := h2 ▸ (List.getElem?_eq_some_iff.mp ht).1
        have hi8 : i < 8 := by omega
        have hrt := h3 i t r[i] ht (List.getElem?_eq_getElem hi)
        refine ⟨rfl, yesT ?_⟩
        refine ⟨.ref t, rfl, t, _, _, rfl, sm _ _ hrt, ok _ (List.getElem_mem hi), _, hd, ?_, ?_, ?_⟩
        · rw [List.length_map, List.length_replicate]
          exact small1000 (by omega)
        · exact same_upd_new hD sm
        · rw [upd_same, List.replicate_succ', List.map_append]
          rfl
    · obtain ⟨sm, hd⟩ := hp
      refine ⟨D, _, rfl, sq_of hd, ?_⟩
      have e : (List.replicate (ts.map V.ref).length true).all id = true := by simp
      rw [e]
      exact q H' sm
def spChk : Sp := fun vs H Q _ => ∃ (p : Addr) (r : List (Int × Int)), vs = [.ref p] ∧ RowAt H p r ∧ (∀ ec ∈ r, okT ec) ∧ r.length ≤ 8 ∧ ∀ H', Same H H' → Q .non H'
theorem ok_check_row (T : Top K mg) : FnOk P w K mg base CX0 4 T.a_check_row T.fd_check_row ["thing"] spChk := by
  refine T.F_check_row.ok sc_check_row (fun vs H Q E h => ?_) (fun cdv A outer s H vs Q E hr h => ?_)
  · obtain ⟨p, r, rfl, _⟩ := h
    rfl
  · obtain ⟨p, r, rfl, hR, ok, hlen, q⟩ := h
    refine ⟨_, (pss_one (ps_if (pt_not (pt_val (pe_call (ok_is_row T) (hr.mono (by decide)) (by rfl) T.g_is_row T.F_is_row.kp T.b_is_row .nil pass0 (pa_cons (pv 0) pa_nil)))) (pss_one ps_never) pss_nil)), ?_⟩
    exact ⟨.ref p, rfl, p, r, rfl, hR, ok, hlen, fun H' sm => ⟨true, rfl, iteF (q H' sm)⟩⟩

def spNum : Sp := fun vs H Q _ => ∃ n lo hi : Int, vs = [.int n, .int lo, .int hi] ∧ lo ≤ n ∧ n ≤ hi ∧ Q .non H
theorem ok_check_number (T : Top K mg) : FnOk P w K mg base CX0 2 T.a_check_number T.fd_check_number ["thing", "least", "most"] spNum := by
  refine T.F_check_number.ok sc_check_number (fun vs H Q E h => ?_) (fun cdv A outer s H vs Q E hr h => ?_)
  · obtain ⟨n, lo, hi, rfl, _⟩ := h
    rfl
  · obtain ⟨n, lo, hi, rfl, h1, h2, q⟩ := h
    refine ⟨_, (pss_one (ps_if (pt_not (pt_val (pe_call (ok_is_whole T) (hr.mono (by decide)) (by rfl) T.g_is_whole T.F_is_whole.kp T.b_is_whole .nil pass0 (pa_cons (pv 0) (pa_cons (pv 1) (pa_cons (pv 2) pa_nil)))))) (pss_one ps_never) pss_nil)), ?_⟩
    refine ⟨.int n, rfl, .int lo, rfl, .int hi, rfl, n, lo, hi, rfl, ?_⟩
    rw [decide_eq_true h1, decide_eq_true h2]
    exact ⟨true, rfl, iteF q⟩

def spWho : Sp := fun vs H Q _ => ∃ (p : Addr) (r : List (Int × Int)) (n : Int), vs = [.ref p, .int n] ∧ RowAt H p r ∧ (∀ ec ∈ r, okT ec) ∧ r.length ≤ 8 ∧ 1 ≤ n ∧ n ≤ 1000000000000000000 ∧ ∀ H', Same H H' → Q (ofO (whoF r n)) H'
theorem ok_who (T : Top K mg) : FnOk P w K mg base CX0 5 T.a_who T.fd_who ["row", "piece"] spWho := by
  refine T.F_who.ok sc_who (fun vs H Q E h => ?_) (fun cdv A outer s H vs Q E hr h => ?_)
  · obtain ⟨p, r, n, rfl, _⟩ := h
    rfl
  · obtain ⟨p, r, n, rfl, hR, ok, hlen, n1, n2, q⟩ := h
    refine ⟨_, (pss_cons (ps_expr (pe_call (ok_check_row T) (hr.mono (by decide)) (by rfl) T.g_check_row T.F_check_row.kp T.b_check_row .nil pass0 (pa_cons (pv 0) pa_nil)))
      (pss_cons (ps_expr (pe_call (ok_check_number T) (hr.mono (by decide)) (by rfl) T.g_check_number T.F_check_number.kp T.b_check_number .nil pass0 (pa_cons (pv 1) (pa_cons pe_int (pa_cons (pe_glob (v := .int 1000000000000000000) (by rfl) T.g_MOST_PIECES ⟨_, rfl⟩) pa_nil)))))
      (pss_cons (ps_set (i := 2) sc_who.nd rfl (.inl rfl) (pv 1))
      (pss_cons (ps_for PassesOwn.never rfl (pi_enumT (by rfl) T.z_enumerate (pa_cons (pv 0) pa_nil)) (pg_tup (by rfl) (pgs_cons (pg_name (i := 3) sc_who.nd rfl (.inl rfl)) (pgs_cons (pg_tup (by rfl) (pgs_cons (pg_name (i := 4) sc_who.nd rfl (.inl rfl)) (pgs_cons (pg_name (i := 5) sc_who.nd rfl (.inl rfl)) pgs_nil))) pgs_nil)))
        (pss_cons (ps_asg (pe_callB call_divmod (by rfl) T.z_divmod (by decide +kernel) (pa_cons (pe_op op_add (pv 5) (pv 2)) (pa_cons (pv 4) pa_nil))) (pg_tup (by rfl) (pgs_cons (pg_name (i := 6) sc_who.nd rfl (.inl rfl)) (pgs_cons (pg_name (i := 7) sc_who.nd rfl (.inl rfl)) pgs_nil))))
      (pss_cons (ps_if (pt_cmpR op_eq (pv 7) pe_int (nomark _)) (pss_one (ps_ret (pv 3))) pss_nil)
      (pss_one (ps_aug (i := 2) sc_who.nd rfl (.inl rfl) (pv 6) ip_sub)))))
      (pss_one (ps_ret pe_non)))))), ?_⟩
    refine ⟨.ref p, rfl, p, r, rfl, hR, ok, hlen, fun H1 s1 => ?_⟩
    refine ⟨.int n, rfl, n, 1, 1000000000000000000, rfl, n1, n2, ?_⟩
    refine ⟨.int n, rfl, ?_⟩
    obtain ⟨ts, h1, h2, h3⟩ := hR.keep (tupS_of s1)
    refine ⟨.ref p, rfl, p, _, rfl, st_of h1, ?_⟩
    refine for_it (walk_enumT (K := K) (a := p) (xs := ts.map V.ref)) (fun i σ H' => Same H1 H' ∧ reach r n i ∧ ∃ z y3 y4 y5 y6 y7, σ = [some (.ref p), some (.int n), some (.int z), y3, y4, y5, y6, y7] ∧ z = comeF r i n)
      ⟨Same.refl _, fun j _ => Nat.zero_le j, n, none, none, none, none, none, rfl, (come_zero r n).symm⟩ (fun i σ H' _ hp => st_of (hp.1 _ _ h1)) (fun i v σ H2 H3 hi hp hy => ?_) (fun σ H' hp => ?_)
    · obtain ⟨sm, hre, z, y3, y4, y5, y6, y7, rfl, rfl⟩ := hp
      obtain ⟨Tt, x, y, rfl, nT, rfl, ex, ey⟩ := hy
      cases ex
      rw [List.length_map] at hi
      have hir : i < r.length := h2 ▸ hi
      have ht : ts[i]? = some ts[i] := List.getElem?_eq_getElem hi
      have ey2 : y = .ref ts[i] := by
        have ey3 : (ts.map V.ref)[i]? = some y := ey
        rw [List.getElem?_map, ht] at ey3
        exact (Option.some.inj ey3).symm
      subst ey2
      have he := List.getElem?_eq_getElem hir
      obtain ⟨⟨e, c⟩, hec⟩ : ∃ ec, r[i] = ec := ⟨_, rfl⟩
      rw [hec] at he
      have hok : okT (e, c) := hec ▸ ok _ (List.getElem_mem hir)
      have o1 : 2 ≤ e := hok.1
      have o2 : e ≤ 1000 := hok.2.1
      have hrt := h3 i _ _ ht he
      have smT : Same H1 (upd H2 Tt (.tup [.int (i : Nat), .ref ts[i]])) := sm.trans (same_new nT)
      refine ⟨Tt, _, rfl, st_of upd_same, rfl, _, _, rfl, _, _, rfl, ts[i], _, rfl, st_of (smT _ _ hrt), rfl, _, _, rfl, _, _, rfl, rfl, rfl, ?_⟩
      refine ⟨.int c, rfl, .int (comeF r i n), rfl, c, comeF r i n, rfl, rfl, .int e, rfl, _, e, rfl, ⟨by omega, by omega⟩, fun D hD => ?_⟩
      have smD := smT.trans (same_new (o := .tup [.int ((c + comeF r i n) / e), .int ((c + comeF r i n) % e)]) hD)
      refine ⟨D, _, rfl, st_of upd_same, rfl, _, _, rfl, _, _, rfl, rfl, ?_⟩
      have wa := who_at r n i e c he hre
      refine ⟨_, rfl, rfl, _, rfl, ite2 (fun z => ?_) (fun z => ?_)⟩
      · have z1 : (c + comeF r i n) % e = 0 := V.int.inj (of_decide_eq_true z)
        refine ⟨_, rfl, ?_⟩
        have := q _ (s1.trans smD)
        rw [wa.mpr z1] at this
        exact this
      · have z1 : ¬ (c + comeF r i n) % e = 0 := fun z2 => z (decide_eq_true (congrArg V.int z2))
        refine ⟨_, rfl, _, rfl, _, _, rfl, rfl, smD, reach_succ hre (fun z2 => z1 (wa.mp z2)), _, _, _, _, _, _, rfl, (come_succ r n i e c he).symm⟩
    · obtain ⟨sm, hre, z, y3, y4, y5, y6, y7, rfl, rfl⟩ := hp
      have hn : whoF r n = none := by
        cases k : whoF r n with
        | none => rfl
        | some j =>
          have := whoF_lt r n j k
          have := hre j k
          rw [List.length_map] at this
          omega
      have := q _ (s1.trans sm)
      rw [hn] at this
      exact this

def spTaken : Sp := fun vs H Q _ => ∃ (p : Addr) (r : List (Int × Int)) (n : Int), vs = [.ref p, .int n] ∧ RowAt H p r ∧ (∀ ec ∈ r, okT ec) ∧ r.length ≤ 8 ∧ 0 ≤ n ∧ n ≤ 1000000000000000000 ∧
  ∀ H' q, Same H H' → H q = none → H' q = some (.lst ((takenF r n).map V.int)) → Q (.ref q) H'
theorem ok_taken (T : Top K mg) : FnOk P w K mg base CX0 5 T.a_taken T.fd_taken ["row", "number"] spTaken := by
  refine T.F_taken.ok sc_taken (fun vs H Q E h => ?_) (fun cdv A outer s H vs Q E hr h => ?_)
  · obtain ⟨p, r, n, rfl, _⟩ := h
    rfl
  · obtain ⟨p, r, n, rfl, hR, ok, hlen, n1, n2, q⟩ := h
    refine ⟨_, (pss_cons (ps_expr (pe_call (ok_check_row T) (hr.mono (by decide)) (by rfl) T.g_check_row T.F_check_row.kp T.b_check_row .nil pass0 (pa_cons (pv 0) pa_nil)))
      (pss_cons (ps_expr (pe_call (ok_check_number T) (hr.mono (by decide)) (by rfl) T.g_check_number T.F_check_number.kp T.b_check_number .nil pass0 (pa_cons (pv 1) (pa_cons pe_int (pa_cons (pe_glob (v := .int 1000000000000000000) (by rfl) T.g_MOST_PIECES ⟨_, rfl⟩) pa_nil)))))
      (pss_cons (ps_set (i := 2) sc_taken.nd rfl (.inl rfl) (pe_lst pa_nil))
      (pss_cons (ps_set (i := 3) sc_taken.nd rfl (.inl rfl) (pv 1))
      (pss_cons (ps_for PassesOwn.never rfl (pi_tup (pv 0)) (pg_tup (by rfl) (pgs_cons (pg_name (i := 4) sc_taken.nd rfl (.inl rfl)) (pgs_cons (pg_name (i := 5) sc_taken.nd rfl (.inl rfl)) pgs_nil)))
        (pss_cons (ps_set (i := 6) sc_taken.nd rfl (.inl rfl) (pe_op op_fdiv (pe_op op_add (pv 5) (pv 3)) (pv 4)))
      (pss_cons (ps_expr (pe_bm PySem.F.plainAttrs_list PySem.F.slot_list_append PySem.F.type_list_append mt_append (pv 2) (pa_cons (pv 6) pa_nil)))
      (pss_one (ps_aug (i := 3) sc_taken.nd rfl (.inl rfl) (pv 6) ip_sub)))))
      (pss_cons (ps_expr (pe_bm PySem.F.plainAttrs_list PySem.F.slot_list_append PySem.F.type_list_append mt_append (pv 2) (pa_cons (pv 3) pa_nil)))
      (pss_one (ps_ret (pv 2))))))))), ?_⟩
    refine ⟨.ref p, rfl, p, r, rfl, hR, ok, hlen, fun H1 s1 => ?_⟩
    refine ⟨.int n, rfl, n, 0, 1000000000000000000, rfl, n1, n2, ?_⟩
    refine ⟨Nat.zero_le _, fun o no => ?_⟩
    refine ⟨.int n, rfl, ?_⟩
    have noH : H o = none := s1.free no
    have s2 : Same H1 (upd H1 o (.lst [])) := same_new no
    obtain ⟨ts, h1, h2, h3⟩ := hR.keep (tupS_of (s1.trans s2))
    refine ⟨.ref p, rfl, p, rfl, ⟨_, st_of h1⟩, ?_⟩
    refine for_tup (K := K) (a := p) (xs := ts.map V.ref) (fun i σ H' => Same H1 H' ∧ H' o = some (.lst (((takenF r n).take i).map V.int)) ∧ ∃ z y4 y5 y6, σ = [some (.ref p), some (.int n), some (.ref o), some (.int z), y4, y5, y6] ∧ z = comeF r i n)
      ⟨s2, upd_same, n, none, none, none, rfl, (come_zero r n).symm⟩ (fun i σ H' _ hp => st_of (hp.1 _ _ ?_)) (fun i x σ H2 hx hp => ?_) (fun σ H' hp => ?_)
    · obtain ⟨ts', g1, _⟩ := hR.keep (tupS_of s1)
      have := s2 _ _ g1
      rw [h1] at this
      rw [Option.some.inj this]
      exact g1
    · obtain ⟨sm, ho, z, y4, y5, y6, rfl, rfl⟩ := hp
      rw [List.getElem?_map] at hx
      cases ht : ts[i]? with
      | none => rw [ht] at hx; cases hx
      | some t =>
        rw [ht] at hx
        cases hx
        have hir : i < r.length := h2 ▸ (List.getElem?_eq_some_iff.mp ht).1
        have he := List.getElem?_eq_getElem hir
        obtain ⟨⟨e, c⟩, hec⟩ : ∃ ec, r[i] = ec := ⟨_, rfl⟩
        rw [hec] at he
        have hok : okT (e, c) := hec ▸ ok _ (List.getElem_mem hir)
        have o1 : 2 ≤ e := hok.1
        have o2 : e ≤ 1000 := hok.2.1
        have hrt : H2 t = some (.tup [.int e, .int c]) := by
          obtain ⟨ts', g1, g2, g3⟩ := hR.keep (tupS_of (s1.trans sm))
          have e1 := sm _ _ (show H1 p = some (.tup (ts.map V.ref)) by
            obtain ⟨ts', g1, _⟩ := hR.keep (tupS_of s1)
            have := s2 _ _ g1
            rw [h1] at this
            rw [Option.some.inj this]
            exact g1)
          rw [g1] at e1
          have e2 : ts'.map V.ref = ts.map V.ref := HO.tup.inj (Option.some.inj e1)
          have e3 : ts' = ts := (List.map_inj_right (fun a b h => V.ref.inj h)).mp e2
          subst e3
          exact g3 i t _ ht he
        refine ⟨t, _, rfl, st_of hrt, rfl, _, _, rfl, _, _, rfl, rfl, ?_⟩
        refine ⟨.int c, rfl, .int (comeF r i n), rfl, c, _, rfl, rfl, .int e, rfl, _, e, rfl, rfl, ⟨by omega, by omega⟩, ?_⟩
        refine ⟨.ref o, rfl, .inl ⟨rfl, _, sq_of ho⟩, _, rfl, o, _, _, rfl, rfl, ho, ?_, ?_⟩
        · rw [List.length_map, List.length_take]
          exact Nat.lt_of_le_of_lt (Nat.min_le_left _ _) (small1000 (by omega))
        · refine ⟨_, rfl, _, rfl, _, _, rfl, rfl, same_upd_new no sm, ?_, _, _, _, _, rfl, (come_succ r n i e c he).symm⟩
          rw [upd_same, List.take_add_one, taken_get r n i e c he, List.map_append]
          rfl
    · obtain ⟨sm, ho, z, y4, y5, y6, rfl, rfl⟩ := hp
      have hl : (ts.map V.ref).length = r.length := by rw [List.length_map]; exact h2
      rw [hl] at ho ⊢
      refine ⟨.ref o, rfl, .inl ⟨rfl, _, sq_of ho⟩, _, rfl, o, _, _, rfl, rfl, ho, ?_, ?_⟩
      · rw [List.length_map, List.length_take]
        exact Nat.lt_of_le_of_lt (Nat.min_le_left _ _) (small1000 (by omega))
      · refine ⟨.ref o, rfl, q _ o (s1.trans (same_upd_new no sm)) noH ?_⟩
        rw [upd_same]
        have e1 : takenF r n = (takenF r n).take r.length ++ [comeF r r.length n] := by
          have e2 : (takenF r n).take (r.length + 1) = takenF r n := List.take_of_length_le (by rw [len_takenF]; exact Nat.le_refl _)
          rw [List.take_add_one, taken_last] at e2
          exact e2.symm
        conv => rhs; rw [e1, List.map_append]
        rfl

/-! which piece -/
def spChkT (K : PySem.W.Frag) : Sp := fun vs H Q _ => ∃ (p : Addr) (r : List (Int × Int)) (o : Option Nat), vs = [.ref p, ofO o] ∧ RowAt H p r ∧ (∀ j, o = some j → j < r.length) ∧ Q .non H
theorem ok_check_taker (T : Top K mg) : FnOk P w K mg base CX0 2 T.a_check_taker T.fd_check_taker ["row", "thing"] (spChkT K) := by
  refine T.F_check_taker.ok sc_check_taker (fun vs H Q E h => ?_) (fun cdv A outer s H vs Q E hr h => ?_)
  · obtain ⟨p, r, o, rfl, _⟩ := h
    rfl
  · obtain ⟨p, r, o, rfl, hR, ho, q⟩ := h
    obtain ⟨ts, h1, h2, h3⟩ := id hR
    refine ⟨_, (pss_one (ps_if (PW.pt (pw_and (pt_cmpR op_notN (pv 1) pe_non (nomark _)) (pw_and1 (pt_not (pt_val (pe_call (ok_is_whole T) (hr.mono (by decide)) (by rfl) T.g_is_whole T.F_is_whole.kp T.b_is_whole .nil pass0 (pa_cons (pv 1) (pa_cons pe_int (pa_cons (pe_op op_sub (pe_callB call_len_seq (by rfl) T.z_len (by decide +kernel) (pa_cons (pv 0) pa_nil)) pe_int) pa_nil))))))))) (pss_one ps_never) pss_nil)), ?_⟩
    cases o with
    | none => exact ⟨.non, rfl, rfl, false, rfl, iteF (iteF q)⟩
    | some k =>
      have hk := ho k rfl
      refine ⟨.int (k : Nat), rfl, rfl, true, rfl, iteT ?_⟩
      refine ⟨.int (k : Nat), rfl, .ref p, rfl, p, _, rfl, .inr (st_of h1), _, 1, rfl, rfl, (k : Int), 0, _, rfl, ?_⟩
      have e1 : (0 : Int) ≤ (k : Int) := by omega
      have e2 : (k : Int) ≤ ((ts.map V.ref).length : Int) - 1 := by rw [List.length_map]; omega
      rw [decide_eq_true e1, decide_eq_true e2]
      exact ⟨true, rfl, iteF q⟩
def spBehind : Sp := fun vs H Q _ => ∃ (p : Addr) (r : List (Int × Int)) (n : Int), vs = [.ref p, .int n] ∧ RowAt H p r ∧ (∀ ec ∈ r, okT ec) ∧ Q (.int (passF r n)) H
theorem ok_piece_behind (T : Top K mg) : FnOk P w K mg base CX0 1 T.a_piece_behind T.fd_piece_behind ["row", "number"] spBehind := by
  refine T.F_piece_behind.ok sc_piece_behind (fun vs H Q E h => ?_) (fun cdv A outer s H vs Q E hr h => ?_)
  · obtain ⟨p, r, n, rfl, _⟩ := h
    rfl
  · obtain ⟨p, r, n, rfl, hR, ok, q⟩ := h
    obtain ⟨ts, h1, h2, h3⟩ := id hR
    refine ⟨_, (pss_cons (ps_set (i := 2) sc_piece_behind.nd rfl (.inl rfl) (pv 1))
      (pss_cons (ps_for PassesOwn.never rfl (RT.pi_revA (by rfl) T.z_reversed (pv 0)) (pg_tup (by rfl) (pgs_cons (pg_name (i := 3) sc_piece_behind.nd rfl (.inl rfl)) (pgs_cons (pg_name (i := 4) sc_piece_behind.nd rfl (.inl rfl)) pgs_nil)))
        (pss_cons (ps_set (i := 5) sc_piece_behind.nd rfl (.inl rfl) (pe_op op_add (pv 4) (pv 2)))
      (pss_one (ps_aug (i := 2) sc_piece_behind.nd rfl (.inl rfl) (pe_op op_fdiv (pe_op op_sub (pv 5) pe_int) (pe_op op_sub (pv 3) pe_int)) ip_add))))
      (pss_one (ps_ret (pv 2))))), ?_⟩
    refine ⟨.int n, rfl, .ref p, rfl, p, _, rfl, .inr ⟨st_of h1, ?_⟩⟩
    refine RT.for_ItvT (K := K) (a := p) (xs := ts.map V.ref) (fun i σ H' => H' = H ∧ ∃ z y3 y4 y5, σ = [some (.ref p), some (.int n), some (.int z), y3, y4, y5] ∧ z = passF (r.drop (r.length - i)) n)
      ⟨rfl, n, none, none, none, rfl, by rw [Nat.sub_zero, List.drop_length]; rfl⟩ (fun i σ H' hp => by rw [hp.1]; exact st_of h1) (fun i x σ H' hi hx hp => ?_) (fun σ H' hp => ?_)
    · obtain ⟨rfl, z, y3, y4, y5, rfl, rfl⟩ := hp
      rw [List.length_map] at hi hx
      have hj : ts.length - 1 - i < r.length := by omega
      have ht : ts[ts.length - 1 - i]? = some ts[ts.length - 1 - i] := List.getElem?_eq_getElem (by omega)
      rw [List.getElem?_map, ht] at hx
      cases hx
      have he := List.getElem?_eq_getElem hj
      obtain ⟨⟨e, c⟩, hec⟩ : ∃ ec, r[ts.length - 1 - i] = ec := ⟨_, rfl⟩
      rw [hec] at he
      have hok : okT (e, c) := hec ▸ ok _ (List.getElem_mem hj)
      have o1 : 2 ≤ e := hok.1
      have o2 : e ≤ 1000 := hok.2.1
      have hrt := h3 _ _ _ ht he
      refine ⟨_, _, rfl, st_of hrt, rfl, _, _, rfl, _, _, rfl, rfl, ?_⟩
      refine ⟨.int c, rfl, _, rfl, c, _, rfl, rfl, ?_⟩
      refine ⟨_, rfl, _, rfl, _, 1, rfl, rfl, .int e, rfl, e, 1, rfl, rfl, _, e - 1, rfl, rfl, ⟨by show 0 < e - 1; omega, by show e - 1 < 1073741824; omega⟩, _, _, rfl, rfl, rfl, _, _, _, _, rfl, ?_⟩
      have e1 : r.drop (r.length - (i + 1)) = (e, c) :: r.drop (r.length - i) := by
        have : r.length - (i + 1) = ts.length - 1 - i := by omega
        rw [this, List.drop_eq_getElem_cons hj, hec]
        congr 2
        omega
      rw [e1]
      rfl
    · obtain ⟨rfl, z, y3, y4, y5, rfl, rfl⟩ := hp
      rw [List.length_map, h2, Nat.sub_self, List.drop_zero]
      exact ⟨_, rfl, q⟩
theorem row_take {H : Hp} {p q : Addr} {r : List (Int × Int)} {ts : List Addr} {k : Nat} (h1 : H p = some (.tup (ts.map V.ref))) (h2 : ts.length = r.length)
    (h3 : ∀ (i : Nat) (t : Addr) (ec : Int × Int), ts[i]? = some t → r[i]? = some ec → H t = some (.tup [.int ec.1, .int ec.2])) (n : H q = none) :
    RowAt (upd H q (.tup ((ts.map V.ref).take k))) q (r.take k) := by
  refine ⟨ts.take k, by rw [upd_same, List.map_take], by rw [List.length_take, List.length_take, h2], fun i t ec a b => ?_⟩
  have a' : ts[i]? = some t := by
    rw [List.getElem?_take] at a
    split at a
    · exact a
    · cases a
  have b' : r[i]? = some ec := by
    rw [List.getElem?_take] at b
    split at b
    · exact b
    · cases b
  exact same_new n _ _ (h3 i t ec a' b')
def spPiece : Sp := fun vs H Q _ => ∃ (p : Addr) (r : List (Int × Int)) (o : Option Nat) (n : Int), vs = [.ref p, ofO o, .int n] ∧ RowAt H p r ∧ (∀ ec ∈ r, okT ec) ∧ r.length ≤ 8 ∧ (∀ j, o = some j → j < r.length) ∧ 1 ≤ n ∧ n ≤ 1000000000000 ∧ ∀ H', Same H H' → Q (.int (pieceF r o n)) H'
theorem ok_piece_of (T : Top K mg) : FnOk P w K mg base CX0 5 T.a_piece_of T.fd_piece_of ["row", "taker", "number"] spPiece := by
  refine T.F_piece_of.ok sc_piece_of (fun vs H Q E h => ?_) (fun cdv A outer s H vs Q E hr h => ?_)
  · obtain ⟨p, r, o, n, rfl, _⟩ := h
    rfl
  · obtain ⟨p, r, o, n, rfl, hR, ok, hlen, ho, n1, n2, q⟩ := h
    refine ⟨_, (pss_cons (ps_expr (pe_call (ok_check_row T) (hr.mono (by decide)) (by rfl) T.g_check_row T.F_check_row.kp T.b_check_row .nil pass0 (pa_cons (pv 0) pa_nil)))
      (pss_cons (ps_expr (pe_call (ok_check_taker T) (hr.mono (by decide)) (by rfl) T.g_check_taker T.F_check_taker.kp T.b_check_taker .nil pass0 (pa_cons (pv 0) (pa_cons (pv 1) pa_nil))))
      (pss_cons (ps_expr (pe_call (ok_check_number T) (hr.mono (by decide)) (by rfl) T.g_check_number T.F_check_number.kp T.b_check_number .nil pass0 (pa_cons (pv 2) (pa_cons pe_int (pa_cons (pe_glob (v := .int 1000000000000) (by rfl) T.g_MOST_TAKEN ⟨_, rfl⟩) pa_nil)))))
      (pss_cons (ps_if (pt_cmpR op_isN (pv 1) pe_non (nomark _)) (pss_one (ps_ret (pe_call (ok_piece_behind T) (hr.mono (by decide)) (by rfl) T.g_piece_behind T.F_piece_behind.kp T.b_piece_behind .nil pass0 (pa_cons (pv 0) (pa_cons (pv 2) pa_nil))))) pss_nil)
      (pss_cons (ps_asg (pe_ix ix_tup (pv 0) (pv 1) (fun _ _ => rfl)) (pg_tup (by rfl) (pgs_cons (pg_name (i := 3) sc_piece_of.nd rfl (.inl rfl)) (pgs_cons (pg_name (i := 4) sc_piece_of.nd rfl (.inl rfl)) pgs_nil))))
      (pss_one (ps_ret (pe_call (ok_piece_behind T) (hr.mono (by decide)) (by rfl) T.g_piece_behind T.F_piece_behind.kp T.b_piece_behind .nil pass0 (pa_cons (pe_slice sl_tupA (pv 0) po_none (po_some (pv 1))) (pa_cons (pe_op op_sub (pe_op op_mul (pv 2) (pv 3)) (pv 4)) pa_nil)))))))))), ?_⟩
    refine ⟨.ref p, rfl, p, r, rfl, hR, ok, hlen, fun H1 s1 => ?_⟩
    have hR1 := hR.keep (tupS_of s1)
    refine ⟨.ref p, rfl, ofO o, rfl, p, r, o, rfl, hR1, ho, ?_⟩
    refine ⟨.int n, rfl, n, 1, 1000000000000, rfl, n1, n2, ?_⟩
    obtain ⟨ts, h1, h2, h3⟩ := id hR1
    cases o with
    | none => exact ⟨.non, rfl, rfl, true, rfl, iteT ⟨.ref p, rfl, .int n, rfl, p, r, n, rfl, hR1, ok, q _ s1⟩⟩
    | some k =>
      have hk := ho k rfl
      have ht : ts[k]? = some ts[k] := List.getElem?_eq_getElem (by omega)
      have he := List.getElem?_eq_getElem hk
      obtain ⟨⟨e, c⟩, hec⟩ : ∃ ec, r[k] = ec := ⟨_, rfl⟩
      rw [hec] at he
      have hrt := h3 _ _ _ ht he
      refine ⟨.int (k : Nat), rfl, rfl, false, rfl, iteF ?_⟩
      refine ⟨.ref p, rfl, .int (k : Nat), rfl, p, _, (k : Int), .ref ts[k], rfl, rfl, st_of h1, at_of rfl (by rw [List.getElem?_map, ht]; rfl), ?_⟩
      refine ⟨_, _, rfl, st_of hrt, rfl, _, _, rfl, _, _, rfl, rfl, ?_⟩
      refine ⟨.ref p, rfl, .int (k : Nat), rfl, (k : Int), rfl, p, _, rfl, st_of h1, fun z => ?_, fun _ qd nq => ?_⟩
      · have z2 := z.2
        rw [HT.sIx_nat, List.length_map] at z2
        omega
      · have ct : cutV (ts.map V.ref) none (some (k : Int)) = (ts.map V.ref).take k := cut_to rfl (by rw [List.length_map]; omega)
        rw [ct]
        refine ⟨.int n, rfl, .int e, rfl, n, e, rfl, rfl, .inl ⟨by omega, by omega⟩, .int c, rfl, _, c, rfl, rfl, qd, r.take k, _, rfl, row_take h1 h2 h3 nq, take_ok ok k, ?_⟩
        have := q _ (s1.trans (same_new (o := .tup ((ts.map V.ref).take k)) nq))
        have pe : pieceF r (some k) n = passF (r.take k) (n * e - c) := by
          unfold pieceF
          simp only [he]
        rw [pe] at this
        exact this

/-! the law's draws -/
def spCell (K : PySem.W.Frag) : Sp := fun vs H Q _ => ∃ (a : Addr) (ns : List Int) (k : Int), vs = [.ref a, .int k] ∧ SqL K H a (ns.map V.int) ∧ 0 ≤ k ∧ ∀ v : Int, Q (.int v) H
theorem ok__law_cell_at (T : Top K mg) : FnOk P w K mg base CX0 1 T.a__law_cell_at T.fd__law_cell_at ["script", "k"] (spCell K) := by
  refine T.F__law_cell_at.ok sc__law_cell_at (fun vs H Q E h => ?_) (fun cdv A outer s H vs Q E hr h => ?_)
  · obtain ⟨a, ns, k, rfl, _⟩ := h
    rfl
  · obtain ⟨a, ns, k, rfl, hS, k0, q⟩ := h
    refine ⟨_, (pss_cons (ps_if (pt_cmpR op_lt (pv 1) (pe_callB call_len_seq (by rfl) T.z_len (by decide +kernel) (pa_cons (pv 0) pa_nil)) (nomark _)) (pss_one (ps_ret (pe_ix ix_list (pv 0) (pv 1) (fun _ _ => rfl)))) pss_nil)
      (pss_one (ps_ret pe_int))), ?_⟩
    refine ⟨.int k, rfl, .ref a, rfl, a, _, rfl, .inl hS, k, _, rfl, rfl, _, rfl, ite2 (fun e => ?_) (fun e => ?_)⟩
    · have e1 : k < ((ns.map V.int).length : Int) := of_decide_eq_true e
      rw [List.length_map] at e1
      have e2 : k.toNat < ns.length := by omega
      exact ⟨.ref a, rfl, .int k, rfl, a, _, k, .int ns[k.toNat], rfl, rfl, hS, at_of (j := k.toNat) (by omega) (by rw [List.getElem?_map, List.getElem?_eq_getElem e2]; rfl), q _⟩
    · exact q 0
def spDraws : Sp := fun vs H Q _ => ∃ cell : Int, vs = [.int cell, .int 400, .int 1000] ∧
  ∀ H' p (ds : List Int), Same H H' → H p = none → H' p = some (.lst (ds.map V.int)) → ds.length = 400 → (∀ x ∈ ds, 0 ≤ x ∧ x < 1000) → Q (.ref p) H'
theorem grow {ds : List Int} {v : Int} (h : ∀ x ∈ ds, 0 ≤ x ∧ x < 1000) (h0 : 0 ≤ v) (h1 : v < 1000) : ∀ x ∈ ds ++ [v], 0 ≤ x ∧ x < 1000 := fun x hx => by
  rcases List.mem_append.mp hx with z | z
  · exact h x z
  · rw [List.mem_singleton.mp z]
    exact ⟨h0, h1⟩
theorem ok__law_draws (T : Top K mg) : FnOk P w K mg base CX0 1 T.a__law_draws T.fd__law_draws ["cell", "many", "size"] spDraws := by
  refine T.F__law_draws.ok sc__law_draws (fun vs H Q E h => ?_) (fun cdv A outer s H vs Q E hr h => ?_)
  · obtain ⟨cell, rfl, _⟩ := h
    rfl
  · obtain ⟨cell, rfl, q⟩ := h
    refine ⟨_, (pss_cons (ps_set (i := 3) sc__law_draws.nd rfl (.inl rfl) (pe_lst pa_nil))
      (pss_cons (ps_set (i := 4) sc__law_draws.nd rfl (.inl rfl) (pe_op op_mul (pv 0) (pe_callTy call_int1 (by rfl) T.z_int (by decide +kernel) (pa_cons (pe_cmpR op_ge (pv 0) (pe_op op_pow pe_int pe_int) (nomark _)) pa_nil))))
      (pss_cons (ps_set (i := 5) sc__law_draws.nd rfl (.inl rfl) (pe_op op_mod (pv 0) pe_int))
      (pss_cons (ps_for PassesOwn.never rfl (pi_range1 (by rfl) T.z_range (pa_cons (pe_op op_add (pv 1) pe_int) pa_nil)) (pg_name (i := 6) sc__law_draws.nd rfl (.inl rfl))
        (pss_cons (ps_set (i := 5) sc__law_draws.nd rfl (.inl rfl) (pe_op op_mod (pe_op op_add (pe_op op_add (pe_op op_add (pe_op op_mul (pv 5) (pv 5)) (pe_op op_mul pe_int (pv 5))) (pv 6)) pe_int) pe_int))
      (pss_one (ps_if (PW.pt (pw_and (pt_cmpR op_gt (pv 6) pe_int (nomark _)) (pw_and1 (pt_cmpR op_gt (pv 4) pe_int (nomark _))))) (pss_cons (ps_expr (pe_bm PySem.F.plainAttrs_list PySem.F.slot_list_append PySem.F.type_list_append mt_append (pv 3) (pa_cons (pe_op op_mod (pv 4) (pv 2)) pa_nil)))
      (pss_one (ps_set (i := 4) sc__law_draws.nd rfl (.inl rfl) (pe_op op_fdiv (pv 4) (pv 2))))) (pss_one (ps_if (pt_cmpR op_gt (pv 6) pe_int (nomark _)) (pss_one (ps_expr (pe_bm PySem.F.plainAttrs_list PySem.F.slot_list_append PySem.F.type_list_append mt_append (pv 3) (pa_cons (pe_op op_mod (pe_op op_fdiv (pv 5) pe_int) (pv 2)) pa_nil)))) pss_nil))))))
      (pss_one (ps_ret (pv 3))))))), ?_⟩
    refine ⟨Nat.zero_le _, fun o no => ?_⟩
    refine ⟨.int cell, rfl, .int cell, rfl, 10, 18, rfl, rfl, ⟨by decide, by decide, by decide⟩, cell, _, rfl, rfl, .inr ⟨_, rfl, cell, _, rfl, rfl, .inr ?_, ?_⟩⟩
    · split <;> exact ⟨by decide, by decide⟩
    refine ⟨.int cell, rfl, cell, 2305843009213693951, rfl, rfl, (by decide : (0 : Int) < 2305843009213693951), ?_⟩
    refine ⟨.int 400, rfl, 400, 3, rfl, rfl, _, rfl, by decide, by decide, ?_⟩
    refine for_range (lo := 0) (n := 403) (fun i σ H' => Same H H' ∧ ∃ (rest st : Int) (y : Option V) (ds : List Int), σ = [some (.int cell), some (.int 400), some (.int 1000), some (.ref o), some (.int rest), some (.int st), y] ∧ 0 ≤ st ∧ st < 2305843009213693951 ∧ H' o = some (.lst (ds.map V.int)) ∧ ds.length = i - 3 ∧ ∀ x ∈ ds, 0 ≤ x ∧ x < 1000)
      ⟨same_new no, _, _, none, [], rfl, Int.emod_nonneg _ (by decide), Int.emod_lt_of_pos _ (by decide), upd_same, rfl, fun x hx => nomatch hx⟩ (fun i σ H' hi hp => ?_) (fun σ H' hp => ?_)
    · obtain ⟨sm, rest, st, y, ds, rfl, s0, s1, ho, hl, hb⟩ := hp
      refine ⟨.int st, rfl, .int st, rfl, st, st, rfl, rfl, .inl ⟨by omega, by omega⟩, .int st, rfl, 48271, st, rfl, rfl, .inl ⟨by decide, by decide⟩, _, _, rfl, rfl, .int (0 + (i : Int)), rfl, _, _, rfl, rfl, _, _, rfl, rfl, _, 2305843009213693951, rfl, rfl, (by decide : (0 : Int) < 2305843009213693951), ?_⟩
      have nn : ∀ z : Int, 0 ≤ z % 2305843009213693951 ∧ z % 2305843009213693951 < 2305843009213693951 := fun z => ⟨Int.emod_nonneg _ (by decide), Int.emod_lt_of_pos _ (by decide)⟩
      have nk : ∀ z : Int, 0 ≤ z % 1000 ∧ z % 1000 < 1000 := fun z => ⟨Int.emod_nonneg _ (by decide), Int.emod_lt_of_pos _ (by decide)⟩
      have sz : (ds.map V.int).length < sizeLine := by
        rw [List.length_map, hl]
        exact small1000 (by omega)
      refine ⟨.int (0 + (i : Int)), rfl, _, 2, rfl, rfl, _, rfl, ite2 (fun e => ?_) (fun e => ?_)⟩
      · have e1 : (2 : Int) < 0 + (i : Int) := of_decide_eq_true e
        refine ⟨.int rest, rfl, rest, 0, rfl, rfl, _, rfl, ite2 (fun e2 => ?_) (fun e2 => ?_)⟩
        · refine ⟨.ref o, rfl, .inl ⟨rfl, _, sq_of ho⟩, .int rest, rfl, .int 1000, rfl, rest, 1000, rfl, rfl, (by decide : (0 : Int) < 1000), o, _, _, rfl, rfl, ho, sz, ?_⟩
          refine ⟨.int rest, rfl, .int 1000, rfl, rest, 1000, rfl, rfl, ⟨by decide, by decide⟩, same_upd_new no sm, _, _, _, ds ++ [rest % 1000], rfl, (nn _).1, (nn _).2, ?_, ?_, grow hb (nk _).1 (nk _).2⟩
          · rw [upd_same, List.map_append]
            rfl
          · rw [List.length_append, hl]
            show i - 3 + 1 = i + 1 - 3
            omega
        · refine ⟨.int (0 + (i : Int)), rfl, _, 2, rfl, rfl, _, rfl, ?_⟩
          rw [e]
          refine iteT ⟨.ref o, rfl, .inl ⟨rfl, _, sq_of ho⟩, _, rfl, _, 4096, rfl, rfl, ⟨by decide, by decide⟩, .int 1000, rfl, _, 1000, rfl, rfl, (by decide : (0 : Int) < 1000), o, _, _, rfl, rfl, ho, sz, ?_⟩
          refine ⟨same_upd_new no sm, rest, _, _, ds ++ [(st * st + 48271 * st + (0 + (i : Int)) + 1) % 2305843009213693951 / 4096 % 1000], rfl, (nn _).1, (nn _).2, ?_, ?_, grow hb (nk _).1 (nk _).2⟩
          · rw [upd_same, List.map_append]
            rfl
          · rw [List.length_append, hl]
            show i - 3 + 1 = i + 1 - 3
            omega
      · refine iteF ?_
        refine ⟨.int (0 + (i : Int)), rfl, _, 2, rfl, rfl, _, rfl, ?_⟩
        have e0 : ¬ (2 : Int) < 0 + (i : Int) := fun z => e (decide_eq_true z)
        rw [show decide ((2 : Int) < 0 + (i : Int)) = false from decide_eq_false e0]
        exact iteF ⟨sm, rest, _, _, ds, rfl, (nn _).1, (nn _).2, ho, by omega, hb⟩
    · obtain ⟨sm, rest, st, y, ds, rfl, s0, s1, ho, hl, hb⟩ := hp
      exact ⟨.ref o, rfl, q H' o ds sm no ho hl hb⟩
def spBag (K : PySem.W.Frag) : Sp := fun vs H Q _ => ∃ (a : Addr) (ns : List Int) (k : Int), vs = [.ref a, .int k] ∧ SqL K H a (ns.map V.int) ∧ 0 ≤ k ∧ ∀ H' b, Same H H' → H b = none → Bag H' b → Q (.ref b) H'
theorem ok__law_bag (T : Top K mg) : FnOk P w K mg base CX0 2 T.a__law_bag T.fd__law_bag ["script", "k"] (spBag K) := by
  refine T.F__law_bag.ok sc__law_bag (fun vs H Q E h => ?_) (fun cdv A outer s H vs Q E hr h => ?_)
  · obtain ⟨a, ns, k, rfl, _⟩ := h
    rfl
  · obtain ⟨a, ns, k, rfl, hS, k0, q⟩ := h
    refine ⟨_, (pss_one (ps_ret (pe_lst (pa_cons (pe_call (ok__law_draws T) (hr.mono (by decide)) (by rfl) T.g__law_draws T.F__law_draws.kp T.b__law_draws .nil pass0 (pa_cons (pe_call (ok__law_cell_at T) (hr.mono (by decide)) (by rfl) T.g__law_cell_at T.F__law_cell_at.kp T.b__law_cell_at .nil pass0 (pa_cons (pv 0) (pa_cons (pv 1) pa_nil))) (pa_cons pe_int (pa_cons pe_int pa_nil)))) (pa_cons pe_int pa_nil))))), ?_⟩
    refine ⟨.ref a, rfl, .int k, rfl, a, ns, k, rfl, hS, k0, fun v => ⟨v, rfl, fun H1 d ds s1 nd hd hl hb => ⟨by show 2 ≤ sizeLine; decide, fun b nb => q _ b (s1.trans (same_new nb)) (s1.free nb) ?_⟩⟩⟩
    exact ⟨d, ds, 0, upd_same, by rw [upd_ne (ne_of_none hd nb)]; exact hd, hl, hb, Int.le_refl 0⟩
def spBags (K : PySem.W.Frag) : Sp := fun vs H Q _ => ∃ (a : Addr) (ns : List Int) (lim : Int), vs = [.ref a, .int lim] ∧ SqL K H a (ns.map V.int) ∧ 1 ≤ lim ∧ lim ≤ 63 ∧
  ∀ H' p (bs : List Addr), Same H H' → H p = none → H' p = some (.lst (bs.map V.ref)) → (∀ b ∈ bs, Bag H' b) → Q (.ref p) H'
theorem ok__law_bags (T : Top K mg) : FnOk P w K mg base CX0 3 T.a__law_bags T.fd__law_bags ["script", "limit"] (spBags K) := by
  refine T.F__law_bags.ok sc__law_bags (fun vs H Q E h => ?_) (fun cdv A outer s H vs Q E hr h => ?_)
  · obtain ⟨a, ns, lim, rfl, _⟩ := h
    rfl
  · obtain ⟨a, ns, lim, rfl, hS, l1, l2, q⟩ := h
    refine ⟨_, (pss_one (ps_ret (pe_lc (own := [("k", 2)]) (by rfl) sc__law_bags.nd (pi_range1 (by rfl) T.z_range (pa_cons (pe_callB (call_max2 rfl) (by rfl) T.z_max (by decide +kernel) (pa_cons pe_int (pa_cons (pe_callB (call_min2 rfl) (by rfl) T.z_min (by decide +kernel) (pa_cons (pv 1) (pa_cons (pe_callB call_len_seq (by rfl) T.z_len (by decide +kernel) (pa_cons (pv 0) pa_nil)) pa_nil))) pa_nil))) pa_nil))
        (blkOk_by (own := [("k", 2)]) (N := ["script", "limit", "k"]) (sc := defScope s__law_bags) (by decide +kernel))
        (fun _ _ _ _ _ => (pg_name (i := 2) sc__law_bags.nd rfl (.inl rfl))) (fun _ _ _ _ _ => pts_nil) (fun _ _ _ _ _ => (pe_call (ok__law_bag T) (hr.mono (by decide)) (by rfl) T.g__law_bag T.F__law_bag.kp T.b__law_bag .nil pass0 (pa_cons (pv 0) (pa_cons (pv 2) pa_nil))))))), ?_⟩
    obtain ⟨m, hm⟩ : ∃ m : Int, m = if (if ((ns.map V.int).length : Int) < lim then ((ns.map V.int).length : Int) else lim) > 1 then (if ((ns.map V.int).length : Int) < lim then ((ns.map V.int).length : Int) else lim) else 1 := ⟨_, rfl⟩
    have m1 : 1 ≤ m := by rw [hm]; split <;> omega
    have m2 : m ≤ 63 := by rw [hm]; split <;> (try split) <;> omega
    refine ⟨.int lim, rfl, .ref a, rfl, a, _, rfl, .inl hS, lim, _, rfl, 1, _, rfl, m, congrArg (fun z => [V.int z]) hm.symm, by omega, by omega, fun D hD => ?_⟩
    refine lc_range (lo := 0) (n := m.toNat) (fun i H' => Same H H' ∧ ∃ bs : List Addr, H' D = some (.lst (bs.map V.ref)) ∧ bs.length = i ∧ ∀ b ∈ bs, Bag H' b)
      ⟨same_new hD, [], upd_same, rfl, fun b hb => nomatch hb⟩ (fun i H' hi hp => ?_) (fun H' hp => ?_)
    · obtain ⟨sm, bs, h1, h2, h3⟩ := hp
      refine ⟨rfl, yesT ?_⟩
      refine ⟨.ref a, rfl, .int (0 + (i : Int)), rfl, a, ns, _, rfl, sm.seq hS, by omega, fun H4 b s4 nb hb => ⟨_, s4 _ _ h1, ?_, same_upd_new hD (sm.trans s4), bs ++ [b], ?_, ?_, fun b' hb' => ?_⟩⟩
      · rw [List.length_map, h2]
        exact small1000 (by omega)
      · rw [upd_same, List.map_append]
        rfl
      · rw [List.length_append, h2]
        rfl
      · have k4 : Bag H4 b' := by
          rcases List.mem_append.mp hb' with z | z
          · exact (h3 b' z).same s4
          · rw [List.mem_singleton.mp z]
            exact hb
        exact k4.upd_refs (s4 _ _ h1)
    · obtain ⟨sm, bs, h1, h2, h3⟩ := hp
      exact q H' D bs sm hD h1 h3
def spTake : Sp := fun vs H Q _ => ∃ (b : Addr) (m : Int), vs = [.ref b, .int m] ∧ Bag H b ∧ 0 < m ∧ ∀ H' (r : Int), Kb b H H' → Bag H' b → 0 ≤ r → r < m → Q (.int r) H'
theorem ok__law_take (T : Top K mg) : FnOk P w K mg base CX0 1 T.a__law_take T.fd__law_take ["bag", "many"] spTake := by
  refine T.F__law_take.ok sc__law_take (fun vs H Q E h => ?_) (fun cdv A outer s H vs Q E hr h => ?_)
  · obtain ⟨b, m, rfl, _⟩ := h
    rfl
  · obtain ⟨b, m, rfl, hB, m0, q⟩ := h
    obtain ⟨d, ds, c, h1, h2, h3, h4, h5⟩ := id hB
    refine ⟨_, (pss_cons (ps_asg (pe_op op_add (pe_ix ix_list (pv 0) pe_int (fun _ _ => rfl)) pe_int) (pg_sub (pv 0) pe_int set_list))
      (pss_one (ps_ret (pe_op op_mod (pe_ix ix_list (pe_ix ix_list (pv 0) pe_int (fun _ _ => rfl)) (pe_op op_mod (pe_ix ix_list (pv 0) pe_int (fun _ _ => rfl)) (pe_callB call_len_seq (by rfl) T.z_len (by decide +kernel) (pa_cons (pe_ix ix_list (pv 0) pe_int (fun _ _ => rfl)) pa_nil))) (fun _ _ => rfl)) (pv 1))))), ?_⟩
    refine ⟨.ref b, rfl, b, _, 1, .int c, rfl, rfl, sq_of h1, rfl, c, 1, rfl, rfl, .ref b, rfl, b, _, 1, 1, rfl, rfl, h1, rfl, ?_⟩
    have ndb : d ≠ b := ne_of h2 h1 (by
      intro z
      have z2 := congrArg List.length (HO.lst.inj z)
      rw [List.length_map, h3] at z2
      simp at z2)
    have g1 : (upd H b (.lst [.ref d, .int (c + 1)])) b = some (.lst [.ref d, .int (c + 1)]) := upd_same
    have g2 : (upd H b (.lst [.ref d, .int (c + 1)])) d = some (.lst (ds.map V.int)) := by rw [upd_ne ndb]; exact h2
    have j0 : 0 ≤ (c + 1) % 400 := Int.emod_nonneg _ (by decide)
    have j1 : (c + 1) % 400 < 400 := Int.emod_lt_of_pos _ (by decide)
    have jl : ((c + 1) % 400).toNat < ds.length := by omega
    have ll : ((ds.map V.int).length : Int) = 400 := by rw [List.length_map, h3]; rfl
    refine ⟨.ref b, rfl, b, _, 0, .ref d, rfl, rfl, sq_of g1, rfl, .ref b, rfl, b, _, 1, .int (c + 1), rfl, rfl, sq_of g1, rfl, .ref b, rfl, b, _, 0, .ref d, rfl, rfl, sq_of g1, rfl, d, _, rfl, .inl (sq_of g2), c + 1, 400, rfl, congrArg V.int ll, (by decide : (0 : Int) < 400),
      d, _, (c + 1) % 400, .int ds[((c + 1) % 400).toNat], rfl, rfl, sq_of g2, at_of (j := ((c + 1) % 400).toNat) (by omega) (by rw [List.getElem?_map, List.getElem?_eq_getElem jl]; rfl), .int m, rfl, _, m, rfl, rfl, m0, ?_⟩
    exact q _ _ (fun a o na ha => by rw [upd_ne na]; exact ha) ⟨d, ds, c + 1, g1, g2, h3, h4, by omega⟩ (Int.emod_nonneg _ (by omega)) (Int.emod_lt_of_pos _ m0)

/-! drawn rows -/
def spTk : Sp := fun vs H Q _ => ∃ (b : Addr) (far : Int), vs = [.ref b, .int far] ∧ Bag H b ∧ 2 ≤ far ∧ far ≤ 1000 ∧
  ∀ H' t (e c : Int), Kb b H H' → Bag H' b → H t = none → H' t = some (.tup [.int e, .int c]) → okT (e, c) → e ≤ far → Q (.ref t) H'
theorem at2 {a b : V} {i : Int} (h0 : 0 ≤ i) (h1 : i < 2) : atI [a, b] i = some (if i = 0 then a else b) := by
  have : i = 0 ∨ i = 1 := by omega
  rcases this with rfl | rfl <;> rfl
theorem at3 {a b c : V} {i : Int} (h0 : 0 ≤ i) (h1 : i < 3) : atI [a, b, c] i = some (if i = 0 then a else if i = 1 then b else c) := by
  have : i = 0 ∨ i = 1 ∨ i = 2 := by omega
  rcases this with rfl | rfl | rfl <;> rfl
theorem keepL {b L : Addr} {H H' : Hp} {xs : List V} (h : H L = some (.lst xs)) (hb : Bag H b) (k : Kb b H H') (hx : ∀ d, xs[0]? ≠ some (.ref d)) : H' L = some (.lst xs) :=
  k _ _ (ne_bag h hb hx) h
theorem ok__law_taker (T : Top K mg) : FnOk P w K mg base CX0 2 T.a__law_taker T.fd__law_taker ["bag", "far"] spTk := by
  refine T.F__law_taker.ok sc__law_taker (fun vs H Q E h => ?_) (fun cdv A outer s H vs Q E hr h => ?_)
  · obtain ⟨b, far, rfl, _⟩ := h
    rfl
  · obtain ⟨b, far, rfl, hB, f1, f2, q⟩ := h
    refine ⟨_, (pss_cons (ps_set (i := 2) sc__law_taker.nd rfl (.inl rfl) (pe_op op_add pe_int (pe_ix ix_list (pe_lst (pa_cons (pe_call (ok__law_take T) (hr.mono (by decide)) (by rfl) T.g__law_take T.F__law_take.kp T.b__law_take .nil pass0 (pa_cons (pv 0) (pa_cons (pe_callB (call_min2 rfl) (by rfl) T.z_min (by decide +kernel) (pa_cons pe_int (pa_cons (pe_op op_sub (pv 1) pe_int) pa_nil))) pa_nil))) (pa_cons (pe_call (ok__law_take T) (hr.mono (by decide)) (by rfl) T.g__law_take T.F__law_take.kp T.b__law_take .nil pass0 (pa_cons (pv 0) (pa_cons (pe_op op_sub (pv 1) pe_int) pa_nil))) pa_nil))) (pe_call (ok__law_take T) (hr.mono (by decide)) (by rfl) T.g__law_take T.F__law_take.kp T.b__law_take .nil pass0 (pa_cons (pv 0) (pa_cons pe_int pa_nil))) (fun _ _ => rfl))))
      (pss_one (ps_ret (pe_tup (pa_cons (pv 2) (pa_cons (pe_ix ix_list (pe_lst (pa_cons pe_int (pa_cons (pe_call (ok__law_take T) (hr.mono (by decide)) (by rfl) T.g__law_take T.F__law_take.kp T.b__law_take .nil pass0 (pa_cons (pv 0) (pa_cons (pv 2) pa_nil))) (pa_cons (pe_op op_sub (pv 2) pe_int) pa_nil)))) (pe_call (ok__law_take T) (hr.mono (by decide)) (by rfl) T.g__law_take T.F__law_take.kp T.b__law_take .nil pass0 (pa_cons (pv 0) (pa_cons pe_int pa_nil))) (fun _ _ => rfl)) pa_nil)))))), ?_⟩
    obtain ⟨mi, hmi⟩ : ∃ mi : Int, mi = if far - 1 < 4 then far - 1 else 4 := ⟨_, rfl⟩
    have mi1 : 0 < mi := by rw [hmi]; split <;> omega
    have mi2 : mi ≤ far - 1 := by rw [hmi]; split <;> omega
    refine ⟨.ref b, rfl, .int far, rfl, far, 1, rfl, rfl, 4, far - 1, rfl, b, mi, by rw [hmi]; rfl, hB, mi1, fun H1 r1 k1 B1 lo1 hi1 => ?_⟩
    refine ⟨.ref b, rfl, .int far, rfl, far, 1, rfl, rfl, b, far - 1, rfl, B1, by omega, fun H2 r2 k2 B2 lo2 hi2 => ?_⟩
    refine ⟨by show 2 ≤ sizeLine; decide, fun L nL => ?_⟩
    have B2' : Bag (upd H2 L (.lst [.int r1, .int r2])) b := B2.same (same_new nL)
    refine ⟨.ref b, rfl, b, 2, rfl, B2', by decide, fun H3 r3 k3 B3 lo3 hi3 => ?_⟩
    have hL : H3 L = some (.lst [.int r1, .int r2]) := keepL upd_same B2' k3 (by intro d z; cases z)
    obtain ⟨v, hv⟩ : ∃ v : Int, (if r3 = 0 then V.int r1 else V.int r2) = .int v ∧ 0 ≤ v ∧ v < far - 1 := by
      split
      · exact ⟨r1, rfl, lo1, by omega⟩
      · exact ⟨r2, rfl, lo2, hi2⟩
    obtain ⟨hv, v0, v1⟩ := hv
    refine ⟨L, _, r3, .int v, rfl, rfl, sq_of hL, by rw [at2 lo3 hi3, hv], 2, v, rfl, rfl, ?_⟩
    have kH3 : Kb b H H3 := (k1.trans k2).trans ((Kb.of (same_new nL)).trans k3)
    refine ⟨.int (2 + v), rfl, .ref b, rfl, .int (2 + v), rfl, b, 2 + v, rfl, B3, by omega, fun H4 r4 k4 B4 lo4 hi4 => ?_⟩
    refine ⟨.int (2 + v), rfl, 2 + v, 1, rfl, rfl, by show 3 ≤ sizeLine; decide, fun M nM => ?_⟩
    have B4' : Bag (upd H4 M (.lst [.int 0, .int r4, .int (2 + v - 1)])) b := B4.same (same_new nM)
    refine ⟨.ref b, rfl, b, 3, rfl, B4', by decide, fun H5 r5 k5 B5 lo5 hi5 => ?_⟩
    have hM : H5 M = some (.lst [.int 0, .int r4, .int (2 + v - 1)]) := keepL upd_same B4' k5 (by intro d z; cases z)
    obtain ⟨c, hc, c0, c1⟩ : ∃ c : Int, (if r5 = 0 then V.int 0 else if r5 = 1 then V.int r4 else V.int (2 + v - 1)) = .int c ∧ 0 ≤ c ∧ c ≤ 2 + v - 1 := by
      split
      · exact ⟨0, rfl, by omega, by omega⟩
      · split
        · exact ⟨r4, rfl, lo4, by omega⟩
        · exact ⟨2 + v - 1, rfl, by omega, by omega⟩
    refine ⟨M, _, r5, .int c, rfl, rfl, sq_of hM, by rw [at3 lo5 hi5, hc], by show 2 ≤ sizeLine; decide, fun t nt => ?_⟩
    have kH5 : Kb b H H5 := kH3.trans (k4.trans ((Kb.of (same_new nM)).trans k5))
    exact q _ t (2 + v) c (kH5.trans (Kb.of (same_new nt))) (B5.same (same_new nt)) (kH5.free B5 nt) upd_same ⟨by show 2 ≤ 2 + v; omega, by show 2 + v ≤ 1000; omega, c0, c1⟩ (by omega)
def spDrawn : Sp := fun vs H Q _ => ∃ (b : Addr) (tk far : Int), vs = [.ref b, .int tk, .int far] ∧ Bag H b ∧ 0 ≤ tk ∧ tk ≤ 8 ∧ 2 ≤ far ∧ far ≤ 1000 ∧
  ∀ H' p (r : List (Int × Int)), Kb b H H' → Bag H' b → RowAt H' p r → (∀ ec ∈ r, okT ec) → (∀ ec ∈ r, ec.1 ≤ far) → (r.length : Int) ≤ tk → Q (.ref p) H'
theorem ok__law_drawn_row (T : Top K mg) : FnOk P w K mg base CX0 3 T.a__law_drawn_row T.fd__law_drawn_row ["bag", "takers", "far"] spDrawn := by
  refine T.F__law_drawn_row.ok sc__law_drawn_row (fun vs H Q E h => ?_) (fun cdv A outer s H vs Q E hr h => ?_)
  · obtain ⟨b, tk, far, rfl, _⟩ := h
    rfl
  · obtain ⟨b, tk, far, rfl, hB, t1, t2, f1, f2, q⟩ := h
    refine ⟨_, (pss_one (ps_ret (pe_callTy call_tuple_of (by rfl) T.z_tuple (by decide +kernel) (pa_cons (pe_lc (own := [("turn", 3)]) (by rfl) sc__law_drawn_row.nd (pi_range1 (by rfl) T.z_range (pa_cons (pe_call (ok__law_take T) (hr.mono (by decide)) (by rfl) T.g__law_take T.F__law_take.kp T.b__law_take .nil pass0 (pa_cons (pv 0) (pa_cons (pe_op op_add (pv 1) pe_int) pa_nil))) pa_nil))
        (blkOk_by (own := [("turn", 3)]) (N := ["bag", "takers", "far", "turn"]) (sc := defScope s__law_drawn_row) (by decide +kernel))
        (fun _ _ _ _ _ => (pg_name (i := 3) sc__law_drawn_row.nd rfl (.inl rfl))) (fun _ _ _ _ _ => pts_nil) (fun _ _ _ _ _ => (pe_call (ok__law_taker T) (hr.mono (by decide)) (by rfl) T.g__law_taker T.F__law_taker.kp T.b__law_taker .nil pass0 (pa_cons (pv 0) (pa_cons (pv 2) pa_nil))))) pa_nil)))), ?_⟩
    refine ⟨.ref b, rfl, .int tk, rfl, tk, 1, rfl, rfl, b, tk + 1, rfl, hB, by omega, fun H1 m k1 B1 lo1 hi1 => ?_⟩
    refine ⟨m, rfl, by omega, by omega, fun D hD => ?_⟩
    refine lc_range (lo := 0) (n := m.toNat) (fun i H' => Kb b H H' ∧ Bag H' b ∧ (∀ a o, a ≠ b → H1 a = some o → H' a = some o) ∧ ∃ (ts : List Addr) (r : List (Int × Int)), H' D = some (.lst (ts.map V.ref)) ∧ ts.length = i ∧ r.length = i ∧ (∀ ec ∈ r, okT ec) ∧ (∀ ec ∈ r, ec.1 ≤ far) ∧
        ∀ (j : Nat) (t : Addr) (ec : Int × Int), ts[j]? = some t → r[j]? = some ec → H' t = some (.tup [.int ec.1, .int ec.2]))
      ⟨k1.trans (Kb.of (same_new hD)), B1.same (same_new hD), fun a o _ h => same_new hD a o h, [], [], upd_same, rfl, rfl, (fun ec h => nomatch h), (fun ec h => nomatch h), fun j t ec h => nomatch h⟩ (fun i H' hi hp => ?_) (fun H' hp => ?_)
    · obtain ⟨kk, BB, kd, ts, r, g1, g2, g3, g4, g5, g6⟩ := hp
      refine ⟨rfl, yesT ?_⟩
      refine ⟨.ref b, rfl, .int far, rfl, b, far, rfl, BB, f1, f2, fun H4 t e c k4 B4 nt ht okt hle => ?_⟩
      have nDb : D ≠ b := fun z => by
        obtain ⟨d, ds, c', z1, _⟩ := B1
        rw [z, z1] at hD
        cases hD
      have gD : H4 D = some (.lst (ts.map V.ref)) := k4 _ _ nDb g1
      refine ⟨_, gD, ?_, ?_, B4.upd_refs gD, ?_, ts ++ [t], r ++ [(e, c)], ?_, ?_, ?_, ?_, ?_, ?_⟩
      · rw [List.length_map, g2]
        exact small1000 (by omega)
      · intro a o na ha
        rw [upd_ne (ne_of_none ha (k1.free B1 hD))]
        exact (kk.trans k4) a o na ha
      · intro a o na ha
        rw [upd_ne (ne_of_none ha hD)]
        exact k4 _ _ na (kd _ _ na ha)
      · rw [upd_same, List.map_append]
        rfl
      · rw [List.length_append, g2]
        rfl
      · rw [List.length_append, g3]
        rfl
      · intro ec hm
        rcases List.mem_append.mp hm with z | z
        · exact g4 _ z
        · rw [List.mem_singleton.mp z]
          exact okt
      · intro ec hm
        rcases List.mem_append.mp hm with z | z
        · exact g5 _ z
        · rw [List.mem_singleton.mp z]
          exact hle
      · intro j t' ec a1 a2
        have h4 : H4 t' = some (.tup [.int ec.1, .int ec.2]) := by
          by_cases hj : j < i
          · rw [List.getElem?_append_left (by omega)] at a1 a2
            exact (k4.tup BB) _ _ (g6 j t' ec a1 a2)
          · have hji : j = i := by
              have := (List.getElem?_eq_some_iff.mp a1).1
              rw [List.length_append, g2] at this
              simp at this
              omega
            subst hji
            rw [List.getElem?_append_right (by omega), g2, Nat.sub_self] at a1
            rw [List.getElem?_append_right (by omega), g3, Nat.sub_self] at a2
            cases a1
            cases a2
            exact ht
        rw [upd_ne (ne_of h4 gD (by intro z; cases z))]
        exact h4
    · obtain ⟨kk, BB, kd, ts, r, g1, g2, g3, g4, g5, g6⟩ := hp
      refine ⟨D, _, rfl, .inl ⟨sq_of g1, fun l nl => ?_⟩⟩
      have sl := same_new (o := .tup (ts.map V.ref)) nl
      refine q _ l r (kk.trans (Kb.of sl)) (BB.same sl) ⟨ts, upd_same, by omega, fun j t ec a1 a2 => sl _ _ (g6 j t ec a1 a2)⟩ g4 g5 ?_
      omega

/-! far draws -/
theorem at4 {a b c d : V} {i : Int} (h0 : 0 ≤ i) (h1 : i < 4) : atI [a, b, c, d] i = some (if i = 0 then a else if i = 1 then b else if i = 2 then c else d) := by
  have : i = 0 ∨ i = 1 ∨ i = 2 ∨ i = 3 := by omega
  rcases this with rfl | rfl | rfl | rfl <;> rfl
theorem ok__law_far_draw (T : Top K mg) : FnOk P w K mg base CX0 2 T.a__law_far_draw T.fd__law_far_draw ["bag", "many"] spTake := by
  refine T.F__law_far_draw.ok sc__law_far_draw (fun vs H Q E h => ?_) (fun cdv A outer s H vs Q E hr h => ?_)
  · obtain ⟨b, m, rfl, _⟩ := h
    rfl
  · obtain ⟨b, m, rfl, hB, m0, q⟩ := h
    refine ⟨_, (pss_cons (ps_par (by rfl) sc__law_far_draw.nd (i := 2) (j := 3) rfl rfl (by decide) rfl rfl (pa_cons pe_int (pa_cons (pv 1) pa_nil)) (by rfl))
      (pss_cons (ps_while PassesOwn.never (pt_cmpR op_gt (pv 3) pe_int (nomark _)) (pss_one (ps_par (by rfl) sc__law_far_draw.nd (i := 2) (j := 3) rfl rfl (by decide) rfl rfl (pa_cons (pe_op op_add (pe_op op_mul pe_int (pv 2)) (pe_call (ok__law_take T) (hr.mono (by decide)) (by rfl) T.g__law_take T.F__law_take.kp T.b__law_take .nil pass0 (pa_cons (pv 0) (pa_cons pe_int pa_nil)))) (pa_cons (pe_op op_fdiv (pv 3) pe_int) pa_nil)) (by rfl))))
      (pss_one (ps_ret (pe_ix ix_list (pe_lst (pa_cons (pe_op op_mod (pv 2) (pv 1)) (pa_cons pe_int (pa_cons (pe_op op_sub (pv 1) pe_int) (pa_cons (pe_op op_mod (pv 2) (pv 1)) pa_nil))))) (pe_call (ok__law_take T) (hr.mono (by decide)) (by rfl) T.g__law_take T.F__law_take.kp T.b__law_take .nil pass0 (pa_cons (pv 0) (pa_cons pe_int pa_nil))) (fun _ _ => rfl)))))), ?_⟩
    refine ⟨.int m, rfl, _, _, rfl, ?_⟩
    refine while_by (fun σ H' => Kb b H H' ∧ Bag H' b ∧ ∃ f u : Int, σ = [some (.ref b), some (.int m), some (.int f), some (.int u)]) (fun σ _ => match σ with | [_, _, _, some (.int u)] => u.toNat | _ => 0)
      ⟨Kb.refl _ _, hB, 0, m, rfl⟩ (fun σ H1 hp => ?_) (fun σ H1 Q1 Q2 hm hq => ?_)
    · obtain ⟨k1, B1, f, u, rfl⟩ := hp
      refine ⟨.int u, rfl, u, 0, rfl, rfl, _, rfl, ite2 (fun z => ?_) (fun z => ?_)⟩
      · have z1 : 0 < u := of_decide_eq_true z
        refine ⟨.int f, rfl, 1000, f, rfl, rfl, .inl ⟨by decide, by decide⟩, .ref b, rfl, b, 1000, rfl, B1, by decide, fun H2 r2 k2 B2 lo2 hi2 => ?_⟩
        refine ⟨_, r2, rfl, rfl, .int u, rfl, u, 1000, rfl, rfl, ⟨by decide, by decide⟩, _, _, rfl, ⟨k1.trans k2, B2, _, _, rfl⟩, ?_⟩
        show (u / 1000).toNat < u.toNat
        omega
      · refine ⟨.int f, rfl, .int m, rfl, f, m, rfl, rfl, m0, .int m, rfl, m, 1, rfl, rfl, .int f, rfl, .int m, rfl, f, m, rfl, rfl, m0, by show 4 ≤ sizeLine; decide, fun M nM => ?_⟩
        have B1' : Bag (upd H1 M (.lst [.int (f % m), .int 0, .int (m - 1), .int (f % m)])) b := B1.same (same_new nM)
        refine ⟨.ref b, rfl, b, 4, rfl, B1', by decide, fun H2 r2 k2 B2 lo2 hi2 => ?_⟩
        have hM := keepL upd_same B1' k2 (by intro d z; cases z)
        have f0 : 0 ≤ f % m := Int.emod_nonneg _ (by omega)
        have f1 : f % m < m := Int.emod_lt_of_pos _ m0
        obtain ⟨v, hv, v0, v1⟩ : ∃ v : Int, (if r2 = 0 then V.int (f % m) else if r2 = 1 then V.int 0 else if r2 = 2 then V.int (m - 1) else V.int (f % m)) = .int v ∧ 0 ≤ v ∧ v < m := by
          split
          · exact ⟨_, rfl, f0, f1⟩
          · split
            · exact ⟨0, rfl, by omega, by omega⟩
            · split
              · exact ⟨m - 1, rfl, by omega, by omega⟩
              · exact ⟨_, rfl, f0, f1⟩
        exact ⟨M, _, r2, .int v, rfl, rfl, sq_of hM, by rw [at4 lo2 hi2, hv], q _ v ((k1.trans (Kb.of (same_new nM))).trans k2) B2 v0 v1⟩
    · obtain ⟨v, e, i, j, e1, e2, k, e3, q'⟩ := hq
      exact ⟨v, e, i, j, e1, e2, k, e3, hm _ _ q'⟩

/-! between two turns of the law's loop -/
def spLaw (K : PySem.W.Frag) : Sp := fun vs H Q _ => ∃ (a : Addr) (ns : List Int), vs = [.ref a] ∧ SqL K H a (ns.map V.int) ∧ ns.length ≤ 63 ∧ ∀ H', Q (.bl true) H'
theorem refs1 {bs : List Addr} : ∀ d, (bs.map V.ref)[1]? ≠ some (.int d) := fun d h => by
  rw [List.getElem?_map] at h
  cases q : bs[1]? <;> rw [q] at h <;> cases h
theorem os0 {os : List (Option Nat)} : ∀ d, (os.map ofO)[0]? ≠ some (.ref d) := fun d h => by
  rw [List.getElem?_map] at h
  cases q : os[0]? with
  | none => rw [q] at h; cases h
  | some o => rw [q] at h; cases o <;> cases h
theorem ints0 {ns : List Int} : ∀ d, (ns.map V.int)[0]? ≠ some (.ref d) := fun d h => by
  rw [List.getElem?_map] at h
  cases q : ns[0]? <;> rw [q] at h <;> cases h
structure Std (H : Hp) (L : Addr) (bs : List Addr) : Prop where
  l : H L = some (.lst (bs.map V.ref))
  b : ∀ b ∈ bs, Bag H b
theorem Std.same {H H' : Hp} {L : Addr} {bs : List Addr} (h : Std H L bs) (s : Same H H') : Std H' L bs := ⟨s _ _ h.l, fun b hb => (h.b b hb).same s⟩
theorem Std.kb {H H' : Hp} {L b : Addr} {bs : List Addr} (h : Std H L bs) (hb : b ∈ bs) (k : Kb b H H') (hn : Bag H' b) : Std H' L bs :=
  ⟨k _ _ (ne_bag2 h.l (h.b b hb) refs1) h.l, fun b' hb' => (h.b b hb).keep k hn (h.b b' hb')⟩
theorem ok_pair {r : List (Int × Int)} (h : r.all (fun ec => decide (2 ≤ ec.1) && decide (ec.1 ≤ 1000) && decide (0 ≤ ec.2) && decide (ec.2 ≤ ec.1 - 1)) = true) : ∀ ec ∈ r, okT ec := fun ec hm => by
  have := List.all_eq_true.mp h ec hm
  simp only [Bool.and_eq_true, decide_eq_true_eq] at this
  exact ⟨this.1.1.1, this.1.1.2, this.1.2, this.2⟩

theorem opts_ok {r : List (Int × Int)} {o : Option Nat} (h : o ∈ (List.range r.length).map some ++ [none]) : ∀ j, o = some j → j < r.length := fun j e => by
  subst e
  rcases List.mem_append.mp h with z | z
  · obtain ⟨k, hk, e⟩ := List.mem_map.mp z
    have := List.mem_range.mp hk
    have := Option.some.inj e
    omega
  · simp at z
theorem rg_opts (n : Nat) : rgV 0 ((n : Nat) : Int) ++ [V.non] = ((List.range n).map some ++ [none]).map ofO := by
  unfold rgV
  rw [List.map_append, List.map_map, show ((n : Int) - 0).toNat = n by omega]
  congr 1
  apply List.map_congr_left
  intro i _
  show V.int (0 + (i : Int)) = V.int (i : Int)
  rw [Int.zero_add]
/-- now is then, with one more where the piece went -/
theorem now_then (r : List (Int × Int)) (ok : ∀ ec ∈ r, okT ec) (m : Int) (i : Nat) (v : Int) (h : (takenF r (m - 1))[i]? = some v) : (takenF r m)[i]? = some (v + if decide ((i : Int) = ((slot r (whoF r m) : Nat) : Int)) = true then 1 else 0) := by
  have := taken_step r (m - 1) i v ok h
  rw [show m - 1 + 1 = m by omega] at this
  rw [this]
  congr 2
  by_cases q : i = slot r (whoF r m)
  · rw [if_pos q, if_pos (decide_eq_true (by rw [q]))]
  · rw [if_neg q, if_neg (fun z => q (by have := of_decide_eq_true z; omega))]
theorem ok_law (T : Top K mg) : FnOk P w K mg base CX0 6 T.a_law T.fd_law ["script"] (spLaw K) := by
  refine T.F_law.ok sc_law (fun vs H Q E h => ?_) (fun cdv A outer s H vs Q E hr h => ?_)
  · obtain ⟨a, ns, rfl, _⟩ := h
    rfl
  · obtain ⟨a, ns, rfl, hS, hlen, q⟩ := h
    refine ⟨_, (pss_cons (ps_for PassesOwn.never rfl (pi_list (pe_call (ok__law_bags T) (hr.mono (by decide)) (by rfl) T.g__law_bags T.F__law_bags.kp T.b__law_bags .nil pass0 (pa_cons (pv 0) (pa_cons pe_int pa_nil)))) (pg_name (i := 1) sc_law.nd rfl (.inl rfl))
        (pss_cons (ps_set (i := 2) sc_law.nd rfl (.inl rfl) (pe_call (ok__law_drawn_row T) (hr.mono (by decide)) (by rfl) T.g__law_drawn_row T.F__law_drawn_row.kp T.b__law_drawn_row .nil pass0 (pa_cons (pv 1) (pa_cons pe_int (pa_cons (pe_ix ix_list (pe_lst (pa_cons pe_int (pa_cons pe_int (pa_cons pe_int pa_nil)))) (pe_call (ok__law_take T) (hr.mono (by decide)) (by rfl) T.g__law_take T.F__law_take.kp T.b__law_take .nil pass0 (pa_cons (pv 1) (pa_cons pe_int pa_nil))) (fun _ _ => rfl)) pa_nil)))))
      (pss_cons (ps_for PassesOwn.never rfl (pi_list (pe_op op_cat (pe_listRg (by rfl) (by rfl) T.z_list (prg_1 (by rfl) T.z_range (pe_callB call_len_seq (by rfl) T.z_len (by decide +kernel) (pa_cons (pv 2) pa_nil)))) (pe_lst (pa_cons pe_non pa_nil)))) (pg_name (i := 3) sc_law.nd rfl (.inl rfl))
        (pss_cons (ps_set (i := 5) sc_law.nd rfl (.inr rfl) (pe_ifExp (pt_cmpR op_isN (pv 3) pe_non (nomark _)) (pe_callB call_len_seq (by rfl) T.z_len (by decide +kernel) (pa_cons (pv 2) pa_nil)) (pv 3)))
      (pss_one (ps_for PassesOwn.never rfl (pi_tup (pe_tup (pa_cons pe_int (pa_cons (pe_op op_add pe_int (pe_call (ok__law_take T) (hr.mono (by decide)) (by rfl) T.g__law_take T.F__law_take.kp T.b__law_take .nil pass0 (pa_cons (pv 1) (pa_cons pe_int pa_nil)))) (pa_cons (pe_op op_add pe_int (pe_call (ok__law_far_draw T) (hr.mono (by decide)) (by rfl) T.g__law_far_draw T.F__law_far_draw.kp T.b__law_far_draw .nil pass0 (pa_cons (pv 1) (pa_cons (pe_op op_sub (pe_op op_pow pe_int pe_int) pe_int) pa_nil)))) pa_nil))))) (pg_name (i := 6) sc_law.nd rfl (.inl rfl))
        (pss_cons (ps_par (by rfl) sc_law.nd (i := 11) (j := 12) rfl rfl (by decide) rfl rfl (pa_cons (pe_call (ok_piece_of T) (hr.mono (by decide)) (by rfl) T.g_piece_of T.F_piece_of.kp T.b_piece_of .nil pass0 (pa_cons (pv 2) (pa_cons (pv 3) (pa_cons (pv 6) pa_nil)))) (pa_cons (pe_call (ok_piece_of T) (hr.mono (by decide)) (by rfl) T.g_piece_of T.F_piece_of.kp T.b_piece_of .nil pass0 (pa_cons (pv 2) (pa_cons (pv 3) (pa_cons (pe_op op_add (pv 6) pe_int) pa_nil)))) pa_nil)) (by rfl))
      (pss_one (ps_if (PW.pt (pw_and (pt_cmpR op_le (pv 11) (pe_op op_pow pe_int pe_int) (nomark _)) (pw_and1 (pt_cmpR op_le (pv 12) (pe_op op_pow pe_int pe_int) (nomark _))))) (pss_cons (ps_if (PW.pt (pw_or (pt_cmpR op_ne (pe_call (ok_who T) (hr.mono (by decide)) (by rfl) T.g_who T.F_who.kp T.b_who .nil pass0 (pa_cons (pv 2) (pa_cons (pv 11) pa_nil))) (pv 3) (nomark _)) (pw_or (pt_cmpR op_ne (pe_ix ix_list (pe_call (ok_taken T) (hr.mono (by decide)) (by rfl) T.g_taken T.F_taken.kp T.b_taken .nil pass0 (pa_cons (pv 2) (pa_cons (pv 11) pa_nil))) (pv 5) (fun _ _ => rfl)) (pv 6) (nomark _)) (pw_or1 (pt_not (pt_cmpR op_lt (pv 11) (pv 12) (nomark _))))))) (pss_one (ps_ret pe_bl)) pss_nil)
      (pss_one (ps_if (PW.pt (pw_or (pt_cmpR op_ne (pe_ix ix_list (pe_call (ok_taken T) (hr.mono (by decide)) (by rfl) T.g_taken T.F_taken.kp T.b_taken .nil pass0 (pa_cons (pv 2) (pa_cons (pe_op op_sub (pv 11) pe_int) pa_nil))) (pv 5) (fun _ _ => rfl)) (pe_op op_sub (pv 6) pe_int) (nomark _)) (pw_or1 (pt_cmpR op_ne (pe_ix ix_list (pe_call (ok_taken T) (hr.mono (by decide)) (by rfl) T.g_taken T.F_taken.kp T.b_taken .nil pass0 (pa_cons (pv 2) (pa_cons (pe_op op_sub (pv 12) pe_int) pa_nil))) (pv 5) (fun _ _ => rfl)) (pv 6) (nomark _))))) (pss_one (ps_ret pe_bl)) pss_nil))) pss_nil)))))))
      (pss_one (ps_for PassesOwn.never rfl (pi_range1 (by rfl) T.z_range (pa_cons pe_int pa_nil)) (pg_name (i := 4) sc_law.nd rfl (.inl rfl))
        (pss_cons (ps_set (i := 7) sc_law.nd rfl (.inl rfl) (pe_op op_add pe_int (pe_call (ok__law_far_draw T) (hr.mono (by decide)) (by rfl) T.g__law_far_draw T.F__law_far_draw.kp T.b__law_far_draw .nil pass0 (pa_cons (pv 1) (pa_cons (pe_op op_pow pe_int pe_int) pa_nil)))))
      (pss_cons (ps_par3 (by rfl) sc_law.nd (i := 8) (j := 9) (l := 10) rfl rfl rfl (by decide) (by decide) (by decide) rfl rfl rfl (pa_cons (pe_call (ok_taken T) (hr.mono (by decide)) (by rfl) T.g_taken T.F_taken.kp T.b_taken .nil pass0 (pa_cons (pv 2) (pa_cons (pv 7) pa_nil))) (pa_cons (pe_call (ok_taken T) (hr.mono (by decide)) (by rfl) T.g_taken T.F_taken.kp T.b_taken .nil pass0 (pa_cons (pv 2) (pa_cons (pe_op op_sub (pv 7) pe_int) pa_nil))) (pa_cons (pe_call (ok_who T) (hr.mono (by decide)) (by rfl) T.g_who T.F_who.kp T.b_who .nil pass0 (pa_cons (pv 2) (pa_cons (pv 7) pa_nil))) pa_nil))) (by rfl))
      (pss_cons (ps_set (i := 5) sc_law.nd rfl (.inr rfl) (pe_ifExp (pt_cmpR op_isN (pv 10) pe_non (nomark _)) (pe_callB call_len_seq (by rfl) T.z_len (by decide +kernel) (pa_cons (pv 2) pa_nil)) (pv 10)))
      (pss_cons (ps_if (PW.pt (pw_or (pt_cmpR op_ne (pe_callB (cr_sum rfl) (by rfl) T.z_sum (by decide +kernel) (pa_cons (pv 8) pa_nil)) (pv 7) (nomark _)) (pw_or (pt_cmpR op_lt (pe_callB (cr_min rfl) (by rfl) T.z_min (by decide +kernel) (pa_cons (pv 9) pa_nil)) pe_int (nomark _)) (pw_or1 (pt_cmpR (op_neD hr.units) (pv 8) (pe_lc (g := (gTup K 2 (gCons (gName 13) (gCons (gName 14) gNil)))) (own := [("k", 13), ("one", 14)]) (by rfl) sc_law.nd (pi_enum (by rfl) T.z_enumerate (pa_cons (pv 9) pa_nil))
        (blkOk_by (own := [("k", 13), ("one", 14)]) (N := ["script", "bag", "house", "place", "turn", "at", "number", "many", "now", "then", "took", "piece", "next_one", "k", "one"]) (sc := defScope s_law) (by decide +kernel))
        (fun _ _ _ _ _ => (pg_tup (by rfl) (pgs_cons (pg_name (i := 13) sc_law.nd rfl (.inl rfl)) (pgs_cons (pg_name (i := 14) sc_law.nd rfl (.inl rfl)) pgs_nil)))) (fun _ _ _ _ _ => pts_nil) (fun _ _ _ _ _ => (pe_op op_add (pv 14) (pe_callTy call_int1 (by rfl) T.z_int (by decide +kernel) (pa_cons (pe_cmpR op_eq (pv 13) (pv 5) (nomark _)) pa_nil))))) (nomark _)))))) (pss_one (ps_ret pe_bl)) pss_nil)
      (pss_one (ps_if (PW.pt (pw_and (pt_cmpR op_le (pe_ix ix_list (pv 8) (pv 5) (fun _ _ => rfl)) (pe_op op_pow pe_int pe_int) (nomark _)) (pw_and1 (pt_cmpR op_ne (pe_call (ok_piece_of T) (hr.mono (by decide)) (by rfl) T.g_piece_of T.F_piece_of.kp T.b_piece_of .nil pass0 (pa_cons (pv 2) (pa_cons (pv 10) (pa_cons (pe_ix ix_list (pv 8) (pv 5) (fun _ _ => rfl)) pa_nil)))) (pv 7) (nomark _))))) (pss_one (ps_ret pe_bl)) pss_nil)))))))))))
      (pss_one (ps_ret pe_bl))), ?_⟩
    refine ⟨.ref a, rfl, a, ns, 8, rfl, hS, by decide, by decide, fun H1 L bs s1 nL hL hB => ⟨L, rfl, ⟨_, sq_of hL⟩, ?_⟩⟩
    refine for_list (K := K) (a := L) (xs := bs.map V.ref) (fun i σ H' => Std H' L bs ∧ ∃ y1 y2 y3 y4 y5 y6 y7 y8 y9 y10 y11 y12 y13 y14, σ = [some (.ref a), y1, y2, y3, y4, y5, y6, y7, y8, y9, y10, y11, y12, y13, y14])
      ⟨⟨hL, hB⟩, none, none, none, none, none, none, none, none, none, none, none, none, none, none, rfl⟩ (fun i σ H' _ hp => sq_of hp.1.l) (fun i x σ H2 hx hp => ?_) (fun σ H2 hp => ?_)
    · obtain ⟨std, y1, y2, y3, y4, y5, y6, y7, y8, y9, y10, y11, y12, y13, y14, rfl⟩ := hp
      rw [List.getElem?_map] at hx
      cases hb : bs[i]? with
      | none => rw [hb] at hx; cases hx
      | some b =>
        rw [hb] at hx
        cases hx
        have bm : b ∈ bs := List.mem_of_getElem? hb
        -- house
        refine ⟨.ref b, rfl, by show 3 ≤ sizeLine; decide, fun M nM => ?_⟩
        have sM := same_new (o := .lst [.int 6, .int 60, .int 1000]) nM
        have stdM := std.same sM
        have hM : (upd H2 M (.lst [.int 6, .int 60, .int 1000])) M = some (.lst [.int 6, .int 60, .int 1000]) := upd_same
        generalize upd H2 M (.lst [.int 6, .int 60, .int 1000]) = H3 at sM stdM hM ⊢
        refine ⟨.ref b, rfl, b, 3, rfl, stdM.b b bm, by decide, fun H4 r4 k4 B4 lo4 hi4 => ?_⟩
        have hM4 := keepL hM (stdM.b b bm) k4 (by intro d z; cases z)
        have std4 := stdM.kb bm k4 B4
        obtain ⟨far, hfar, f1, f2⟩ : ∃ far : Int, (if r4 = 0 then V.int 6 else if r4 = 1 then V.int 60 else V.int 1000) = .int far ∧ 2 ≤ far ∧ far ≤ 1000 := by
          split
          · exact ⟨6, rfl, by decide, by decide⟩
          · split
            · exact ⟨60, rfl, by decide, by decide⟩
            · exact ⟨1000, rfl, by decide, by decide⟩
        refine ⟨M, _, r4, .int far, rfl, rfl, sq_of hM4, by rw [at3 lo4 hi4, hfar], b, 8, far, rfl, B4, by decide, by decide, f1, f2, fun H5 p r k5 B5 hR ok _ hl => ?_⟩
        have std5 := std4.kb bm k5 B5
        have hl8 : r.length ≤ 8 := by omega
        -- each place, and None
        obtain ⟨ts, h1, h2, h3⟩ := id hR
        have hlen : ((ts.map V.ref).length : Int) = ((r.length : Nat) : Int) := by rw [List.length_map, h2]
        refine ⟨.ref p, rfl, p, _, rfl, .inr (st_of h1), _, rfl, ?_⟩
        rw [hlen]
        refine ⟨RgOk.of_le (by omega) (by omega) (by omega) (by omega), fun U nU => ?_⟩
        have sU := same_new (o := .lst (rgV 0 ((r.length : Nat) : Int))) nU
        refine ⟨by show 1 ≤ sizeLine; decide, fun B nB => ?_⟩
        have sB := same_new (o := .lst [V.non]) nB
        refine ⟨U, B, _, _, rfl, rfl, sB _ _ upd_same, upd_same, ?_, fun Z nZ => ?_⟩
        · rw [rgV_length]
          exact Nat.le_of_lt (small1000 (by simp; omega))
        rw [rg_opts]
        have sZ := (sU.trans sB).trans (same_new (o := .lst (((List.range r.length).map some ++ [none]).map ofO)) nZ)
        have std6 := std5.same sZ
        have hR6 := hR.keep (tupS_of sZ)
        have hZ : (upd (upd (upd H5 U (.lst (rgV 0 ((r.length : Nat) : Int)))) B (.lst [V.non])) Z (.lst (((List.range r.length).map some ++ [none]).map ofO))) Z = some (.lst (((List.range r.length).map some ++ [none]).map ofO)) := upd_same
        generalize upd (upd (upd H5 U (.lst (rgV 0 ((r.length : Nat) : Int)))) B (.lst [V.non])) Z (.lst (((List.range r.length).map some ++ [none]).map ofO)) = H6 at sZ std6 hR6 hZ ⊢
        refine ⟨Z, rfl, ⟨_, sq_of hZ⟩, ?_⟩
        refine for_list (K := K) (a := Z) (xs := ((List.range r.length).map some ++ [none]).map ofO) (fun i σ H' => Std H' L bs ∧ RowAt H' p r ∧ H' Z = some (.lst (((List.range r.length).map some ++ [none]).map ofO)) ∧ ∃ y3 y4 y5 y6 y7 y8 y9 y10 y11 y12 y13 y14, σ = [some (.ref a), some (.ref b), some (.ref p), y3, y4, y5, y6, y7, y8, y9, y10, y11, y12, y13, y14])
          ⟨std6, hR6, hZ, _, _, _, _, _, _, _, _, _, _, _, _, rfl⟩ (fun i σ H' _ hp => sq_of hp.2.2.1) (fun i x σ H7 hx hp => ?_) (fun σ H7 hp => ?_)
        · obtain ⟨std7, hR7, hZ7, z3, z4, z5, z6, z7, z8, z9, z10, z11, z12, z13, z14, rfl⟩ := hp
          rw [List.getElem?_map] at hx
          obtain ⟨o, hoi, hox⟩ := Option.map_eq_some_iff.mp hx
          subst hox
          have ho := opts_ok (List.mem_of_getElem? hoi)
          obtain ⟨ts7, g1, g2, g3⟩ := id hR7
          -- at
          refine tIf_at (v := .int ((slot r o : Nat) : Int)) ?_ ⟨decide (ofO o = V.non), fun R hR => ⟨ofO o, rfl, rfl, _, rfl, hR⟩, fun e R hR => ?_, fun e R hR => ?_⟩
          rotate_left
          · cases o with
            | none =>
              refine ⟨.ref p, rfl, p, _, rfl, .inr (st_of g1), ?_⟩
              rw [List.length_map, g2]
              exact hR
            | some k => exact absurd (of_decide_eq_true e) (by intro z; cases z)
          · cases o with
            | none => exact absurd e (by decide)
            | some k => exact ⟨_, rfl, hR⟩
          -- the numbers
          refine ⟨.ref b, rfl, b, 50, rfl, std7.b b bm, by decide, fun H8 r8 k8 B8 lo8 hi8 => ?_⟩
          refine ⟨1, r8, rfl, rfl, .ref b, rfl, 10, 12, rfl, rfl, ⟨by decide, by decide, by decide⟩, _, 1, rfl, rfl, b, _, rfl, B8, by decide, fun H9 r9 k9 B9 lo9 hi9 => ?_⟩
          refine ⟨1, r9, rfl, rfl, by show 3 ≤ sizeLine; decide, fun t nt => ?_⟩
          have hi9 : r9 < 999999999999 := hi9
          have std9 := (std7.kb bm k8 B8).kb bm k9 B9
          have hR9 := (hR7.keep (k8.tup (std7.b b bm))).keep (k9.tup B8)
          have hZ9 := keepL (keepL hZ7 (std7.b b bm) k8 os0) B8 k9 os0
          have st := same_new (o := .tup [.int 1, .int (1 + r8), .int (1 + r9)]) nt
          have std10 := std9.same st
          have hR10 := hR9.keep (tupS_of st)
          have hZ10 := st _ _ hZ9
          have ht : (upd H9 t (.tup [.int 1, .int (1 + r8), .int (1 + r9)])) t = some (.tup ([1, 1 + r8, 1 + r9].map V.int)) := upd_same
          have hall : ∀ m ∈ ([1, 1 + r8, 1 + r9] : List Int), 1 ≤ m ∧ m ≤ 999999999999 := fun m hm => by
            simp at hm
            omega
          generalize upd H9 t (.tup [.int 1, .int (1 + r8), .int (1 + r9)]) = H10 at st std10 hR10 hZ10 ht ⊢
          generalize ([1, 1 + r8, 1 + r9] : List Int) = us at ht hall
          refine ⟨t, rfl, ⟨_, st_of ht⟩, ?_⟩
          refine for_tup (K := K) (a := t) (xs := us.map V.int) (fun i σ H' => Same H10 H' ∧ ∃ y4 y6 y7 y8 y9 y10 y11 y12 y13 y14, σ = [some (.ref a), some (.ref b), some (.ref p), some (ofO o), y4, some (.int ((slot r o : Nat) : Int)), y6, y7, y8, y9, y10, y11, y12, y13, y14])
            ⟨Same.refl _, _, _, _, _, _, _, _, _, _, _, rfl⟩ (fun i σ H' _ hp => st_of (hp.1 _ _ ht)) (fun i x σ H11 hx hp => ?_) (fun σ H11 hp => ?_)
          · obtain ⟨s11, w4, w6, w7, w8, w9, w10, w11, w12, w13, w14, rfl⟩ := hp
            rw [List.getElem?_map] at hx
            obtain ⟨n, hn, hnx⟩ := Option.map_eq_some_iff.mp hx
            subst hnx
            obtain ⟨n1, n2⟩ := hall n (List.mem_of_getElem? hn)
            have hR11 := hR10.keep (tupS_of s11)
            obtain ⟨fa1, fa2, fa3⟩ := piece_facts r ok o ho n n1
            obtain ⟨fb1, fb2, fb3⟩ := piece_facts r ok o ho (n + 1) (by omega)
            have flt := piece_lt r ok o ho n
            have fa4 := taken_ahead r ok o ho _ n fa1 fa2
            have fb4 := taken_ahead r ok o ho _ (n + 1) fb1 fb2
            rw [show n + 1 - 1 = n by omega] at fb4
            generalize hP : pieceF r o n = p1 at fa1 fa2 fa3 fa4 flt
            generalize hP2 : pieceF r o (n + 1) = p2 at fb1 fb2 fb3 fb4 flt
            refine ⟨.ref p, rfl, ofO o, rfl, .int n, rfl, p, r, o, n, rfl, hR11, ok, hl8, ho, n1, by omega, fun H12 s12 => ?_⟩
            refine ⟨.ref p, rfl, ofO o, rfl, .int n, rfl, n, 1, rfl, rfl, p, r, o, n + 1, rfl, hR11.keep (tupS_of s12), ok, hl8, ho, by omega, by omega, fun H13 s13 => ?_⟩
            rw [hP, hP2]
            refine ⟨_, _, rfl, ?_⟩
            have s13' := (s11.trans s12).trans s13
            have hR13 := hR10.keep (tupS_of s13')
            refine ⟨.int p1, rfl, 10, 18, rfl, rfl, ⟨by decide, by decide, by decide⟩, p1, _, rfl, rfl, _, rfl, ite2 (fun z => ?_) (fun z => iteF ⟨s13', _, _, _, _, _, _, _, _, _, _, rfl⟩)⟩
            refine ⟨.int p2, rfl, 10, 18, rfl, rfl, ⟨by decide, by decide, by decide⟩, p2, _, rfl, rfl, _, rfl, ite2 (fun z2 => ?_) (fun z2 => ⟨s13', _, _, _, _, _, _, _, _, _, _, rfl⟩)⟩
            have z : p1 ≤ 1000000000000000000 := of_decide_eq_true z
            have z2 : p2 ≤ 1000000000000000000 := of_decide_eq_true z2
            refine ⟨.ref p, rfl, .int p1, rfl, p, r, p1, rfl, hR13, ok, hl8, fa3, z, fun H14 s14 => ?_⟩
            rw [fa1]
            refine ⟨ofO o, rfl, scal_ofO _ _, false, by rw [decide_eq_true rfl]; rfl, iteF ?_⟩
            have hR14 := hR13.keep (tupS_of s14)
            refine ⟨.ref p, rfl, .int p1, rfl, p, r, p1, rfl, hR14, ok, hl8, by omega, z, fun H15 g15 s15 ng15 hg15 => ?_⟩
            refine ⟨_, rfl, g15, _, _, .int n, rfl, rfl, sq_of hg15, lst_get fa2, .int n, rfl, rfl, false, by rw [decide_eq_true rfl]; rfl, iteF ?_⟩
            refine ⟨.int p1, rfl, .int p2, rfl, p1, p2, rfl, rfl, true, congrArg V.bl (decide_eq_true flt), iteF ?_⟩
            have hR15 := hR14.keep (tupS_of s15)
            refine ⟨.ref p, rfl, .int p1, rfl, p1, 1, rfl, rfl, p, r, p1 - 1, rfl, hR15, ok, hl8, by omega, by omega, fun H16 g16 s16 ng16 hg16 => ?_⟩
            refine ⟨_, rfl, g16, _, _, .int (n - 1), rfl, rfl, sq_of hg16, lst_get fa4, .int n, rfl, n, 1, rfl, rfl, rfl, false, by rw [decide_eq_true rfl]; rfl, iteF ?_⟩
            have hR16 := hR15.keep (tupS_of s16)
            refine ⟨.ref p, rfl, .int p2, rfl, p2, 1, rfl, rfl, p, r, p2 - 1, rfl, hR16, ok, hl8, by omega, by omega, fun H17 g17 s17 ng17 hg17 => ?_⟩
            refine ⟨_, rfl, g17, _, _, .int n, rfl, rfl, sq_of hg17, lst_get fb4, .int n, rfl, rfl, false, by rw [decide_eq_true rfl]; rfl, iteF ?_⟩
            exact ⟨(((s13'.trans s14).trans s15).trans s16).trans s17, _, _, _, _, _, _, _, _, _, _, rfl⟩
          · obtain ⟨s11, w4, w6, w7, w8, w9, w10, w11, w12, w13, w14, rfl⟩ := hp
            exact ⟨std10.same s11, hR10.keep (tupS_of s11), s11 _ _ hZ10, _, _, _, _, _, _, _, _, _, _, _, _, rfl⟩
        · obtain ⟨std7, hR7, hZ7, z3, z4, z5, z6, z7, z8, z9, z10, z11, z12, z13, z14, rfl⟩ := hp
          refine ⟨4, rfl, by decide, by decide, ?_⟩
          refine for_range (lo := 0) (n := 4) (fun i σ H' => Std H' L bs ∧ RowAt H' p r ∧ ∃ y3 y4 y5 y6 y7 y8 y9 y10 y11 y12 y13 y14, σ = [some (.ref a), some (.ref b), some (.ref p), y3, y4, y5, y6, y7, y8, y9, y10, y11, y12, y13, y14])
            ⟨std7, hR7, _, _, _, _, _, _, _, _, _, _, _, _, rfl⟩ (fun i σ H8 hi hp => ?_) (fun σ H8 hp => ?_)
          · obtain ⟨std8, hR8, z3, z4, z5, z6, z7, z8, z9, z10, z11, z12, z13, z14, rfl⟩ := hp
            refine ⟨.ref b, rfl, 10, 18, rfl, rfl, ⟨by decide, by decide, by decide⟩, b, _, rfl, std8.b b bm, by decide, fun H9 r9 k9 B9 lo9 hi9 => ⟨1, r9, rfl, rfl, ?_⟩⟩
            have hi9 : r9 < 1000000000000000000 := hi9
            have std9 := std8.kb bm k9 B9
            have hR9 := hR8.keep (k9.tup (std8.b b bm))
            obtain ⟨m, hm⟩ : ∃ m, 1 + r9 = m := ⟨_, rfl⟩
            dsimp only
            rw [hm]
            refine ⟨.ref p, rfl, .int m, rfl, p, r, m, rfl, hR9, ok, hl8, by omega, by omega, fun H10 N s10 nN hN => ?_⟩
            have hR10 := hR9.keep (tupS_of s10)
            refine ⟨.ref p, rfl, .int m, rfl, m, 1, rfl, rfl, p, r, m - 1, rfl, hR10, ok, hl8, by omega, by omega, fun H11 Th s11 nTh hTh => ?_⟩
            have hR11 := hR10.keep (tupS_of s11)
            refine ⟨.ref p, rfl, .int m, rfl, p, r, m, rfl, hR11, ok, hl8, by omega, by omega, fun H12 s12 => ?_⟩
            have hR12 := hR11.keep (tupS_of s12)
            have hN12 := s12 _ _ (s11 _ _ hN)
            have hT12 := s12 _ _ hTh
            have std12 := std9.same ((s10.trans s11).trans s12)
            refine ⟨_, _, _, rfl, ?_⟩
            have ho := who_ok r m
            obtain ⟨o, hoe⟩ : ∃ o, whoF r m = o := ⟨_, rfl⟩
            rw [hoe]
            obtain ⟨ts12, g1, g2, g3⟩ := id hR12
            dsimp only
            refine tIf_at (v := .int ((slot r o : Nat) : Int)) ?_ ⟨decide (ofO o = V.non), fun R hR => ⟨ofO o, rfl, rfl, _, rfl, hR⟩, fun e R hR => ?_, fun e R hR => ?_⟩
            rotate_left
            · cases o with
              | none =>
                refine ⟨.ref p, rfl, p, _, rfl, .inr (st_of g1), ?_⟩
                rw [List.length_map, g2]
                exact hR
              | some k => exact absurd (of_decide_eq_true e) (by intro z; cases z)
            · cases o with
              | none => exact absurd e (by decide)
              | some k => exact ⟨_, rfl, hR⟩
            refine ⟨.ref N, rfl, N, _, rfl, sq_of hN12, .int m, rfl, rfl, false, by rw [sum_taken, decide_eq_true rfl]; rfl, iteF ?_⟩
            refine ⟨.ref Th, rfl, Th, _, rfl, sq_of hT12, by rw [len_takenF]; omega, fun mn hmn hle => ?_⟩
            have mn0 := taken_nonneg r (m - 1) ok (by omega) mn hmn
            refine ⟨mn, 0, rfl, rfl, false, congrArg V.bl (decide_eq_false (by omega)), iteF ?_⟩
            refine ⟨.ref N, rfl, .ref Th, rfl, Th, _, rfl, sq_of hT12, fun D hD => ?_⟩
            refine lc_it (walk_enum (K := K) (a := Th) (xs := (takenF r (m - 1)).map V.int)) (fun i H' => Same H12 H' ∧ H' D = some (.lst (((takenF r m).take i).map V.int))) ⟨same_new hD, upd_same⟩ (fun i H' _ hp => sq_of (hp.1 _ _ hT12)) (fun i v H' H'' hi hp hy => ?_) (fun H13 hp => ?_)
            · obtain ⟨sm, hd⟩ := hp
              obtain ⟨Tt, x, y, rfl, nT, rfl, ex, ey⟩ := hy
              cases ex
              rw [List.length_map] at hi
              have hv := List.getElem?_eq_getElem hi
              have ey2 : y = .int (takenF r (m - 1))[i] := by
                have ey3 : ((takenF r (m - 1)).map V.int)[i]? = some y := ey
                rw [List.getElem?_map, hv] at ey3
                exact (Option.some.inj ey3).symm
              subst ey2
              have sT := same_new (o := .tup [.int (i : Nat), .int (takenF r (m - 1))[i]]) nT
              refine ⟨Tt, _, rfl, st_of upd_same, rfl, _, _, rfl, _, _, rfl, rfl, ?_⟩
              refine ⟨rfl, yesT ?_⟩
              refine ⟨_, rfl, .int (i : Nat), rfl, _, rfl, rfl, .inr ⟨_, rfl, _, _, rfl, rfl, _, sT _ _ hd, ?_, same_upd_new hD (sm.trans sT), ?_⟩⟩
              · rw [List.length_map, List.length_take]
                exact Nat.lt_of_le_of_lt (Nat.min_le_left _ _) (small1000 (by rw [len_takenF] at hi; omega))
              · have nt := now_then r ok m i _ hv
                rw [hoe] at nt
                rw [upd_same, List.take_add_one, nt, List.map_append, dec_int]
                congr 3
            · obtain ⟨sm, hd⟩ := hp
              rw [List.take_of_length_le (by rw [List.length_map, len_takenF, len_takenF]; exact Nat.le_refl _)] at hd
              have hN13 := sm _ _ hN12
              refine ne_ints (sq_of hN13) (sq_of hd) ⟨false, rfl, iteF ?_⟩
              have hR13 := hR12.keep (tupS_of sm)
              have std13 := std12.same sm
              have hsl : slot r o < (takenF r m).length := by
                rw [len_takenF]
                exact slot_lt (hoe ▸ ho)
              have hv := List.getElem?_eq_getElem hsl
              obtain ⟨v, hve⟩ : ∃ v, (takenF r m)[slot r o] = v := ⟨_, rfl⟩
              rw [hve] at hv
              have pb := piece_back r ok m v (by rw [hoe]; exact hv)
              rw [hoe] at pb
              have hv1 : 1 ≤ v := by
                have e1 := taken_ahead r ok o (hoe ▸ ho) m v hoe hv
                have e2 := taken_nonneg r (m - 1) ok (by omega) _ (List.mem_of_getElem? e1)
                omega
              refine ⟨.ref N, rfl, _, rfl, N, _, _, .int v, rfl, rfl, sq_of hN13, lst_get hv, 10, 12, rfl, rfl, ⟨by decide, by decide, by decide⟩, v, _, rfl, rfl, _, rfl, ite2 (fun z => ?_) (fun z => iteF ⟨std13, hR13, _, _, _, _, _, _, _, _, _, _, _, _, rfl⟩)⟩
              have z : v ≤ 1000000000000 := of_decide_eq_true z
              refine ⟨.ref p, rfl, ofO o, rfl, .ref N, rfl, _, rfl, N, _, _, .int v, rfl, rfl, sq_of hN13, lst_get hv, p, r, o, v, rfl, hR13, ok, hl8, hoe ▸ ho, hv1, z, fun H14 s14 => ?_⟩
              rw [pb]
              exact ⟨.int m, rfl, rfl, false, by rw [decide_eq_true rfl]; rfl, iteF ⟨std13.same s14, hR13.keep (tupS_of s14), _, _, _, _, _, _, _, _, _, _, _, _, rfl⟩⟩
          · obtain ⟨std8, hR8, z3, z4, z5, z6, z7, z8, z9, z10, z11, z12, z13, z14, rfl⟩ := hp
            exact ⟨std8, _, _, _, _, _, _, _, _, _, _, _, _, _, _, rfl⟩
    · exact q _

end
theorem all_mk {l : PySem.W.OpenLaw} {w : World} {K : PySem.W.Frag} {h : Heap} {mg : Str → Option Value} {fa : Addr} (X : K.In h) (G : h.Ns mainGlobals mg) (hfa : mg "law" = some (.ref fa))
    {f1 f2 f3 f4 f5 f6 f7 f8 f9 f10 f11 f12 f13 f14 f15 f16 f17 f18 f19 : Addr} {od1 an1 od2 an2 od3 an3 od4 an4 od5 an5 od6 an6 od7 an7 od8 an8 od9 an9 od10 an10 od11 an11 od12 an12 od13 an13 od14 an14 od15 an15 od16 an16 od17 an17 od18 an18 od19 an19 : Option Addr} {sl1 sl2 sl3 sl4 sl5 sl6 sl7 sl8 sl9 sl10 sl11 sl12 sl13 sl14 sl15 sl16 sl17 sl18 sl19 : Array (Option Value)} {oc1 kV1 dc1 pm1 cd1 ct1 oc2 kV2 dc2 pm2 cd2 ct2 oc3 kV3 dc3 pm3 cd3 ct3 oc4 kV4 dc4 pm4 cd4 ct4 oc5 kV5 dc5 pm5 cd5 ct5 oc6 kV6 dc6 pm6 cd6 ct6 oc7 kV7 dc7 pm7 cd7 ct7 oc8 kV8 dc8 pm8 cd8 ct8 oc9 kV9 dc9 pm9 cd9 ct9 oc10 kV10 dc10 pm10 cd10 ct10 oc11 kV11 dc11 pm11 cd11 ct11 oc12 kV12 dc12 pm12 cd12 ct12 oc13 kV13 dc13 pm13 cd13 ct13 oc14 kV14 dc14 pm14 cd14 ct14 oc15 kV15 dc15 pm15 cd15 ct15 oc16 kV16 dc16 pm16 cd16 ct16 oc17 kV17 dc17 pm17 cd17 ct17 oc18 kV18 dc18 pm18 cd18 ct18 oc19 kV19 dc19 pm19 cd19 ct19 : Value}
    (a1 : PySem.W.nsIn K mainGlobals "is_whole" = some (some (.ref f1)))
    (l1 : K.lookup f1 = some ⟨oc1, od1, .func (PySem.W.fnOf "is_whole" "is_whole" (defArgs s_is_whole) (defBody s_is_whole) (defScope s_is_whole) .none kV1 dc1 pm1 an1 cd1 ct1), sl1⟩)
    (c1 : PySem.W.codeIn K cd1 "is_whole" = true) (k1 : PySem.W.keepIn K (.ref f1) = true)
    (a2 : PySem.W.nsIn K mainGlobals "check_number" = some (some (.ref f2)))
    (l2 : K.lookup f2 = some ⟨oc2, od2, .func (PySem.W.fnOf "check_number" "check_number" (defArgs s_check_number) (defBody s_check_number) (defScope s_check_number) .none kV2 dc2 pm2 an2 cd2 ct2), sl2⟩)
    (c2 : PySem.W.codeIn K cd2 "check_number" = true) (k2 : PySem.W.keepIn K (.ref f2) = true)
    (a3 : PySem.W.nsIn K mainGlobals "is_taker" = some (some (.ref f3)))
    (l3 : K.lookup f3 = some ⟨oc3, od3, .func (PySem.W.fnOf "is_taker" "is_taker" (defArgs s_is_taker) (defBody s_is_taker) (defScope s_is_taker) .none kV3 dc3 pm3 an3 cd3 ct3), sl3⟩)
    (c3 : PySem.W.codeIn K cd3 "is_taker" = true) (k3 : PySem.W.keepIn K (.ref f3) = true)
    (a4 : PySem.W.nsIn K mainGlobals "is_row" = some (some (.ref f4)))
    (l4 : K.lookup f4 = some ⟨oc4, od4, .func (PySem.W.fnOf "is_row" "is_row" (defArgs s_is_row) (defBody s_is_row) (defScope s_is_row) .none kV4 dc4 pm4 an4 cd4 ct4), sl4⟩)
    (c4 : PySem.W.codeIn K cd4 "is_row" = true) (k4 : PySem.W.keepIn K (.ref f4) = true)
    (a5 : PySem.W.nsIn K mainGlobals "check_row" = some (some (.ref f5)))
    (l5 : K.lookup f5 = some ⟨oc5, od5, .func (PySem.W.fnOf "check_row" "check_row" (defArgs s_check_row) (defBody s_check_row) (defScope s_check_row) .none kV5 dc5 pm5 an5 cd5 ct5), sl5⟩)
    (c5 : PySem.W.codeIn K cd5 "check_row" = true) (k5 : PySem.W.keepIn K (.ref f5) = true)
    (a6 : PySem.W.nsIn K mainGlobals "check_taker" = some (some (.ref f6)))
    (l6 : K.lookup f6 = some ⟨oc6, od6, .func (PySem.W.fnOf "check_taker" "check_taker" (defArgs s_check_taker) (defBody s_check_taker) (defScope s_check_taker) .none kV6 dc6 pm6 an6 cd6 ct6), sl6⟩)
    (c6 : PySem.W.codeIn K cd6 "check_taker" = true) (k6 : PySem.W.keepIn K (.ref f6) = true)
    (a7 : PySem.W.nsIn K mainGlobals "who" = some (some (.ref f7)))
    (l7 : K.lookup f7 = some ⟨oc7, od7, .func (PySem.W.fnOf "who" "who" (defArgs s_who) (defBody s_who) (defScope s_who) .none kV7 dc7 pm7 an7 cd7 ct7), sl7⟩)
    (c7 : PySem.W.codeIn K cd7 "who" = true) (k7 : PySem.W.keepIn K (.ref f7) = true)
    (a8 : PySem.W.nsIn K mainGlobals "taken" = some (some (.ref f8)))
    (l8 : K.lookup f8 = some ⟨oc8, od8, .func (PySem.W.fnOf "taken" "taken" (defArgs s_taken) (defBody s_taken) (defScope s_taken) .none kV8 dc8 pm8 an8 cd8 ct8), sl8⟩)
    (c8 : PySem.W.codeIn K cd8 "taken" = true) (k8 : PySem.W.keepIn K (.ref f8) = true)
    (a9 : PySem.W.nsIn K mainGlobals "piece_of" = some (some (.ref f9)))
    (l9 : K.lookup f9 = some ⟨oc9, od9, .func (PySem.W.fnOf "piece_of" "piece_of" (defArgs s_piece_of) (defBody s_piece_of) (defScope s_piece_of) .none kV9 dc9 pm9 an9 cd9 ct9), sl9⟩)
    (c9 : PySem.W.codeIn K cd9 "piece_of" = true) (k9 : PySem.W.keepIn K (.ref f9) = true)
    (a10 : PySem.W.nsIn K mainGlobals "piece_behind" = some (some (.ref f10)))
    (l10 : K.lookup f10 = some ⟨oc10, od10, .func (PySem.W.fnOf "piece_behind" "piece_behind" (defArgs s_piece_behind) (defBody s_piece_behind) (defScope s_piece_behind) .none kV10 dc10 pm10 an10 cd10 ct10), sl10⟩)
    (c10 : PySem.W.codeIn K cd10 "piece_behind" = true) (k10 : PySem.W.keepIn K (.ref f10) = true)
    (a11 : PySem.W.nsIn K mainGlobals "_law_cell_at" = some (some (.ref f11)))
    (l11 : K.lookup f11 = some ⟨oc11, od11, .func (PySem.W.fnOf "_law_cell_at" "_law_cell_at" (defArgs s__law_cell_at) (defBody s__law_cell_at) (defScope s__law_cell_at) .none kV11 dc11 pm11 an11 cd11 ct11), sl11⟩)
    (c11 : PySem.W.codeIn K cd11 "_law_cell_at" = true) (k11 : PySem.W.keepIn K (.ref f11) = true)
    (a12 : PySem.W.nsIn K mainGlobals "_law_draws" = some (some (.ref f12)))
    (l12 : K.lookup f12 = some ⟨oc12, od12, .func (PySem.W.fnOf "_law_draws" "_law_draws" (defArgs s__law_draws) (defBody s__law_draws) (defScope s__law_draws) .none kV12 dc12 pm12 an12 cd12 ct12), sl12⟩)
    (c12 : PySem.W.codeIn K cd12 "_law_draws" = true) (k12 : PySem.W.keepIn K (.ref f12) = true)
    (a13 : PySem.W.nsIn K mainGlobals "_law_bag" = some (some (.ref f13)))
    (l13 : K.lookup f13 = some ⟨oc13, od13, .func (PySem.W.fnOf "_law_bag" "_law_bag" (defArgs s__law_bag) (defBody s__law_bag) (defScope s__law_bag) .none kV13 dc13 pm13 an13 cd13 ct13), sl13⟩)
    (c13 : PySem.W.codeIn K cd13 "_law_bag" = true) (k13 : PySem.W.keepIn K (.ref f13) = true)
    (a14 : PySem.W.nsIn K mainGlobals "_law_bags" = some (some (.ref f14)))
    (l14 : K.lookup f14 = some ⟨oc14, od14, .func (PySem.W.fnOf "_law_bags" "_law_bags" (defArgs s__law_bags) (defBody s__law_bags) (defScope s__law_bags) .none kV14 dc14 pm14 an14 cd14 ct14), sl14⟩)
    (c14 : PySem.W.codeIn K cd14 "_law_bags" = true) (k14 : PySem.W.keepIn K (.ref f14) = true)
    (a15 : PySem.W.nsIn K mainGlobals "_law_take" = some (some (.ref f15)))
    (l15 : K.lookup f15 = some ⟨oc15, od15, .func (PySem.W.fnOf "_law_take" "_law_take" (defArgs s__law_take) (defBody s__law_take) (defScope s__law_take) .none kV15 dc15 pm15 an15 cd15 ct15), sl15⟩)
    (c15 : PySem.W.codeIn K cd15 "_law_take" = true) (k15 : PySem.W.keepIn K (.ref f15) = true)
    (a16 : PySem.W.nsIn K mainGlobals "_law_far_draw" = some (some (.ref f16)))
    (l16 : K.lookup f16 = some ⟨oc16, od16, .func (PySem.W.fnOf "_law_far_draw" "_law_far_draw" (defArgs s__law_far_draw) (defBody s__law_far_draw) (defScope s__law_far_draw) .none kV16 dc16 pm16 an16 cd16 ct16), sl16⟩)
    (c16 : PySem.W.codeIn K cd16 "_law_far_draw" = true) (k16 : PySem.W.keepIn K (.ref f16) = true)
    (a17 : PySem.W.nsIn K mainGlobals "_law_taker" = some (some (.ref f17)))
    (l17 : K.lookup f17 = some ⟨oc17, od17, .func (PySem.W.fnOf "_law_taker" "_law_taker" (defArgs s__law_taker) (defBody s__law_taker) (defScope s__law_taker) .none kV17 dc17 pm17 an17 cd17 ct17), sl17⟩)
    (c17 : PySem.W.codeIn K cd17 "_law_taker" = true) (k17 : PySem.W.keepIn K (.ref f17) = true)
    (a18 : PySem.W.nsIn K mainGlobals "_law_drawn_row" = some (some (.ref f18)))
    (l18 : K.lookup f18 = some ⟨oc18, od18, .func (PySem.W.fnOf "_law_drawn_row" "_law_drawn_row" (defArgs s__law_drawn_row) (defBody s__law_drawn_row) (defScope s__law_drawn_row) .none kV18 dc18 pm18 an18 cd18 ct18), sl18⟩)
    (c18 : PySem.W.codeIn K cd18 "_law_drawn_row" = true) (k18 : PySem.W.keepIn K (.ref f18) = true)
    (a19 : PySem.W.nsIn K mainGlobals "law" = some (some (.ref f19)))
    (l19 : K.lookup f19 = some ⟨oc19, od19, .func (PySem.W.fnOf "law" "law" (defArgs s_law) (defBody s_law) (defScope s_law) .none kV19 dc19 pm19 an19 cd19 ct19), sl19⟩)
    (c19 : PySem.W.codeIn K cd19 "law" = true) (k19 : PySem.W.keepIn K (.ref f19) = true)
    {t0 : Tok} (v0 : PySem.W.nsIn K mainGlobals "MOST_TAKERS" = some (some (.int 8 t0)))
    {t1 : Tok} (v1 : PySem.W.nsIn K mainGlobals "LEAST_EVERY" = some (some (.int 2 t1)))
    {t2 : Tok} (v2 : PySem.W.nsIn K mainGlobals "MOST_EVERY" = some (some (.int 1000 t2)))
    {t3 : Tok} (v3 : PySem.W.nsIn K mainGlobals "MOST_PIECES" = some (some (.int 1000000000000000000 t3)))
    {t4 : Tok} (v4 : PySem.W.nsIn K mainGlobals "MOST_TAKEN" = some (some (.int 1000000000000 t4)))
    (z0 : PySem.W.nsIn K mainGlobals "all" = some none)
    (z1 : PySem.W.nsIn K mainGlobals "bool" = some none)
    (z2 : PySem.W.nsIn K mainGlobals "divmod" = some none)
    (z3 : PySem.W.nsIn K mainGlobals "enumerate" = some none)
    (z4 : PySem.W.nsIn K mainGlobals "int" = some none)
    (z5 : PySem.W.nsIn K mainGlobals "isinstance" = some none)
    (z6 : PySem.W.nsIn K mainGlobals "len" = some none)
    (z7 : PySem.W.nsIn K mainGlobals "list" = some none)
    (z8 : PySem.W.nsIn K mainGlobals "max" = some none)
    (z9 : PySem.W.nsIn K mainGlobals "min" = some none)
    (z10 : PySem.W.nsIn K mainGlobals "range" = some none)
    (z11 : PySem.W.nsIn K mainGlobals "reversed" = some none)
    (z12 : PySem.W.nsIn K mainGlobals "sum" = some none)
    (z13 : PySem.W.nsIn K mainGlobals "tuple" = some none)
    : ∃ fd : FuncData, (∀ (s : Shared) (v : Value), BindsTo s fd ⟨[v], []⟩ [("script", v)]) ∧ ∀ base : Heap, K.In base → base.Ns mainGlobals mg → FnOk l.prog w K mg base CX0 6 fa fd ["script"] (spLaw K) := by
  have e := hfa.symm.trans (PySem.W.mg_of X G a19)
  cases e
  let T : Top K mg := {
    a_is_whole := f1, fd_is_whole := _, F_is_whole := fun_mk (st := s_is_whole) l1 c1 k1,
    b_is_whole := (fun_mk (st := s_is_whole) l1 c1 k1).binds (ps := ["thing", "least", "most"]) fun _ _ _ _ _ _ us hl => match us, hl with | [_, _, _], _ => rfl,
    g_is_whole := PySem.W.mg_of X G a1,
    a_check_number := f2, fd_check_number := _, F_check_number := fun_mk (st := s_check_number) l2 c2 k2,
    b_check_number := (fun_mk (st := s_check_number) l2 c2 k2).binds (ps := ["thing", "least", "most"]) fun _ _ _ _ _ _ us hl => match us, hl with | [_, _, _], _ => rfl,
    g_check_number := PySem.W.mg_of X G a2,
    a_is_taker := f3, fd_is_taker := _, F_is_taker := fun_mk (st := s_is_taker) l3 c3 k3,
    b_is_taker := (fun_mk (st := s_is_taker) l3 c3 k3).binds (ps := ["thing"]) fun _ _ _ _ _ _ us hl => match us, hl with | [_], _ => rfl,
    g_is_taker := PySem.W.mg_of X G a3,
    a_is_row := f4, fd_is_row := _, F_is_row := fun_mk (st := s_is_row) l4 c4 k4,
    b_is_row := (fun_mk (st := s_is_row) l4 c4 k4).binds (ps := ["thing"]) fun _ _ _ _ _ _ us hl => match us, hl with | [_], _ => rfl,
    g_is_row := PySem.W.mg_of X G a4,
    a_check_row := f5, fd_check_row := _, F_check_row := fun_mk (st := s_check_row) l5 c5 k5,
    b_check_row := (fun_mk (st := s_check_row) l5 c5 k5).binds (ps := ["thing"]) fun _ _ _ _ _ _ us hl => match us, hl with | [_], _ => rfl,
    g_check_row := PySem.W.mg_of X G a5,
    a_check_taker := f6, fd_check_taker := _, F_check_taker := fun_mk (st := s_check_taker) l6 c6 k6,
    b_check_taker := (fun_mk (st := s_check_taker) l6 c6 k6).binds (ps := ["row", "thing"]) fun _ _ _ _ _ _ us hl => match us, hl with | [_, _], _ => rfl,
    g_check_taker := PySem.W.mg_of X G a6,
    a_who := f7, fd_who := _, F_who := fun_mk (st := s_who) l7 c7 k7,
    b_who := (fun_mk (st := s_who) l7 c7 k7).binds (ps := ["row", "piece"]) fun _ _ _ _ _ _ us hl => match us, hl with | [_, _], _ => rfl,
    g_who := PySem.W.mg_of X G a7,
    a_taken := f8, fd_taken := _, F_taken := fun_mk (st := s_taken) l8 c8 k8,
    b_taken := (fun_mk (st := s_taken) l8 c8 k8).binds (ps := ["row", "number"]) fun _ _ _ _ _ _ us hl => match us, hl with | [_, _], _ => rfl,
    g_taken := PySem.W.mg_of X G a8,
    a_piece_of := f9, fd_piece_of := _, F_piece_of := fun_mk (st := s_piece_of) l9 c9 k9,
    b_piece_of := (fun_mk (st := s_piece_of) l9 c9 k9).binds (ps := ["row", "taker", "number"]) fun _ _ _ _ _ _ us hl => match us, hl with | [_, _, _], _ => rfl,
    g_piece_of := PySem.W.mg_of X G a9,
    a_piece_behind := f10, fd_piece_behind := _, F_piece_behind := fun_mk (st := s_piece_behind) l10 c10 k10,
    b_piece_behind := (fun_mk (st := s_piece_behind) l10 c10 k10).binds (ps := ["row", "number"]) fun _ _ _ _ _ _ us hl => match us, hl with | [_, _], _ => rfl,
    g_piece_behind := PySem.W.mg_of X G a10,
    a__law_cell_at := f11, fd__law_cell_at := _, F__law_cell_at := fun_mk (st := s__law_cell_at) l11 c11 k11,
    b__law_cell_at := (fun_mk (st := s__law_cell_at) l11 c11 k11).binds (ps := ["script", "k"]) fun _ _ _ _ _ _ us hl => match us, hl with | [_, _], _ => rfl,
    g__law_cell_at := PySem.W.mg_of X G a11,
    a__law_draws := f12, fd__law_draws := _, F__law_draws := fun_mk (st := s__law_draws) l12 c12 k12,
    b__law_draws := (fun_mk (st := s__law_draws) l12 c12 k12).binds (ps := ["cell", "many", "size"]) fun _ _ _ _ _ _ us hl => match us, hl with | [_, _, _], _ => rfl,
    g__law_draws := PySem.W.mg_of X G a12,
    a__law_bag := f13, fd__law_bag := _, F__law_bag := fun_mk (st := s__law_bag) l13 c13 k13,
    b__law_bag := (fun_mk (st := s__law_bag) l13 c13 k13).binds (ps := ["script", "k"]) fun _ _ _ _ _ _ us hl => match us, hl with | [_, _], _ => rfl,
    g__law_bag := PySem.W.mg_of X G a13,
    a__law_bags := f14, fd__law_bags := _, F__law_bags := fun_mk (st := s__law_bags) l14 c14 k14,
    b__law_bags := (fun_mk (st := s__law_bags) l14 c14 k14).binds (ps := ["script", "limit"]) fun _ _ _ _ _ _ us hl => match us, hl with | [_, _], _ => rfl,
    g__law_bags := PySem.W.mg_of X G a14,
    a__law_take := f15, fd__law_take := _, F__law_take := fun_mk (st := s__law_take) l15 c15 k15,
    b__law_take := (fun_mk (st := s__law_take) l15 c15 k15).binds (ps := ["bag", "many"]) fun _ _ _ _ _ _ us hl => match us, hl with | [_, _], _ => rfl,
    g__law_take := PySem.W.mg_of X G a15,
    a__law_far_draw := f16, fd__law_far_draw := _, F__law_far_draw := fun_mk (st := s__law_far_draw) l16 c16 k16,
    b__law_far_draw := (fun_mk (st := s__law_far_draw) l16 c16 k16).binds (ps := ["bag", "many"]) fun _ _ _ _ _ _ us hl => match us, hl with | [_, _], _ => rfl,
    g__law_far_draw := PySem.W.mg_of X G a16,
    a__law_taker := f17, fd__law_taker := _, F__law_taker := fun_mk (st := s__law_taker) l17 c17 k17,
    b__law_taker := (fun_mk (st := s__law_taker) l17 c17 k17).binds (ps := ["bag", "far"]) fun _ _ _ _ _ _ us hl => match us, hl with | [_, _], _ => rfl,
    g__law_taker := PySem.W.mg_of X G a17,
    a__law_drawn_row := f18, fd__law_drawn_row := _, F__law_drawn_row := fun_mk (st := s__law_drawn_row) l18 c18 k18,
    b__law_drawn_row := (fun_mk (st := s__law_drawn_row) l18 c18 k18).binds (ps := ["bag", "takers", "far"]) fun _ _ _ _ _ _ us hl => match us, hl with | [_, _, _], _ => rfl,
    g__law_drawn_row := PySem.W.mg_of X G a18,
    a_law := fa, fd_law := _, F_law := fun_mk (st := s_law) l19 c19 k19,
    b_law := (fun_mk (st := s_law) l19 c19 k19).binds (ps := ["script"]) fun _ _ _ _ _ _ us hl => match us, hl with | [_], _ => rfl,
    g_law := PySem.W.mg_of X G a19,
    t_MOST_TAKERS := t0, g_MOST_TAKERS := PySem.W.mg_of X G v0,
    t_LEAST_EVERY := t1, g_LEAST_EVERY := PySem.W.mg_of X G v1,
    t_MOST_EVERY := t2, g_MOST_EVERY := PySem.W.mg_of X G v2,
    t_MOST_PIECES := t3, g_MOST_PIECES := PySem.W.mg_of X G v3,
    t_MOST_TAKEN := t4, g_MOST_TAKEN := PySem.W.mg_of X G v4,
    z_all := PySem.W.mg_none_of X G z0,
    z_bool := PySem.W.mg_none_of X G z1,
    z_divmod := PySem.W.mg_none_of X G z2,
    z_enumerate := PySem.W.mg_none_of X G z3,
    z_int := PySem.W.mg_none_of X G z4,
    z_isinstance := PySem.W.mg_none_of X G z5,
    z_len := PySem.W.mg_none_of X G z6,
    z_list := PySem.W.mg_none_of X G z7,
    z_max := PySem.W.mg_none_of X G z8,
    z_min := PySem.W.mg_none_of X G z9,
    z_range := PySem.W.mg_none_of X G z10,
    z_reversed := PySem.W.mg_none_of X G z11,
    z_sum := PySem.W.mg_none_of X G z12,
    z_tuple := PySem.W.mg_none_of X G z13 }
  exact ⟨T.fd_law, fun s v => .of_eq rfl, fun base _ _ => ok_law T⟩
end Lk04
open PySem PySem.W PyProof.Rows
set_option maxHeartbeats 0 in
theorem PySem.Challenge.cw_takenth_k04_whole_however_far_holds : PySem.Challenge.rw_takenth_k04_whole_however_far.Holds := by
  w_on; o_law; k_head; (case hw => w_witness2)
  k_fill
  refine L2.walk_of (l := PySem.Challenge.rw_takenth_k04_whole_however_far) (n := 63) (k := 6) (x := "script") (CX := fun _ => L2.CX0) (sp := fun w => Lk04.spLaw _) rfl (by decide) rfl ⟨rfl, by decide, by decide⟩ (fun w h Y => PySem.W.kIn_of Y) ?F (fun _ _ a ns hl _ hS => ⟨a, ns, rfl, hS, hl, fun _ => rfl⟩) (fun _ _ _ _ _ h => h)
  case F =>
    intro w mg fa h KX G hmg
    refine' Lk04.all_mk KX G hmg ?a1 ?l1 ?c1 ?k1 ?a2 ?l2 ?c2 ?k2 ?a3 ?l3 ?c3 ?k3 ?a4 ?l4 ?c4 ?k4 ?a5 ?l5 ?c5 ?k5 ?a6 ?l6 ?c6 ?k6 ?a7 ?l7 ?c7 ?k7 ?a8 ?l8 ?c8 ?k8 ?a9 ?l9 ?c9 ?k9 ?a10 ?l10 ?c10 ?k10 ?a11 ?l11 ?c11 ?k11 ?a12 ?l12 ?c12 ?k12 ?a13 ?l13 ?c13 ?k13 ?a14 ?l14 ?c14 ?k14 ?a15 ?l15 ?c15 ?k15 ?a16 ?l16 ?c16 ?k16 ?a17 ?l17 ?c17 ?k17 ?a18 ?l18 ?c18 ?k18 ?a19 ?l19 ?c19 ?k19 ?v0 ?v1 ?v2 ?v3 ?v4 ?z0 ?z1 ?z2 ?z3 ?z4 ?z5 ?z6 ?z7 ?z8 ?z9 ?z10 ?z11 ?z12 ?z13
    (case a1 => k_is); (case l1 => k_is); (case c1 => k_is); (case k1 => k_is); (case a2 => k_is); (case l2 => k_is); (case c2 => k_is); (case k2 => k_is); (case a3 => k_is); (case l3 => k_is); (case c3 => k_is); (case k3 => k_is); (case a4 => k_is); (case l4 => k_is); (case c4 => k_is); (case k4 => k_is); (case a5 => k_is); (case l5 => k_is); (case c5 => k_is); (case k5 => k_is); (case a6 => k_is); (case l6 => k_is); (case c6 => k_is); (case k6 => k_is); (case a7 => k_is); (case l7 => k_is); (case c7 => k_is); (case k7 => k_is); (case a8 => k_is); (case l8 => k_is); (case c8 => k_is); (case k8 => k_is); (case a9 => k_is); (case l9 => k_is); (case c9 => k_is); (case k9 => k_is); (case a10 => k_is); (case l10 => k_is); (case c10 => k_is); (case k10 => k_is); (case a11 => k_is); (case l11 => k_is); (case c11 => k_is); (case k11 => k_is); (case a12 => k_is); (case l12 => k_is); (case c12 => k_is); (case k12 => k_is); (case a13 => k_is); (case l13 => k_is); (case c13 => k_is); (case k13 => k_is); (case a14 => k_is); (case l14 => k_is); (case c14 => k_is); (case k14 => k_is); (case a15 => k_is); (case l15 => k_is); (case c15 => k_is); (case k15 => k_is); (case a16 => k_is); (case l16 => k_is); (case c16 => k_is); (case k16 => k_is); (case a17 => k_is); (case l17 => k_is); (case c17 => k_is); (case k17 => k_is); (case a18 => k_is); (case l18 => k_is); (case c18 => k_is); (case k18 => k_is); (case a19 => k_is); (case l19 => k_is); (case c19 => k_is); (case k19 => k_is); (case v0 => k_is); (case v1 => k_is); (case v2 => k_is); (case v3 => k_is); (case v4 => k_is); (case z0 => k_is); (case z1 => k_is); (case z2 => k_is); (case z3 => k_is); (case z4 => k_is); (case z5 => k_is); (case z6 => k_is); (case z7 => k_is); (case z8 => k_is); (case z9 => k_is); (case z10 => k_is); (case z11 => k_is); (case z12 => k_is); (case z13 => k_is)
