import PyProof.Rows.All
import Wide.All
import OpenK.AllK
import Wide.FinOn
import HandS.ForMost
import HandS.Wide
import HandS.Evl
import HandS.IsInst
import HandS.RaiseMore
import HandS.More
import HandS.CallLocal
import HandS.Style
import HandS.TupAny
import HandS.Strs
import HandS.Walk
import HandS.Iter
import KE.GoesMore
import HandS.OwnEq
import HandS.OwnIter
import HandS.DictComp
import HandS.StrMore
import HandS.FStr
import HandS.Zip
import HandS.Text
import HandS.Star
import HandS.Defaults
import HandS.ExcInit
import HandS.ExcField
import HandS.Lambda
import HandS.TryMany
import HandS.WordsExc
import KE.KExcInit
import PyProof.ReprRoads
import HandS.EndTab
import KE.KNestM
import PySem.Challenge.RW_settledplay_k05_errors_of_luck
set_option linter.all false
set_option maxRecDepth 100000
namespace Pm
/-! ### 999999937 is a prime number -/
def chk : Nat → Nat → Bool
  | 0, lo => 999999937 % lo != 0
  | k + 1, lo => chk k lo && chk k (lo + 2 ^ k)
theorem chk_ok : ∀ {k lo : Nat}, chk k lo = true → ∀ d, lo ≤ d → d < lo + 2 ^ k → 999999937 % d ≠ 0
  | 0, lo, h, d, h1, h2 => by
    have e : d = lo := by simp at h2; omega
    subst e
    simpa [chk] using h
  | k + 1, lo, h, d, h1, h2 => by
    have h := Bool.and_eq_true_iff.mp (show (chk k lo && chk k (lo + 2 ^ k)) = true from h)
    by_cases hd : d < lo + 2 ^ k
    · exact chk_ok h.1 d h1 hd
    · exact chk_ok h.2 d (by omega) (by rw [Nat.pow_succ] at h2; omega)
theorem chk_all : chk 15 2 = true := by decide +kernel
abbrev p : Nat := 999999937
theorem dvd_p {d : Nat} (h : d ∣ p) : d = 1 ∨ d = p := by
  obtain ⟨e, he⟩ := h
  have no : ∀ x, x ∣ p → 2 ≤ x → x < 32770 → False := fun x hx h2 h3 => chk_ok chk_all x h2 (by omega) (Nat.mod_eq_zero_of_dvd hx)
  by_cases h1 : d < 2
  · have : d ≠ 0 := by rintro rfl; simp at he
    left; omega
  · by_cases h2 : d < 32770
    · exact (no d ⟨e, he⟩ (by omega) h2).elim
    · by_cases h3 : e < 2
      · have : e ≠ 0 := by rintro rfl; simp at he
        have e1 : e = 1 := by omega
        subst e1
        right; omega
      · by_cases h4 : e < 32770
        · exact (no e ⟨d, by rw [he, Nat.mul_comm]⟩ (by omega) h4).elim
        · have h5 : 32770 * 32770 ≤ d * e := Nat.mul_le_mul (by omega) (by omega)
          have h6 : 999999937 = d * e := he
          omega
theorem euclid {a b : Nat} (h : p ∣ a * b) : p ∣ a ∨ p ∣ b := by
  rcases dvd_p (Nat.gcd_dvd_left p a) with e | e
  · exact .inr (Nat.Coprime.dvd_of_dvd_mul_left (show Nat.Coprime p a from e) h)
  · exact .inl (e ▸ Nat.gcd_dvd_right p a)
theorem dvd_small {a : Nat} (h : p ∣ a) (h1 : a < p) : a = 0 := Nat.eq_zero_of_dvd_of_lt h h1
theorem cancel {a x y : Nat} (ha : ¬ p ∣ a) (h : a * x % p = a * y % p) : x % p = y % p := by
  have go : ∀ {x y : Nat}, x ≤ y → a * x % p = a * y % p → x % p = y % p := fun {x y} hxy h => by
    have hd : p ∣ a * (y - x) := by
      rw [Nat.mul_sub]
      exact Nat.dvd_of_mod_eq_zero (Nat.sub_mod_eq_zero_of_mod_eq h.symm)
    rcases euclid hd with z | z
    · exact absurd z ha
    · obtain ⟨k, hk⟩ := z
      have e : y = x + p * k := by omega
      rw [e, Nat.add_mul_mod_self_left]
  rcases Nat.le_total x y with q | q
  · exact go q h
  · exact (go q h.symm).symm
/-! ### products -/
def prod (l : List Nat) : Nat := l.foldr (· * ·) 1
theorem prod_perm {l m : List Nat} (h : l.Perm m) : prod l = prod m := by
  induction h with
  | nil => rfl
  | cons x _ ih => exact congrArg (x * ·) ih
  | swap x y l => show y * (x * prod l) = x * (y * prod l); rw [Nat.mul_left_comm]
  | trans _ _ h1 h2 => exact h1.trans h2
theorem prod_map (a : Nat) : ∀ l : List Nat, prod (l.map fun i => a * i % p) % p = a ^ l.length * prod l % p
  | [] => by simp [prod]
  | x :: l => by
    show (a * x % p) * prod (l.map fun i => a * i % p) % p = a ^ (l.length + 1) * (x * prod l) % p
    rw [Nat.mul_mod, prod_map a l, Nat.mod_mod, ← Nat.mul_mod]
    congr 1
    rw [Nat.pow_succ]
    simp only [Nat.mul_assoc, Nat.mul_left_comm, Nat.mul_comm]
theorem prod_no : ∀ l : List Nat, (∀ x ∈ l, ¬ p ∣ x) → ¬ p ∣ prod l
  | [], _ => by decide
  | x :: l, h => fun hd => by
    rcases euclid (show p ∣ x * prod l from hd) with z | z
    · exact h x (by simp) z
    · exact prod_no l (fun y hy => h y (by simp [hy])) z
/-! ### Fermat -/
/-- a map of the numbers 1 .. p - 1 into themselves that parts them is onto -/
theorem onto {l : List Nat} (hn : l.Nodup) (hs : ∀ x ∈ l, 1 ≤ x ∧ x < p) (hl : l.length = p - 1) {x : Nat} (h1 : 1 ≤ x) (h2 : x < p) : x ∈ l := by
  by_cases h : x ∈ l
  · exact h
  · have h3 : (x :: l).Nodup := List.nodup_cons.mpr ⟨h, hn⟩
    have h4 : (x :: l) ⊆ List.range' 1 (p - 1) := fun y hy => by
      rw [List.mem_range'_1]
      rcases List.mem_cons.mp hy with z | z
      · subst z; exact ⟨h1, by simp only [p] at *; omega⟩
      · have := hs y z; exact ⟨this.1, by simp only [p] at *; omega⟩
    have h5 := h3.length_le_of_subset h4
    rw [List.length_cons, List.length_range', hl] at h5
    omega
theorem nodup_map {f : Nat → Nat} {l : List Nat} (hn : l.Nodup) (hf : ∀ x ∈ l, ∀ y ∈ l, f x = f y → x = y) : (l.map f).Nodup := by
  rw [List.Nodup, List.pairwise_map]
  exact hn.imp_of_mem fun {a b} ha hb hab e => hab (hf a ha b hb e)
theorem fermat {a : Nat} (ha : ¬ p ∣ a) : a ^ (p - 1) % p = 1 := by
  generalize hL : List.range' 1 (p - 1) = L
  have mem : ∀ x, x ∈ L ↔ 1 ≤ x ∧ x < p := fun x => by
    rw [← hL, List.mem_range'_1]
    simp only [p]
  have nd : L.Nodup := by rw [← hL]; exact List.nodup_range' 1
  have len : L.length = p - 1 := by rw [← hL, List.length_range']
  have nm : (L.map fun i => a * i % p).Nodup := nodup_map nd fun x hx y hy e => by
    have := cancel ha e
    rwa [Nat.mod_eq_of_lt ((mem x).mp hx).2, Nat.mod_eq_of_lt ((mem y).mp hy).2] at this
  have sub : ∀ x ∈ L.map fun i => a * i % p, 1 ≤ x ∧ x < p := fun x hx => by
    obtain ⟨i, hi, rfl⟩ := List.mem_map.mp hx
    refine ⟨?_, Nat.mod_lt _ (by decide)⟩
    by_cases h0 : a * i % p = 0
    · rcases euclid (Nat.dvd_of_mod_eq_zero h0) with z | z
      · exact absurd z ha
      · have := (mem i).mp hi
        have := dvd_small z this.2
        omega
    · omega
  have hp : (L.map fun i => a * i % p).Perm L := (List.perm_ext_iff_of_nodup nm nd).mpr fun x => ⟨fun h => (mem x).mpr (sub x h), fun h => onto nm sub (by rw [List.length_map, len]) ((mem x).mp h).1 ((mem x).mp h).2⟩
  have h1 := prod_map a L
  rw [prod_perm hp, len] at h1
  have h2 : prod L * (a ^ (p - 1)) % p = prod L * 1 % p := by rw [Nat.mul_comm, Nat.mul_one, ← h1]
  have h3 := cancel (prod_no L fun x hx z => by
    have := (mem x).mp hx
    have := dvd_small z this.2
    omega) h2
  rw [h3]
  rfl
/-! ### the fifth power, there and back -/
def stirN (x : Nat) : Nat := (x ^ 5 + 271829) % p
theorem pow_root {x : Nat} (h : x < p) : x ^ (5 * 799999949) % p = x := by
  by_cases h0 : x = 0
  · subst h0
    rw [Nat.zero_pow (by decide)]
    rfl
  · have ha : ¬ p ∣ x := fun z => h0 (dvd_small z h)
    have e : 5 * 799999949 = (p - 1) * 4 + 1 := by decide
    rw [e, Nat.pow_succ, Nat.pow_mul, Nat.mul_mod, Nat.pow_mod, fermat ha, Nat.one_pow, show 1 % p = 1 from rfl, Nat.one_mul, Nat.mod_mod, Nat.mod_eq_of_lt h]
def unstirN (y : Nat) : Nat := ((y + (p - 271829)) % p) ^ 799999949 % p
theorem unstir_stir {x : Nat} (h : x < p) : unstirN (stirN x) = x := by
  unfold unstirN stirN
  have e : ((x ^ 5 + 271829) % p + (p - 271829)) % p = x ^ 5 % p := by
    rw [Nat.mod_add_mod, Nat.add_assoc, show 271829 + (p - 271829) = p from by decide, Nat.add_mod_right]
  rw [e, ← Nat.pow_mod, ← Nat.pow_mul, pow_root h]
theorem stir_unstir {y : Nat} (h : y < p) : stirN (unstirN y) = y := by
  unfold unstirN stirN
  have hz : (y + (p - 271829)) % p < p := Nat.mod_lt _ (by decide)
  have e : (((y + (p - 271829)) % p) ^ 799999949 % p) ^ 5 % p = (y + (p - 271829)) % p := by
    rw [← Nat.pow_mod, ← Nat.pow_mul, Nat.mul_comm, pow_root hz]
  rw [Nat.add_mod, e, ← Nat.add_mod, Nat.add_assoc, show p - 271829 + 271829 = p from by decide, Nat.add_mod_right, Nat.mod_eq_of_lt h]
theorem stir_inj {x y : Nat} (hx : x < p) (hy : y < p) (h : stirN x = stirN y) : x = y := by
  rw [← unstir_stir hx, ← unstir_stir hy, h]
end Pm
set_option linter.all false
set_option maxRecDepth 100000
set_option maxHeartbeats 4000000
set_option exponentiation.threshold 500
namespace Pg
open Pm
/-- a power by squares, to be reckoned -/
def mp : Nat → Nat → Nat → Nat → Nat
  | 0, r, s, e => r * s ^ e % p
  | k + 1, r, s, e => if e = 0 then r % p else mp k (if e % 2 = 1 then r * s % p else r) (s * s % p) (e / 2)
theorem half {r s e : Nat} : (if e % 2 = 1 then r * s % p else r) * (s * s % p) ^ (e / 2) % p = r * s ^ e % p := by
  rw [Nat.mul_mod, ← Nat.pow_mod, ← Nat.mul_mod]
  have e1 : s ^ e = (s * s) ^ (e / 2) * s ^ (e % 2) := by
    rw [show s * s = s ^ 2 from (Nat.pow_two s).symm, ← Nat.pow_mul, ← Nat.pow_add, Nat.div_add_mod]
  split
  · rename_i h1
    rw [e1, h1, Nat.pow_one, Nat.mod_mul_mod]
    congr 1
    rw [Nat.mul_assoc, Nat.mul_comm s]
  · rename_i h1
    have h0 : e % 2 = 0 := by omega
    rw [e1, h0, Nat.pow_zero, Nat.mul_one]
theorem mp_eq : ∀ {k r s e : Nat}, mp k r s e = r * s ^ e % p
  | 0, _, _, _ => rfl
  | k + 1, r, s, e => by
    unfold mp
    split
    · rename_i h; rw [h, Nat.pow_zero, Nat.mul_one]
    · rw [mp_eq, half]
theorem pw {s e : Nat} (k : Nat) : s ^ e % p = mp k 1 s e := by rw [mp_eq, Nat.one_mul]
theorem p_eq : p = 999999937 := rfl
/-! ### orders -/
theorem no_pow {a : Nat} (ha : ¬ p ∣ a) : ∀ k : Nat, ¬ p ∣ a ^ k
  | 0 => fun z => by rw [Nat.pow_zero] at z; have := Nat.le_of_dvd (by decide) z; exact absurd this (by decide)
  | k + 1 => fun z => by
    rw [Nat.pow_succ] at z
    rcases euclid z with y | y
    · exact no_pow ha k y
    · exact ha y
theorem ord {h P : Nat} (h1 : h ^ P % p = 1) (hP : 0 < P) (h2 : ∀ t < P, h ^ t % p = 1 → t = 0) {k : Nat} (hk : h ^ k % p = 1) : k % P = 0 := by
  refine h2 _ (Nat.mod_lt _ hP) ?_
  rw [← hk]
  conv => rhs; rw [← Nat.div_add_mod k P, Nat.pow_add, Nat.pow_mul, Nat.mul_mod, Nat.pow_mod (h ^ P), h1, Nat.one_pow]
  rw [show 1 % p = 1 from by decide, Nat.one_mul, Nat.mod_mod]
theorem inj1 {h P a b : Nat} (hz : ¬ p ∣ h) (h1 : h ^ P % p = 1) (hP : 0 < P) (h2 : ∀ t < P, h ^ t % p = 1 → t = 0) (hab : a ≤ b) (he : h ^ a % p = h ^ b % p) : a % P = b % P := by
  obtain ⟨d, rfl⟩ := Nat.exists_eq_add_of_le hab
  have e : h ^ a * 1 % p = h ^ a * h ^ d % p := by rw [Nat.mul_one, ← Nat.pow_add]; exact he
  have e2 := cancel (no_pow hz a) e
  have e3 := ord h1 hP h2 (k := d) (by rw [← e2]; decide)
  rw [Nat.add_mod, e3, Nat.add_zero, Nat.mod_mod]
theorem inj {h P a b : Nat} (hz : ¬ p ∣ h) (h1 : h ^ P % p = 1) (hP : 0 < P) (h2 : ∀ t < P, h ^ t % p = 1 → t = 0) (he : h ^ a % p = h ^ b % p) : a % P = b % P := by
  rcases Nat.le_total a b with x | x
  · exact inj1 hz h1 hP h2 x he
  · exact (inj1 hz h1 hP h2 x he.symm).symm
/-! ### the parts of the ring -/
def parts : List Nat := [64, 9, 13, 83, 1609]
def shr (P : Nat) : Nat := 999999936 / P
def inv : Nat → Nat
  | 64 => 23
  | 9 => 5
  | 13 => 8
  | 83 => 33
  | 1609 => 116
  | _ => 1
theorem parts_mul : ∀ P ∈ parts, shr P * P = p - 1 ∧ 0 < P ∧ P < 2000 ∧ 1 ≤ inv P ∧ inv P ≤ 116 ∧ inv P * shr P % P = 1 ∧ shr P < 999999937 := by decide +kernel
theorem parts_inv : ∀ P ∈ parts, ∀ c, c < inv P → 1 ≤ c → c * shr P % P ≠ 1 := by decide +kernel
theorem parts_pow : ∀ P ∈ parts, mp 40 1 48274 (shr P) = (if P = 64 then 177526091 else if P = 9 then 529298157 else if P = 13 then 432339058 else if P = 83 then 708878908 else 480708104) := by decide +kernel
def gen (P : Nat) : Nat := if P = 64 then 177526091 else if P = 9 then 529298157 else if P = 13 then 432339058 else if P = 83 then 708878908 else 480708104
theorem gen_eq {P : Nat} (h : P ∈ parts) : 48274 ^ shr P % p = gen P := by rw [pw 40, parts_pow P h]; rfl
/-- is there a 1 among the next k powers -/
def noOne : Nat → Nat → Nat → Bool
  | 0, _, _ => true
  | k + 1, h, r => r != 1 && noOne k h (r * h % p)
theorem noOne_ok : ∀ {k h r : Nat}, noOne k h r = true → ∀ t < k, r * h ^ t % p ≠ 1 ∨ r ≥ p
  | k + 1, h, r, e, t, ht => by
    unfold noOne at e
    simp only [Bool.and_eq_true, bne_iff_ne, ne_eq] at e
    match t with
    | 0 =>
      rw [Nat.pow_zero, Nat.mul_one]
      rcases Nat.lt_or_ge r p with x | x
      · rw [Nat.mod_eq_of_lt x]; exact .inl e.1
      · exact .inr x
    | t + 1 =>
      rcases noOne_ok e.2 t (by omega) with x | x
      · refine .inl ?_
        rw [Nat.mod_mul_mod, Nat.mul_assoc, ← Nat.pow_succ'] at x
        exact x
      · exact absurd (Nat.mod_lt (r * h) (show p > 0 by decide)) (by omega)
theorem parts_ord : ∀ P ∈ parts, noOne (P - 1) (gen P) (gen P) = true := by decide +kernel
theorem gen_lt : ∀ P ∈ parts, gen P < p ∧ 0 < gen P := by decide +kernel
theorem gen_no {P : Nat} (h : P ∈ parts) : ∀ t < P, gen P ^ t % p = 1 → t = 0 := by
  intro t ht e
  match t with
  | 0 => rfl
  | t + 1 =>
    rcases noOne_ok (parts_ord P h) t (by omega) with x | x
    · rw [← Nat.pow_succ'] at x; exact absurd e x
    · exact absurd (gen_lt P h).1 (by omega)
theorem f_no : ¬ p ∣ 48274 := fun z => absurd (Nat.le_of_dvd (by decide) z) (by decide)
theorem gen_nd {P : Nat} (h : P ∈ parts) : ¬ p ∣ gen P := fun z => by
  have := Nat.le_of_dvd (gen_lt P h).2 z
  have := (gen_lt P h).1
  omega
theorem f_one : 48274 ^ (p - 1) % p = 1 := fermat f_no
theorem gen_one {P : Nat} (h : P ∈ parts) : gen P ^ P % p = 1 := by
  rw [← gen_eq h, ← Nat.pow_mod, ← Nat.pow_mul, (parts_mul P h).1]
  exact f_one
theorem part_inj {P a b : Nat} (h : P ∈ parts) (e : gen P ^ a % p = gen P ^ b % p) : a % P = b % P := inj (gen_nd h) (gen_one h) (parts_mul P h).2.1 (gen_no h) e
theorem share {P x : Nat} (h : P ∈ parts) : (48274 ^ x % p) ^ shr P % p = gen P ^ x % p := by
  rw [← gen_eq h, ← Nat.pow_mod, ← Nat.pow_mod, ← Nat.pow_mul, ← Nat.pow_mul, Nat.mul_comm]
theorem share' {P r : Nat} (h : P ∈ parts) : 48274 ^ (r * shr P) % p = gen P ^ r % p := by rw [← share h, ← Nat.pow_mod, ← Nat.pow_mul]
theorem log_mod {a b : Nat} (e : 48274 ^ a % p = 48274 ^ b % p) {P : Nat} (h : P ∈ parts) : a % P = b % P := by
  refine part_inj h ?_
  rw [← share h, ← share h, e]
theorem crt1 {a b : Nat} (hab : a ≤ b) (h : ∀ P ∈ parts, a % P = b % P) : a % 999999936 = b % 999999936 := by
  have z : ∀ P ∈ parts, P ∣ b - a := fun P hP => Nat.dvd_of_mod_eq_zero (Nat.sub_mod_eq_zero_of_mod_eq (h P hP).symm)
  have h1 := Nat.Coprime.mul_dvd_of_dvd_of_dvd (by decide +kernel) (z 64 (by decide)) (z 9 (by decide))
  have h2 := Nat.Coprime.mul_dvd_of_dvd_of_dvd (by decide +kernel) h1 (z 13 (by decide))
  have h3 := Nat.Coprime.mul_dvd_of_dvd_of_dvd (by decide +kernel) h2 (z 83 (by decide))
  have h4 := Nat.Coprime.mul_dvd_of_dvd_of_dvd (by decide +kernel) h3 (z 1609 (by decide))
  obtain ⟨q, hq⟩ := h4
  have e : b = a + 999999936 * q := by omega
  rw [e, Nat.add_mul_mod_self_left]
theorem crt {a b : Nat} (h : ∀ P ∈ parts, a % P = b % P) : a % 999999936 = b % 999999936 := by
  rcases Nat.le_total a b with x | x
  · exact crt1 x h
  · exact (crt1 x fun P hP => (h P hP).symm).symm
theorem log_inj {a b : Nat} (e : 48274 ^ a % p = 48274 ^ b % p) : a % 999999936 = b % 999999936 := crt fun P h => log_mod e h
theorem log_ex {r : Nat} (h1 : 1 ≤ r) (h2 : r < p) : ∃ x < 999999936, 48274 ^ x % p = r := by
  have m := onto (l := (List.range 999999936).map fun x => 48274 ^ x % p) (nodup_map List.nodup_range fun x hx y hy e => by
      have := log_inj e
      rw [List.mem_range] at hx hy
      rwa [Nat.mod_eq_of_lt hx, Nat.mod_eq_of_lt hy] at this) (fun x hx => by
      obtain ⟨k, _, rfl⟩ := List.mem_map.mp hx
      refine ⟨Nat.pos_of_ne_zero fun z => no_pow f_no k (Nat.dvd_of_mod_eq_zero z), Nat.mod_lt _ (by decide)⟩) (by rw [List.length_map, List.length_range]; rfl) h1 h2
  obtain ⟨x, hx, e⟩ := List.mem_map.mp m
  exact ⟨x, List.mem_range.mp hx, e⟩
/-! ### the sum of the shares -/
def summed (x : Nat) : Nat → Nat
  | 0 => 0
  | i + 1 => summed x i + x % parts.getD i 1 * shr (parts.getD i 1) * inv (parts.getD i 1)
theorem summed5 (x : Nat) : summed x 5 = 0 + x % 64 * 15624999 * 23 + x % 9 * 111111104 * 5 + x % 13 * 76923072 * 8 + x % 83 * 12048192 * 33 + x % 1609 * 621504 * 116 := rfl
theorem summed_ok {x : Nat} (h : x < 999999936) : summed x 5 % 999999936 = x := by
  rw [summed5]
  conv => rhs; rw [← Nat.mod_eq_of_lt h]
  refine crt fun P hP => ?_
  have h1 : P = 64 ∨ P = 9 ∨ P = 13 ∨ P = 83 ∨ P = 1609 := by simpa [parts] using hP
  rcases h1 with rfl | rfl | rfl | rfl | rfl <;> omega
/-! ### lucks: how far from the still one -/
def sh (x : Nat) : Nat := (x + 50980882) % 999999937
def al (x m : Nat) : Nat := (sh x * 48274 ^ m + 949019055) % 999999937
theorem al_lt (x m : Nat) : al x m < 999999937 := Nat.mod_lt _ (by decide)
theorem sh_al (x m : Nat) : sh (al x m) = sh x * 48274 ^ m % 999999937 := by
  unfold al
  generalize sh x * 48274 ^ m = A
  unfold sh
  omega
theorem sh_inj {x y : Nat} (hx : x < 999999937) (hy : y < 999999937) (h : sh x = sh y) : x = y := by
  unfold sh at h
  omega
theorem sh_lt (x : Nat) : sh x < 999999937 := Nat.mod_lt _ (by decide)
theorem sh_zero {x : Nat} (hx : x < 999999937) : sh x = 0 ↔ x = 949019055 := by
  unfold sh
  omega
theorem sh_nd {x : Nat} (hx : x < 999999937) (h : x ≠ 949019055) : ¬ p ∣ sh x := fun z => h ((sh_zero hx).mp (dvd_small z (sh_lt x)))
theorem al_of {x y m : Nat} (hy : y < 999999937) (h : sh x * 48274 ^ m % 999999937 = sh y) : al x m = y := sh_inj (al_lt x m) hy (by rw [sh_al, h])
theorem al_al (x m k : Nat) : al (al x m) k = al x (m + k) := sh_inj (al_lt _ _) (al_lt _ _) (by rw [sh_al, sh_al, sh_al, Nat.mod_mul_mod, Nat.pow_add, Nat.mul_assoc])
theorem al_one {x m : Nat} (hx : x < 999999937) (h : 48274 ^ m % p = 1) : al x m = x := al_of hx (by
  rw [Nat.mul_mod, show 48274 ^ m % 999999937 = 1 from h, Nat.mul_one, Nat.mod_mod]
  exact Nat.mod_eq_of_lt (sh_lt x))
theorem pow_round (m : Nat) : 48274 ^ m % p = 48274 ^ (m % (p - 1)) % p := by
  conv => lhs; rw [← Nat.div_add_mod m (p - 1), Nat.pow_add, Nat.pow_mul, Nat.mul_mod, Nat.pow_mod (48274 ^ (p - 1)), f_one, Nat.one_pow]
  rw [show 1 % p = 1 from by decide, Nat.one_mul, Nat.mod_mod]
theorem al_round {x m : Nat} (hx : x < 999999937) (h : m % 999999936 = 0) : al x m = x := al_one hx (by
  rw [pow_round, show m % (p - 1) = 0 from h]; rfl)
theorem al_eq {x m k : Nat} (h : 48274 ^ m % p = 48274 ^ k % p) : al x m = al x k := sh_inj (al_lt _ _) (al_lt _ _) (by
  rw [sh_al, sh_al, Nat.mul_mod, show 48274 ^ m % 999999937 = 48274 ^ k % 999999937 from h, ← Nat.mul_mod])
theorem al_back {x m k : Nat} (hx : x < 999999937) (h : (m + k) % 999999936 = 0) : al (al x m) k = x := by rw [al_al, al_round hx h]
theorem al_inj {x m k : Nat} (hx : x < 999999937) (h : x ≠ 949019055) (e : al x m = al x k) : m % 999999936 = k % 999999936 := by
  have e1 := congrArg sh e
  rw [sh_al, sh_al] at e1
  exact log_inj (cancel (sh_nd hx h) e1)
theorem al_still (m : Nat) : al 949019055 m = 949019055 := al_of (by decide) (by rw [show sh 949019055 = 0 from by decide, Nat.zero_mul])
theorem al_moves {x m : Nat} (hx : x < 999999937) (h : x ≠ 949019055) : al x m ≠ 949019055 := fun e => by
  have e1 := congrArg sh e
  rw [sh_al, show sh 949019055 = 0 from by decide] at e1
  rcases euclid (Nat.dvd_of_mod_eq_zero e1) with z | z
  · exact sh_nd hx h z
  · exact no_pow f_no m z
theorem al_next (x : Nat) : (48274 * x + 271829) % 999999937 = al x 1 := by
  unfold al sh
  rw [Nat.pow_one]
  omega
theorem pow_last (a : Nat) : a ^ (p - 1) = a ^ 999999935 * a := Nat.pow_succ (n := a) (m := 999999935)
/-- what is left of two lucks, for the one that leads from the first to the second -/
theorem ratio {x y m : Nat} (hx : x < 999999937) (h : x ≠ 949019055) (e : al x m = y) : sh y * sh x ^ 999999935 % p = 48274 ^ m % p := by
  rw [← e, sh_al, Nat.mod_mul_mod]
  have e1 : sh x * 48274 ^ m * sh x ^ 999999935 = 48274 ^ m * sh x ^ (p - 1) := by
    rw [pow_last]; generalize sh x ^ 999999935 = u; rw [Nat.mul_comm (sh x) (48274 ^ m), Nat.mul_assoc, Nat.mul_comm (sh x)]
  rw [e1, Nat.mul_mod, fermat (sh_nd hx h), Nat.mul_one, Nat.mod_mod]
theorem leads {x y : Nat} (hx : x < 999999937) (hy : y < 999999937) (h : x ≠ 949019055) (h' : y ≠ 949019055) : ∃ m < 999999936, al x m = y := by
  have nz : ¬ p ∣ sh y * sh x ^ 999999935 := fun z => by
    rcases euclid z with z | z
    · exact sh_nd hy h' z
    · exact no_pow (sh_nd hx h) _ z
  obtain ⟨m, hm, e⟩ := log_ex (r := sh y * sh x ^ 999999935 % p) (Nat.pos_of_ne_zero fun z => nz (Nat.dvd_of_mod_eq_zero z)) (Nat.mod_lt _ (by decide))
  refine ⟨m, hm, al_of hy ?_⟩
  rw [Nat.mul_mod, show 48274 ^ m % 999999937 = sh y * sh x ^ 999999935 % 999999937 from e, ← Nat.mul_mod]
  have e1 : sh x * (sh y * sh x ^ 999999935) = sh y * sh x ^ (p - 1) := by
    rw [pow_last]; generalize sh x ^ 999999935 = u; rw [Nat.mul_left_comm, Nat.mul_comm (sh x)]
  rw [e1, Nat.mul_mod, show sh x ^ (p - 1) % 999999937 = 1 from fermat (sh_nd hx h), Nat.mul_one, Nat.mod_mod]
  exact Nat.mod_eq_of_lt (sh_lt y)
theorem sh_cases (x : Nat) (hx : x < 999999937) : sh x = x + 50980882 ∨ sh x + 999999937 = x + 50980882 := by
  unfold sh
  omega
theorem al_int {x m : Nat} (hx : x < 999999937) : (((x : Int) - 949019055) * ((48274 ^ m % p : Nat) : Int) + 949019055) % 999999937 = (al x m : Nat) := by
  have e : al x m = (sh x * (48274 ^ m % p) + 949019055) % 999999937 := by
    unfold al
    rw [Nat.add_mod, Nat.mul_mod, Nat.add_mod (sh x * (48274 ^ m % p)), Nat.mul_mod (sh x) (48274 ^ m % p)]
    rw [show 48274 ^ m % p % 999999937 = 48274 ^ m % 999999937 from Nat.mod_mod _ _]
  rw [e]
  generalize 48274 ^ m % p = F
  have h2 : ∃ c : Int, (x : Int) - 949019055 = (sh x : Int) + 999999937 * c := by
    rcases sh_cases x hx with z | z
    · exact ⟨-1, by omega⟩
    · exact ⟨0, by omega⟩
  obtain ⟨c, hc⟩ := h2
  rw [hc, Int.natCast_emod, Int.natCast_add, Int.natCast_mul, Int.add_mul, Int.mul_assoc, Int.add_right_comm]
  exact Int.add_mul_emod_self_left ..
theorem sh_int {x : Nat} (hx : x < 999999937) : (((x : Int) - 949019055) % 999999937).toNat = sh x := by
  unfold sh
  omega
/-! ### lines -/
/-- A x + B is e steps -/
def Good (e A B : Nat) : Prop := A = 48274 ^ e % p ∧ (A * 949019055 + B) % 999999937 = 949019055 ∧ B < 999999937
theorem good_lt {e A B : Nat} (h : Good e A B) : A < 999999937 := by rw [h.1]; exact Nat.mod_lt _ (by decide)
theorem good0 : Good 0 1 0 := by unfold Good; decide
theorem good1 : Good 1 48274 271829 := by unfold Good; decide
theorem good_add {e1 e2 A1 B1 A2 B2 : Nat} (h1 : Good e1 A1 B1) (h2 : Good e2 A2 B2) : Good (e1 + e2) (A1 * A2 % p) ((B1 * A2 + B2) % p) := by
  refine ⟨by rw [h1.1, h2.1, ← Nat.mul_mod, Nat.pow_add], ?_, Nat.mod_lt _ (by decide)⟩
  have e : A2 * (A1 * 949019055 + B1) + B2 = A1 * A2 * 949019055 + (B1 * A2 + B2) := by
    rw [Nat.mul_add, ← Nat.mul_assoc, Nat.mul_comm A2 A1, Nat.mul_comm A2 B1, Nat.add_assoc]
  rw [p_eq, Nat.add_mod_mod, Nat.add_mod, Nat.mod_mul_mod, ← Nat.add_mod, ← e, Nat.add_mod, Nat.mul_mod, h1.2.1]
  have h3 := h2.2.1
  rw [Nat.mul_comm] at h3
  omega
theorem good_led {e A B x : Nat} (h : Good e A B) (hx : x < 999999937) : (A * x + B) % 999999937 = al x e := by
  have hA := h.1
  have e1 : al x e = (sh x * A + 949019055) % 999999937 := by
    unfold al
    rw [hA, Nat.add_mod, Nat.mul_mod, Nat.add_mod (sh x * (48274 ^ e % p)), Nat.mul_mod (sh x) (48274 ^ e % p)]
    rw [show 48274 ^ e % p % 999999937 = 48274 ^ e % 999999937 from Nat.mod_mod _ _]
  rw [e1]
  have h2 := h.2.1
  clear hA e1
  rcases sh_cases x hx with z | z
  · rw [z, Nat.add_mul, Nat.mul_comm x A]
    generalize A * x = y
    omega
  · have z2 : sh x * A + 999999937 * A = A * x + 50980882 * A := by rw [← Nat.add_mul, z, Nat.add_mul, Nat.mul_comm x A]
    generalize sh x * A = u at *
    generalize A * x = y at *
    omega
end Pg
set_option Elab.async false
set_option linter.all false
set_option maxRecDepth 100000
set_option maxHeartbeats 4000000
namespace Vr
open PySem PySem.Spec PyProof.Rows L2 Evl
/-! ### rules of calls whose answer is one -/
section
variable {X : Cx}
def rI1 (g : Int → V) : List V → Hp → VK → Prop := fun xs H Q => ∃ i, xs = [.int i] ∧ Q (g i) H
def rB1 (g : Bool → V) : List V → Hp → VK → Prop := fun xs H Q => ∃ i, xs = [.bl i] ∧ Q (g i) H
def rI2 (g : Int → Int → V) : List V → Hp → VK → Prop := fun xs H Q => ∃ i j, xs = [.int i, .int j] ∧ Q (g i j) H
theorem callR_mono {f : Value} {r r' : List V → Hp → VK → Prop} (h : CallR X f r) (k : ∀ vs H Q, r' vs H Q → r vs H Q) : CallR X f r' :=
  fun pins s σ H xs us Q I rv q => h pins s σ H xs us Q I rv (k _ _ _ q)
theorem c_int : CallR X (.type "int") (rI1 fun i => .int i) := callR_mono call_int1 fun _ _ _ h => .inl h
theorem c_intB : CallR X (.type "int") (rB1 fun k => .int (if k then 1 else 0)) := callR_mono call_int1 fun _ _ _ h => .inr h
theorem c_abs : CallR X (.builtin "abs") (rI1 fun i => .int (if i < 0 then -i else i)) := call_abs
theorem c_max (hc : X.calm = true) : CallR X (.builtin "max") (rI2 fun i j => .int (if j > i then j else i)) := call_max2 hc
theorem c_min (hc : X.calm = true) : CallR X (.builtin "min") (rI2 fun i j => .int (if j < i then j else i)) := call_min2 hc
def rRepr : List V → Hp → VK → Prop := fun xs H Q => ∃ i : Int, xs = [.int i] ∧ i.natAbs.log2 < 1920 ∧ Q (.str (toString i)) H
theorem c_repr : CallR X (.builtin "repr") rRepr := SkE.call_repr_int
theorem c_len : CallR X (.builtin "len") (rLenS X.K) := call_len_seq
end
section
variable {K : PySem.W.Frag} {σ : L2.St} {H H' : Hp} {ta tb tc te : TE} {t u : TT} {x y z v : V} {r r' : R2} {D : Ends}
theorem sc_mul {i j : Int} (h : -18446744073709551616 < i ∧ i < 18446744073709551616) : CMul i j := .inl h
theorem sc_div {i j : Int} (h : 0 < j) (h2 : j.natAbs.log2 < 9000) : CDivW i j := ⟨h, h2⟩
theorem rc_I1 {g : Int → V} {i : Int} : RC (rI1 g) [.int i] H (g i) := fun H1 _ _ q => ⟨i, rfl, q H1 (Ex.refl H1)⟩
theorem rc_B1 {g : Bool → V} {i : Bool} : RC (rB1 g) [.bl i] H (g i) := fun H1 _ _ q => ⟨i, rfl, q H1 (Ex.refl H1)⟩
theorem rc_I2 {g : Int → Int → V} {i j : Int} : RC (rI2 g) [.int i, .int j] H (g i j) := fun H1 _ _ q => ⟨i, j, rfl, q H1 (Ex.refl H1)⟩
theorem rc_repr {i : Int} (h : i.natAbs.log2 < 1920) : RC rRepr [.int i] H (.str (toString i)) := fun H1 _ _ q => ⟨i, rfl, h, q H1 (Ex.refl H1)⟩
theorem rc_lenL {p : Addr} {xs : List V} (h : SqL K H p xs) : RC (rLenS K) [.ref p] H (.int (xs.length : Int)) := fun H1 e _ q => ⟨p, xs, rfl, .inl (ex_l e h), q H1 (Ex.refl H1)⟩
theorem ev_chain {a b : Bool} (h1 : Ev ta σ H x) (h2 : Ev tb σ H y) (r1 : RV r x y H (.bl a)) (h3 : Ev tc σ H z) (r2 : RV r' y z H (.bl b)) : Ev (tChain r r' ta tb tc) σ H (.bl (a && b)) := fun H1 e Q q =>
  h1 H1 e _ fun H2 e2 => h2 H2 (e.trans e2) _ fun H3 e3 => r1 H3 ((e.trans e2).trans e3) _ fun H4 e4 => ⟨a, rfl, by
    cases a with
    | true =>
      rw [if_pos rfl]
      exact h3 H4 (((e.trans e2).trans e3).trans e4) _ fun H5 e5 => r2 H5 ((((e.trans e2).trans e3).trans e4).trans e5) _ fun H6 e6 => q H6 ((((e2.trans e3).trans e4).trans e5).trans e6)
    | false =>
      rw [if_neg Bool.false_ne_true]
      exact q H4 ((e2.trans e3).trans e4)⟩
/-- an expression that evaluates, then what follows -/
theorem go {Q : VK} (h : Ev te σ H v) (k : ∀ H1, Ex H H1 → Q v H1) : te σ H Q := h H (Ex.refl H) Q k
theorem goT {b : Bool} {Q : Bool → Hp → Prop} (h : EvT t σ H b) (k : ∀ H1, Ex H H1 → Q b H1) : t σ H Q := h H (Ex.refl H) Q k
theorem goA {ts : TA} {vs : List V} {Q : List V → Hp → Prop} (h : EvA ts σ H vs) (k : ∀ H1, Ex H H1 → Q vs H1) : ts σ H Q := h H (Ex.refl H) Q k
/-! ### promises of defs that answer by their arguments, whatever else they make -/
def Pure (ok : List V → Hp → V → Prop) : Sp := fun vs H Q _ => ∃ z, ok vs H z ∧ ∀ H', Ex H H' → Q z H'
theorem ev_callP {ok : List V → Hp → V → Prop} {E : XK} {ts : TA} {vs : List V} (h : EvA ts σ H vs) (ho : ∀ H1, Ex H H1 → ok vs H1 z) : Ev (tCall (Pure ok) [] E ts) σ H z := fun H1 e Q q =>
  h H1 e _ fun H2 e2 => by
    show Pure ok (vs ++ []) H2 Q E
    rw [List.append_nil]
    exact ⟨z, ho H2 (e.trans e2), fun H3 e3 => q H3 (e2.trans e3)⟩
theorem fin {Q : VK} (k : ∀ H', Ex H H' → Q z H') (e : Ex H H') : Q z H' := k H' e
/-! ### the dice: a list of three ints at p, all else as it was -/
def Exd (p : Addr) (H H' : Hp) : Prop := ∀ a o, a ≠ p → H a = some o → H' a = some o
theorem Exd.refl (p : Addr) (H : Hp) : Exd p H H := fun _ _ _ h => h
theorem Exd.trans {p : Addr} {H H1 H2 : Hp} (a : Exd p H H1) (b : Exd p H1 H2) : Exd p H H2 := fun c o n h => b c o n (a c o n h)
theorem Exd.of {p : Addr} (e : Ex H H') : Exd p H H' := fun a o _ h => e a o h
theorem Exd.upd {p : Addr} {o : HO} : Exd p H (upd H p o) := fun a u n h => by rw [upd_ne n]; exact h
def Dice (p : Addr) (H : Hp) : Prop := ∃ a b c : Int, H p = some (.lst [.int a, .int b, .int c])
theorem Dice.ex {p : Addr} (e : Ex H H') (d : Dice p H) : Dice p H' := by
  obtain ⟨a, b, c, h⟩ := d
  exact ⟨a, b, c, e _ _ h⟩
theorem Exd.l {p a : Addr} {xs : List V} (e : Exd p H H') (n : a ≠ p) (h : SqL K H a xs) : SqL K H' a xs := by
  rcases h with (h | ⟨o, h⟩) | h
  · exact .inl (.inl (e _ _ n h))
  · exact .inl (.inr ⟨o, e _ _ n h⟩)
  · exact .inr h
/-! ### more values -/
theorem ev_ite {b : Bool} {v1 v2 : V} (h : EvT t σ H b) (h1 : b = true → Ev ta σ H v1) (h2 : b = false → Ev tb σ H v2) : Ev (tIf t ta tb) σ H (if b = true then v1 else v2) :=
  ev_if h (fun e => by rw [if_pos e]; exact h1 e) (fun e => by rw [if_neg (by rw [e]; exact Bool.false_ne_true)]; exact h2 e)
theorem ev_pow {a b c : Int} (h : 0 ≤ b ∧ b ≤ 1000000 ∧ a.natAbs < 2 ^ 64) (e : a ^ b.toNat = c) : Ev (tOp (rI CPow fun i j => .int (i ^ j.toNat)) (tC (.int a)) (tC (.int b))) σ H (.int c) := by
  rw [← e]
  exact ev_op ev_c ev_c (rv_I h)
/-- the type of a value, and what isinstance says of int and bool -/
def isIB : V → Bool
  | .int _ => true
  | .bl _ => true
  | _ => false
def isB : V → Bool
  | .bl _ => true
  | _ => false
def isS : V → Bool
  | .str _ => true
  | _ => false
/-- a plain value: its type is a built-in one -/
def Plain (K : PySem.W.Frag) (H : Hp) (x : V) : Prop := ∃ n, TyX K H x (.type n)
theorem isi_int {n : String} (h : TyX K H x (.type n)) : PySem.W.kitOne K (.type n) (.type "int") = some (isIB x) := by
  cases h with
  | base b => cases b <;> first | exact kit_ty (r := false) (by decide +kernel) | exact kit_ty (r := true) (by decide +kernel)
  | byt _ => first | exact kit_ty (r := false) (by decide +kernel) | exact kit_ty (r := true) (by decide +kernel)
  | set _ => first | exact kit_ty (r := false) (by decide +kernel) | exact kit_ty (r := true) (by decide +kernel)
  | kList _ _ => first | exact kit_ty (r := false) (by decide +kernel) | exact kit_ty (r := true) (by decide +kernel)
  | kTuple _ _ => first | exact kit_ty (r := false) (by decide +kernel) | exact kit_ty (r := true) (by decide +kernel)
  | kDict _ _ => first | exact kit_ty (r := false) (by decide +kernel) | exact kit_ty (r := true) (by decide +kernel)
  | fTuple _ => first | exact kit_ty (r := false) (by decide +kernel) | exact kit_ty (r := true) (by decide +kernel)
  | fDict _ => first | exact kit_ty (r := false) (by decide +kernel) | exact kit_ty (r := true) (by decide +kernel)
theorem isi_bool {n : String} (h : TyX K H x (.type n)) : PySem.W.kitOne K (.type n) (.type "bool") = some (isB x) := by
  cases h with
  | base b => cases b <;> first | exact kit_ty (r := false) (by decide +kernel) | exact kit_ty (r := true) (by decide +kernel)
  | byt _ => first | exact kit_ty (r := false) (by decide +kernel) | exact kit_ty (r := true) (by decide +kernel)
  | set _ => first | exact kit_ty (r := false) (by decide +kernel) | exact kit_ty (r := true) (by decide +kernel)
  | kList _ _ => first | exact kit_ty (r := false) (by decide +kernel) | exact kit_ty (r := true) (by decide +kernel)
  | kTuple _ _ => first | exact kit_ty (r := false) (by decide +kernel) | exact kit_ty (r := true) (by decide +kernel)
  | kDict _ _ => first | exact kit_ty (r := false) (by decide +kernel) | exact kit_ty (r := true) (by decide +kernel)
  | fTuple _ => first | exact kit_ty (r := false) (by decide +kernel) | exact kit_ty (r := true) (by decide +kernel)
  | fDict _ => first | exact kit_ty (r := false) (by decide +kernel) | exact kit_ty (r := true) (by decide +kernel)
theorem ty_ex {u : Value} (e : Ex H H') (h : TyX K H x u) : TyX K H' x u := by
  cases h with
  | base b =>
    cases b with
    | non => exact .base .non
    | bl y => exact .base (.bl y)
    | int y => exact .base (.int y)
    | str y => exact .base (.str y)
    | flt y => exact .base (.flt y)
    | lst h => exact .base (.lst (e _ _ h))
    | frz h => exact .base (.frz (e _ _ h))
    | tup h => exact .base (.tup (e _ _ h))
    | dK h => exact .base (.dK (e _ _ h))
    | dT h => exact .base (.dT (e _ _ h))
    | ins h a b c d f => exact .base (.ins (e _ _ h) a b c d f)
  | byt b => exact .byt b
  | set h => exact .set (e _ _ h)
  | kList h c => exact .kList h c
  | kTuple h c => exact .kTuple h c
  | kDict h c => exact .kDict h c
  | fTuple h => exact .fTuple (e _ _ h)
  | fDict h => exact .fDict (e _ _ h)
theorem Plain.ex (e : Ex H H') (h : Plain K H x) : Plain K H' x := by
  obtain ⟨n, h⟩ := h
  exact ⟨n, ty_ex e h⟩
theorem rc_isiInt (h : Plain K H x) : RC (rIsi K) [x, .ty "int"] H (.bl (isIB x)) := fun H1 e Q q => by
  obtain ⟨n, h⟩ := h.ex e
  exact ⟨x, .ty "int", .type n, .type "int", _, rfl, .ty _, h, isi_int h, q H1 (Ex.refl H1)⟩
theorem rc_isiBool (h : Plain K H x) : RC (rIsi K) [x, .ty "bool"] H (.bl (isB x)) := fun H1 e Q q => by
  obtain ⟨n, h⟩ := h.ex e
  exact ⟨x, .ty "bool", .type n, .type "bool", _, rfl, .ty _, h, isi_bool h, q H1 (Ex.refl H1)⟩
/-- an integer of at most sixty digits -/
def isIntV : V → Bool
  | .int i => decide (-1000000000000000000000000000000000000000000000000000000000000 < i) && decide (i < 1000000000000000000000000000000000000000000000000000000000000)
  | _ => false
def isWithin (lo hi : Int) : V → Bool
  | .int i => isIntV (.int i) && (decide (lo ≤ i) && decide (i ≤ hi))
  | _ => false
theorem pl_int {i : Int} : Plain K H (.int i) := ⟨_, .base (.int i)⟩
theorem pl_bl {i : Bool} : Plain K H (.bl i) := ⟨_, .base (.bl i)⟩
theorem pl_str {i : Str} : Plain K H (.str i) := ⟨_, .base (.str i)⟩
theorem pl_non : Plain K H .non := ⟨_, .base .non⟩
theorem pl_lst {a : Addr} {xs : List V} (h : H a = some (.lst xs)) : Plain K H (.ref a) := ⟨_, .base (.lst h)⟩
theorem pl_tup {a : Addr} {xs : List V} (h : H a = some (.tup xs)) : Plain K H (.ref a) := ⟨_, .base (.tup h)⟩
theorem pl_dK {a : Addr} {xs : List (Key × V)} (h : H a = some (.dK xs)) : Plain K H (.ref a) := ⟨_, .base (.dK h)⟩
/-! ### loops over a new tuple -/
variable {tu tw tz : TS} {g : TG}
theorem s_forNU {xs : List V} {tl : TE} (h : EvU tl σ H xs) (Pv : Addr → Nat → L2.St → Hp → Prop) (h0 : ∀ p H1, H p = none → Ex H H1 → H1 p = some (.tup xs) → Pv p 0 σ H1) (hl : ∀ p i σ' H', i ≤ xs.length → Pv p i σ' H' → SqT K H' p xs)
    (hs : ∀ p i x σ' H', xs[i]? = some x → Pv p i σ' H' → g x σ' H' fun σ2 H2 => tu { D with nx := Pv p (i + 1), ct := Pv p (i + 1), bk := D.nx } σ2 H2) (hd : ∀ p σ' H', Pv p xs.length σ' H' → D.nx σ' H') : tFor (iTup K tl) g tu D σ H :=
  h H (Ex.refl H) _ fun p H1 hp e h1 => ⟨p, rfl, ⟨xs, st_of h1⟩, for_tup (Pv p) (h0 p H1 hp e h1) (hl p) (hs p) (hd p)⟩
theorem q_forNU {xs : List V} {tl : TE} (h : EvU tl σ H xs) (Pv : Addr → Nat → L2.St → Hp → Prop) (h0 : ∀ p H1, H p = none → Ex H H1 → H1 p = some (.tup xs) → Pv p 0 σ H1) (hl : ∀ p i σ' H', i ≤ xs.length → Pv p i σ' H' → SqT K H' p xs)
    (hs : ∀ p i x σ' H', xs[i]? = some x → Pv p i σ' H' → g x σ' H' fun σ2 H2 => tu { D with nx := Pv p (i + 1), ct := Pv p (i + 1), bk := tz D } σ2 H2) (hd : ∀ p σ' H', Pv p xs.length σ' H' → tz D σ' H') : tSeq (tFor (iTup K tl) g tu) tz D σ H :=
  s_forNU (D := { D with nx := tz D }) h Pv h0 hl hs hd
/-! ### what draws from the dice -/
def Dv (p : Addr) (te : TE) (σ : L2.St) (H : Hp) (R : V → Prop) : Prop := ∀ H1, Exd p H H1 → Dice p H1 → ∀ Q : VK, (∀ v H2, R v → Exd p H1 H2 → Dice p H2 → Q v H2) → te σ H1 Q
def DvA (p : Addr) (ta : TA) (σ : L2.St) (H : Hp) (R : List V → Prop) : Prop := ∀ H1, Exd p H H1 → Dice p H1 → ∀ Q : List V → Hp → Prop, (∀ v H2, R v → Exd p H1 H2 → Dice p H2 → Q v H2) → ta σ H1 Q
theorem dv_ev {p : Addr} {R : V → Prop} (h : ∀ H1, Exd p H H1 → Dice p H1 → Ev te σ H1 v) (hr : R v) : Dv p te σ H R := fun H1 e d Q q => h H1 e d H1 (Ex.refl H1) Q fun H2 e2 => q v H2 hr (Exd.of e2) (d.ex e2)
theorem Dv.mono {p : Addr} {R R' : V → Prop} (h : Dv p te σ H R) (k : ∀ v, R v → R' v) : Dv p te σ H R' := fun H1 e d Q q => h H1 e d Q fun v H2 r => q v H2 (k v r)
theorem da_nil {p : Addr} {P : V → Prop} : DvA p tNil σ H (fun vs => vs.length = 0 ∧ ∀ v ∈ vs, P v) := fun H1 e d Q q => q [] H1 ⟨rfl, fun _ h => by cases h⟩ (Exd.refl p H1) d
theorem da_cons {p : Addr} {n : Nat} {P : V → Prop} {tr : TA} (h : Dv p te σ H P) (hr : DvA p tr σ H (fun vs => vs.length = n ∧ ∀ v ∈ vs, P v)) : DvA p (tCons te tr) σ H (fun vs => vs.length = n + 1 ∧ ∀ v ∈ vs, P v) := fun H1 e d Q q =>
  h H1 e d _ fun v H2 r e2 d2 => hr H2 (e.trans e2) d2 _ fun vs H3 rs e3 d3 => q (v :: vs) H3 ⟨by rw [List.length_cons, rs.1], fun x hx => by
    rcases List.mem_cons.mp hx with z | z
    · rw [z]; exact r
    · exact rs.2 x z⟩ (e2.trans e3) d3
theorem Exd.none {p a : Addr} (e : Exd p H H') (n : a ≠ p) (h : H' a = none) : H a = none := by
  cases q : H a with
  | none => rfl
  | some o => rw [e a o n q] at h; cases h
theorem Dice.ne {p a : Addr} (d : Dice p H) (h : H a = none) : a ≠ p := by
  obtain ⟨x, y, z, hp⟩ := d
  intro e
  rw [e, hp] at h
  cases h
/-- the call of a def that draws: what it promises of its answer -/
def Draws (ok : List V → Hp → Addr → (V → Prop) → Prop) : Sp := fun vs H Q _ => ∃ (p : Addr) (R : V → Prop), ok vs H p R ∧ Dice p H ∧ ∀ v H', R v → Exd p H H' → Dice p H' → Q v H'
theorem dv_call {ok : List V → Hp → Addr → (V → Prop) → Prop} {E : XK} {ts : TA} {p : Addr} {R : V → Prop} {vs : List V} (h : ∀ H1, Exd p H H1 → Dice p H1 → EvA ts σ H1 vs) (ho : ∀ H1, Exd p H H1 → Dice p H1 → ok vs H1 p R) : Dv p (tCall (Draws ok) [] E ts) σ H R := fun H1 e d Q q =>
  h H1 e d H1 (Ex.refl H1) _ fun H2 e2 => by
    show Draws ok (vs ++ []) H2 Q E
    rw [List.append_nil]
    exact ⟨p, R, ho H2 (e.trans (Exd.of e2)) (d.ex e2), d.ex e2, fun v H3 r e3 d3 => q v H3 r ((Exd.of e2).trans e3) d3⟩
theorem sc_mulr {i j : Int} (h : -18446744073709551616 < j ∧ j < 18446744073709551616) : CMul i j := .inr h
theorem q_asgI {i : Nat} (h : ∃ c : Int, Ev te σ H (.int c)) (k : ∀ (c : Int) H1, Ex H H1 → tz D (σ.set i (some (.int c))) H1) : tSeq (tAsg te (gName i)) tz D σ H := by
  obtain ⟨c, h⟩ := h
  exact q_asg h (k c)
/-! ### data of any depth -/
mutual
theorem dp_ex (e : Ex H H') : ∀ {d : PyData} {x : V}, Dp K H x d → Dp K H' x d
  | _, _, .non => .non
  | _, _, .bl b => .bl b
  | _, _, .int i => .int i
  | _, _, .str z => .str z
  | _, _, .lst h a => .lst (ex_l e h) (dpa_ex e a)
  | _, _, .tup h a => .tup (ex_t e h) (dpa_ex e a)
theorem dpa_ex (e : Ex H H') : ∀ {ds : List PyData} {xs : List V}, DpAll K H xs ds → DpAll K H' xs ds
  | _, _, .nil => .nil
  | _, _, .cons h t => .cons (dp_ex e h) (dpa_ex e t)
end
def EvD (K : PySem.W.Frag) (te : TE) (σ : L2.St) (H : Hp) (d : PyData) : Prop := ∀ H1, Ex H H1 → ∀ Q : VK, (∀ v H2, Ex H1 H2 → Dp K H2 v d → Q v H2) → te σ H1 Q
def EvDA (K : PySem.W.Frag) (ta : TA) (σ : L2.St) (H : Hp) (ds : List PyData) : Prop := ∀ H1, Ex H H1 → ∀ Q : List V → Hp → Prop, (∀ vs H2, Ex H1 H2 → DpAll K H2 vs ds → Q vs H2) → ta σ H1 Q
theorem dpa_len : ∀ {vs : List V} {ds : List PyData}, DpAll K H vs ds → vs.length = ds.length
  | _, _, .nil => rfl
  | _, _, .cons _ t => congrArg (· + 1) (dpa_len t)
theorem evd_of {d : PyData} (h : Ev te σ H v) (hd : ∀ H1, Ex H H1 → Dp K H1 v d) : EvD K te σ H d := fun H1 e Q q => h H1 e Q fun H2 e2 => q v H2 e2 (hd H2 (e.trans e2))
theorem evd_int {i : Int} (h : Ev te σ H (.int i)) : EvD K te σ H (.int i) := evd_of h fun _ _ => .int i
theorem evd_bl {b : Bool} (h : Ev te σ H (.bl b)) : EvD K te σ H (.bool b) := evd_of h fun _ _ => .bl b
theorem evd_str {z : Str} (h : Ev te σ H (.str z)) : EvD K te σ H (.str z) := evd_of h fun _ _ => .str z
theorem evd_non (h : Ev te σ H .non) : EvD K te σ H .none := evd_of h fun _ _ => .non
theorem evda_nil : EvDA K tNil σ H [] := fun H1 _ _ q => q [] H1 (Ex.refl H1) .nil
theorem evda_cons {d : PyData} {ds : List PyData} {tr : TA} (h : EvD K te σ H d) (hr : EvDA K tr σ H ds) : EvDA K (tCons te tr) σ H (d :: ds) := fun H1 e Q q =>
  h H1 e _ fun v H2 e2 hv => hr H2 (e.trans e2) _ fun vs H3 e3 hs => q (v :: vs) H3 (e2.trans e3) (.cons (dp_ex e3 hv) hs)
theorem evd_tup {ds : List PyData} {ts : TA} (h : EvDA K ts σ H ds) (hl : ds.length ≤ 100000) : EvD K (tTup ts) σ H (.tuple ds) := fun H1 e Q q =>
  h H1 e _ fun vs H2 e2 hs => ⟨by rw [dpa_len hs]; exact sz_of hl, fun p hp => q _ _ (e2.trans (Ex.new hp)) (.tup (st_of upd_same) (dpa_ex (Ex.new hp) hs))⟩
theorem evd_lst {ds : List PyData} {ts : TA} (h : EvDA K ts σ H ds) (hl : ds.length ≤ 100000) : EvD K (tLst ts) σ H (.list ds) := fun H1 e Q q =>
  h H1 e _ fun vs H2 e2 hs => ⟨by rw [dpa_len hs]; exact sz_of hl, fun p hp => q _ _ (e2.trans (Ex.new hp)) (.lst (sq_of upd_same) (dpa_ex (Ex.new hp) hs))⟩
theorem ev_eqD {d e : PyData} (h1 : EvD K ta σ H d) (h2 : EvD K tb σ H e) (s1 : SeqAt.shaped d = true) (s2 : SeqAt.shaped e = true) : Ev (tOp (rEqD K) ta tb) σ H (.bl (PyData.eqv d e)) := fun H1 x Q q =>
  h1 H1 x _ fun v H2 x2 hv => h2 H2 (x.trans x2) _ fun u H3 x3 hu => ⟨d, e, dp_ex x3 hv, hu, s1, s2, q H3 (x2.trans x3)⟩
theorem ev_neD {d e : PyData} (h1 : EvD K ta σ H d) (h2 : EvD K tb σ H e) (s1 : SeqAt.shaped d = true) (s2 : SeqAt.shaped e = true) : Ev (tOp (rNeD K) ta tb) σ H (.bl (!PyData.eqv d e)) := fun H1 x Q q =>
  h1 H1 x _ fun v H2 x2 hv => h2 H2 (x.trans x2) _ fun u H3 x3 hu => ⟨d, e, dp_ex x3 hv, hu, s1, s2, q H3 (x2.trans x3)⟩
/-! ### dicts laid on the way -/
def EvPs (trs : List (TE × TE)) (σ : L2.St) (H : Hp) (ps : List (V × V)) : Prop := ∀ H1, Ex H H1 → ∀ Q : List (V × V) → Hp → Prop, (∀ H2, Ex H1 H2 → Q ps H2) → tPairs trs σ H1 Q
theorem eps_nil : EvPs [] σ H [] := fun H1 _ _ q => q H1 (Ex.refl H1)
theorem eps_cons {trs : List (TE × TE)} {ps : List (V × V)} (h1 : Ev ta σ H x) (h2 : Ev tb σ H y) (hr : EvPs trs σ H ps) : EvPs ((ta, tb) :: trs) σ H ((x, y) :: ps) := fun H1 e Q q =>
  h1 H1 e _ fun H2 e2 => h2 H2 (e.trans e2) _ fun H3 e3 => hr H3 ((e.trans e2).trans e3) _ fun H4 e4 => q H4 ((e2.trans e3).trans e4)
def EvK (te : TE) (σ : L2.St) (H : Hp) (kvs : List (Key × V)) : Prop := ∀ H1, Ex H H1 → ∀ Q : VK, (∀ p H2, H1 p = none → Ex H1 H2 → H2 p = some (.dK kvs) → Q (.ref p) H2) → te σ H1 Q
theorem ek_disp {trs : List (TE × TE)} {ps : List (V × V)} (kvs : List (Key × V)) (h : EvPs trs σ H ps) (e : ps = kvs.map fun kv => (kV kv.1, kv.2)) (hl : kvs.length ≤ 15) : EvK (tDisp trs) σ H (mergeK [] kvs) := fun H1 x Q q p hp =>
  h (upd H1 p (.dK [])) (x.trans (Ex.new hp)) _ fun H2 x2 => ⟨x2 _ _ upd_same, kvs, e, hl, q p _ hp (fun a o ha => by rw [upd_ne (ne_of_none ha hp)]; exact x2 _ _ (Ex.new hp _ _ ha)) upd_same⟩
theorem ev_dgetK {kvs : List (Key × V)} {k : Key} (h1 : EvK ta σ H kvs) (h2 : Ev tb σ H (kV k)) (hv : valV kvs k = some v) : Ev (tDGet ta tb) σ H v := fun H1 e Q q =>
  h1 H1 e _ fun p H2 hp e2 h => h2 H2 (e.trans e2) _ fun H3 e3 => ⟨p, v, rfl, by rw [← hv]; exact DGet.k (e3 _ _ h), q H3 (e2.trans e3)⟩
/-! ### sorted ints, an item of a new list -/
theorem el_sorted {tl : TE} {ns ms : List Int} (h : EvL tl σ H (ns.map V.int)) (hl : ns.length < 64) (hp : ms.Perm ns) (hs : ms.Pairwise (· ≤ ·)) : EvL (tCB (rSorted K) (tCons tl tNil)) σ H (ms.map V.int) := fun H1 e Q q =>
  h H1 e _ fun p H2 hp2 e2 h2 => ⟨p, ns, rfl, sq_of h2, hl, fun ns' a hp' hs' ha => by
    have z : ns' = ms := PySem.W.ksm_same (hp'.trans hp.symm) hs' hs
    rw [z]
    exact q a _ (fresh_back e2 ha) (e2.trans (Ex.new ha)) upd_same⟩
theorem ev_ixN {xs : List V} {i : Int} (h : EvL ta σ H xs) (hb : ∀ H1, Ex H H1 → Ev tb σ H1 (.int i)) (ha : atI xs i = some v) : Ev (tOp (rIxL K) ta tb) σ H v := ev_opL1 h hb fun p H1 hp _ => rv_ixL (sq_of hp) ha
theorem q_asgDL {p : Addr} {i : Nat} {ts : TA} {R : List V → Prop} (h : DvA p ts σ H R) (hd : Dice p H) (hl : ∀ vs, R vs → vs.length ≤ 100000) (k : ∀ l xs H1, R xs → Exd p H H1 → Dice p H1 → H1 l = some (.lst xs) → l ≠ p → tz D (σ.set i (some (.ref l))) H1) : tSeq (tAsg (tLst ts) (gName i)) tz D σ H :=
  h H (Exd.refl p H) hd _ fun xs H1 hx e1 d1 => ⟨sz_of (hl xs hx), fun l hl => k l xs _ hx (e1.trans (Exd.of (Ex.new hl))) (d1.ex (Ex.new hl)) upd_same (d1.ne hl)⟩
/-- xs + [drawn things]: a new list of both -/
theorem cat_go {p : Addr} {ts : TA} {R : List V → Prop} {l : Addr} {i : Nat} {xs : List V} {Q : VK} (h : DvA p ts σ H R) (hd : Dice p H) (hx : H l = some (.lst xs)) (hlp : l ≠ p) (hi : σ[i]? = some (some (.ref l))) (hl : ∀ ys, R ys → xs.length + ys.length ≤ 100000)
    (k : ∀ ys l4 H', R ys → Exd p H H' → Dice p H' → H' l4 = some (.lst (xs ++ ys)) → l4 ≠ p → Q (.ref l4) H') : tOp rCat (tVar i) (tLst ts) σ H Q :=
  ⟨.ref l, hi, h H (Exd.refl p H) hd _ fun ys H3 hy e3 d3 => ⟨sz_of (Nat.le_trans (Nat.le_add_left _ _) (hl ys hy)), fun l2 hl2 => ⟨l, l2, xs, ys, rfl, rfl, Ex.new hl2 _ _ (e3 _ _ hlp hx), upd_same, sz_of (hl ys hy), fun l4 hl4 =>
    k ys l4 _ hy (e3.trans ((Exd.of (Ex.new hl2)).trans (Exd.of (Ex.new hl4)))) ((d3.ex (Ex.new hl2)).ex (Ex.new hl4)) upd_same ((d3.ex (Ex.new hl2)).ne hl4)⟩⟩⟩
/-- a if t else b, as a test -/
def tIfT (t u1 u2 : TT) : TT := fun σ H Q => t σ H fun c H1 => if c = true then u1 σ H1 Q else u2 σ H1 Q
theorem pt_ifExp {X : Cx} {c a b : Expr} {pos : Pos} {tA t1 t2 : TT} (hc : PT X c tA) (ha : PT X a t1) (hb : PT X b t2) : PT X (.IfExp c a b pos) (tIfT tA t1 t2) := by
  refine ⟨fun pins s σ H Q I h => ?_⟩
  refine isTrue_IfExp (thn (hc.run pins s σ H _ I h) fun d s1 ⟨H1, I1, q1⟩ => ?_)
  cases d with
  | true => exact ha.run pins s1 σ H1 Q I1 q1
  | false => exact hb.run pins s1 σ H1 Q I1 q1
theorem et_ifT {u1 u2 : TT} {b c : Bool} (h : EvT t σ H b) (h1 : b = true → EvT u1 σ H c) (h2 : b = false → EvT u2 σ H c) : EvT (tIfT t u1 u2) σ H c := fun H1 e Q q => h H1 e _ fun H2 e2 => by
  cases b with
  | true =>
    rw [if_pos rfl]
    exact h1 rfl H2 (e.trans e2) Q fun H3 e3 => q H3 (e2.trans e3)
  | false =>
    rw [if_neg Bool.false_ne_true]
    exact h2 rfl H2 (e.trans e2) Q fun H3 e3 => q H3 (e2.trans e3)
/-- a, b = a new tuple of two -/
theorem q_asg2U {i j : Nat} {v1 v2 : V} (h : EvU te σ H [v1, v2]) (k : ∀ H1, Ex H H1 → tz D ((σ.set i (some v1)).set j (some v2)) H1) : tSeq (tAsg te (gTup K 2 (gCons (gName i) (gCons (gName j) gNil)))) tz D σ H :=
  h H (Ex.refl H) _ fun p H1 hp e hl => ⟨p, [v1, v2], rfl, st_of hl, rfl, v1, [v2], rfl, v2, [], rfl, rfl, k H1 e⟩
/-! ### tests that hang on the dice, calls with a new tuple -/
def DvT (p : Addr) (t : TT) (σ : L2.St) (H : Hp) : Prop := ∀ H1, Exd p H H1 → Dice p H1 → ∀ Q : Bool → Hp → Prop, (∀ b H2, Exd p H1 H2 → Dice p H2 → Q b H2) → t σ H1 Q
def IntV (v : V) : Prop := ∃ n : Int, v = .int n
theorem dvt_eq {p : Addr} {k : Int} (h : Dv p ta σ H IntV) : DvT p (tTest (tOp rEq ta (tC (.int k)))) σ H := fun H1 e d Q q =>
  h H1 e d _ fun v H2 hv e2 d2 => by
    obtain ⟨n, rfl⟩ := hv
    exact ⟨rfl, _, rfl, q _ H2 e2 d2⟩
theorem dv_if {p : Addr} {R : V → Prop} (h : DvT p t σ H) (h1 : Dv p ta σ H R) (h2 : Dv p tb σ H R) : Dv p (tIf t ta tb) σ H R := fun H1 e d Q q =>
  h H1 e d _ fun b H2 e2 d2 => by
    cases b with
    | true =>
      rw [if_pos rfl]
      exact h1 H2 (e.trans e2) d2 Q fun v H3 r e3 d3 => q v H3 r (e2.trans e3) d3
    | false =>
      rw [if_neg Bool.false_ne_true]
      exact h2 H2 (e.trans e2) d2 Q fun v H3 r e3 d3 => q v H3 r (e2.trans e3) d3
theorem dv_op {p : Addr} {R1 R2' R : V → Prop} (h1 : Dv p ta σ H R1) (h2 : Dv p tb σ H R2') (hr : ∀ x y H1, R1 x → R2' y → ∃ z, RV r x y H1 z ∧ R z) : Dv p (tOp r ta tb) σ H R := fun H1 e d Q q =>
  h1 H1 e d _ fun x H2 hx e2 d2 => h2 H2 (e.trans e2) d2 _ fun y H3 hy e3 d3 => by
    obtain ⟨z, hz, rz⟩ := hr x y H3 hx hy
    exact hz H3 (Ex.refl H3) Q fun H4 e4 => q z H4 rz ((e2.trans e3).trans (Exd.of e4)) (d3.ex e4)
theorem dv_c {p : Addr} {R : V → Prop} (hr : R v) : Dv p (tC v) σ H R := dv_ev (fun H1 _ _ => ev_c) hr
theorem dv_var {p : Addr} {i : Nat} {R : V → Prop} (h : σ[i]? = some (some v)) (hr : R v) : Dv p (tVar i) σ H R := dv_ev (fun H1 _ _ => ev_var h) hr
theorem ev_callU {ok : List V → Hp → V → Prop} {E : XK} {xs : List V} (h1 : Ev ta σ H x) (h2 : EvU tb σ H xs) (ho : ∀ p H1, Ex H H1 → H1 p = some (.tup xs) → ok [x, .ref p] H1 z) : Ev (tCall (Pure ok) [] E (tCons ta (tCons tb tNil))) σ H z := fun H1 e Q q =>
  h1 H1 e _ fun H2 e2 => h2 H2 (e.trans e2) _ fun p H3 hp e3 h3 => ⟨z, ho p H3 ((e.trans e2).trans e3) h3, fun H4 e4 => q H4 ((e2.trans e3).trans e4)⟩
/-- a call that draws, whose last argument is a new list -/
theorem dv_pickL {ok : List V → Hp → Addr → (V → Prop) → Prop} {E : XK} {p : Addr} {R : V → Prop} {xs : List V} {i : Nat} (hs : σ[i]? = some (some (.ref p))) (h : ∀ H1, Exd p H H1 → Dice p H1 → EvL tb σ H1 xs) (ho : ∀ l H1, Exd p H H1 → Dice p H1 → l ≠ p → H1 l = some (.lst xs) → ok [.ref p, .ref l] H1 p R) :
    Dv p (tCall (Draws ok) [] E (tCons (tVar i) (tCons tb tNil))) σ H R := fun H1 e d Q q => ⟨.ref p, hs, h H1 e d H1 (Ex.refl H1) _ fun l H2 hl e2 h2 => ⟨p, R, ho l H2 (e.trans (Exd.of e2)) (d.ex e2) (d.ne hl) h2, d.ex e2, fun v H3 r e3 d3 => q v H3 r ((Exd.of e2).trans e3) d3⟩⟩
theorem q_asgDv {p : Addr} {i : Nat} {R : V → Prop} (h : Dv p te σ H R) (hd : Dice p H) (k : ∀ v H1, R v → Exd p H H1 → Dice p H1 → tz D (σ.set i (some v)) H1) : tSeq (tAsg te (gName i)) tz D σ H := h H (Exd.refl p H) hd _ fun v H1 r e1 d1 => k v H1 r e1 d1
theorem s_retDv {p : Addr} {R : V → Prop} (h : Dv p te σ H R) (hd : Dice p H) (k : ∀ v H1, R v → Exd p H H1 → Dice p H1 → D.rt v H1) : tRet te D σ H := h H (Exd.refl p H) hd _ fun v H1 r e1 d1 => k v H1 r e1 d1
theorem q_par {ts : TA} {i j : Nat} {v1 v2 : V} (h : EvA ts σ H [v1, v2]) (k : ∀ H1, Ex H H1 → tz D ((σ.set i (some v1)).set j (some v2)) H1) : tSeq (tPar i j ts) tz D σ H := h H (Ex.refl H) _ fun H1 e1 => ⟨v1, v2, rfl, k H1 e1⟩
theorem q_parDv {p : Addr} {i j : Nat} {R1 R2' : V → Prop} (h1 : Dv p ta σ H R1) (h2 : Dv p tb σ H R2') (hd : Dice p H) (k : ∀ v1 v2 H1, R1 v1 → R2' v2 → Exd p H H1 → Dice p H1 → tz D ((σ.set i (some v1)).set j (some v2)) H1) : tSeq (tPar i j (tCons ta (tCons tb tNil))) tz D σ H :=
  h1 H (Exd.refl p H) hd _ fun v1 H1 r1 e1 d1 => h2 H1 e1 d1 _ fun v2 H2 r2 e2 d2 => ⟨v1, v2, rfl, k v1 v2 H2 r1 r2 (e1.trans e2) d2⟩
/-! ### tests that are known, whatever the dice did -/
def DvF (p : Addr) (t : TT) (σ : L2.St) (H : Hp) (b : Bool) : Prop := ∀ H1, Exd p H H1 → Dice p H1 → ∀ Q : Bool → Hp → Prop, (∀ H2, Exd p H1 H2 → Dice p H2 → Q b H2) → t σ H1 Q
theorem dvf_et {p : Addr} {b : Bool} (h : ∀ H1, Exd p H H1 → Dice p H1 → EvT t σ H1 b) : DvF p t σ H b := fun H1 e d Q q => h H1 e d H1 (Ex.refl H1) Q fun H2 e2 => q H2 (Exd.of e2) (d.ex e2)
theorem dvf_or {p : Addr} {b : Bool} (h1 : DvF p t σ H false) (h2 : DvF p u σ H b) : DvF p (tOr t u) σ H b := fun H1 e d Q q => h1 H1 e d _ fun H2 e2 d2 => by
  rw [if_neg Bool.false_ne_true]
  exact h2 H2 (e.trans e2) d2 Q fun H3 e3 d3 => q H3 (e2.trans e3) d3
theorem dvf_not {p : Addr} {b : Bool} (h : DvF p t σ H b) : DvF p (tNot t) σ H (!b) := fun H1 e d Q q => h H1 e d _ fun H2 e2 d2 => q H2 e2 d2
theorem dvf_B {p : Addr} {b : Bool} (h : Dv p te σ H (fun v => v = .bl b)) : DvF p (tB te) σ H b := fun H1 e d Q q => h H1 e d _ fun v H2 hv e2 d2 => ⟨b, hv, q H2 e2 d2⟩
theorem q_whenF {p : Addr} (h : DvF p t σ H false) (hd : Dice p H) (k : ∀ H1, Exd p H H1 → Dice p H1 → tz D σ H1) : tSeq (tIfS t tu tNext) tz D σ H := h H (Exd.refl p H) hd _ fun H1 e1 d1 => by
  rw [if_neg Bool.false_ne_true]
  exact k H1 e1 d1
/-! ### tuples, whatever the dice did -/
def DvU (K : PySem.W.Frag) (p : Addr) (te : TE) (σ : L2.St) (H : Hp) (R : List V → Prop) : Prop := ∀ H1, Exd p H H1 → Dice p H1 → ∀ Q : VK, (∀ b xs H2, R xs → b ≠ p → Exd p H1 H2 → Dice p H2 → SqT K H2 b xs → Q (.ref b) H2) → te σ H1 Q
theorem Exd.tt {p a : Addr} {xs : List V} (e : Exd p H H') (n : a ≠ p) (h : SqT K H a xs) : SqT K H' a xs := by
  rcases h with (h | ⟨o, h⟩) | h
  · exact .inl (.inl (e _ _ n h))
  · exact .inl (.inr ⟨o, e _ _ n h⟩)
  · exact .inr h
theorem du_sl {p a : Addr} {i : Nat} {xs : List V} {lo hi : Option Int} {tl th : TO} (hs : σ[i]? = some (some (.ref a))) (hap : a ≠ p) (hT : SqT K H a xs) (hl : ∀ H1, EvO tl σ H1 lo) (hh : ∀ H1, EvO th σ H1 hi) (hc : HT.sIx xs.length 0 lo = 0 ∧ HT.sIx xs.length xs.length hi = xs.length → cutV xs lo hi = xs) :
    DvU K p (tSl (rSlA K) (tVar i) tl th) σ H (fun ys => ys = cutV xs lo hi) := fun H1 e d Q q => ⟨.ref a, hs, hl H1 H1 (Ex.refl H1) _ fun H2 e2 => hh H2 H2 (Ex.refl H2) _ fun H3 e3 => ⟨a, xs, rfl, ex_t (e2.trans e3) (e.tt hap hT),
  fun z => q a xs H3 (hc z).symm hap (Exd.of (e2.trans e3)) (d.ex (e2.trans e3)) (ex_t (e2.trans e3) (e.tt hap hT)),
  fun _ b hb => q b _ _ rfl ((d.ex (e2.trans e3)).ne hb) (Exd.of ((e2.trans e3).trans (Ex.new hb))) (d.ex ((e2.trans e3).trans (Ex.new hb))) (st_of upd_same)⟩⟩
theorem du_one {p : Addr} {R : V → Prop} (h : Dv p te σ H R) : DvU K p (tTup (tCons te tNil)) σ H (fun ys => ∃ v, ys = [v] ∧ R v) := fun H1 e d Q q => h H1 e d _ fun v H2 hv e2 d2 => ⟨by show 1 ≤ sizeLine; decide, fun b hb => q b [v] _ ⟨v, rfl, hv⟩ (d2.ne hb) (e2.trans (Exd.of (Ex.new hb))) (d2.ex (Ex.new hb)) (st_of upd_same)⟩
theorem du_cat {p : Addr} {R1 R2' R : List V → Prop} (h1 : DvU K p ta σ H R1) (h2 : DvU K p tb σ H R2') (hr : ∀ xs ys, R1 xs → R2' ys → R (xs ++ ys) ∧ xs.length + ys.length ≤ 100000) : DvU K p (tOp (rCatA K) ta tb) σ H R := fun H1 e d Q q =>
  h1 H1 e d _ fun a xs H2 hx ha e2 d2 h2x => h2 H2 (e.trans e2) d2 _ fun b ys H3 hy hb e3 d3 h3y => by
    obtain ⟨r1, r2⟩ := hr xs ys hx hy
    refine ⟨a, b, xs, ys, rfl, rfl, e3.tt ha h2x, h3y, sz_of r2, fun z => ?_, fun _ z => ?_, fun _ _ c hc => ?_⟩
    · subst z
      exact q b ys H3 r1 hb (e2.trans e3) d3 h3y
    · subst z
      rw [List.append_nil] at r1
      exact q a xs H3 r1 ha (e2.trans e3) d3 (e3.tt ha h2x)
    · exact q c _ _ r1 (d3.ne hc) ((e2.trans e3).trans (Exd.of (Ex.new hc))) (d3.ex (Ex.new hc)) (st_of upd_same)
theorem q_asgU2 {p : Addr} {i : Nat} {R : List V → Prop} (h : DvU K p te σ H R) (hd : Dice p H) (k : ∀ b xs H1, R xs → b ≠ p → Exd p H H1 → Dice p H1 → SqT K H1 b xs → tz D (σ.set i (some (.ref b))) H1) : tSeq (tAsg te (gName i)) tz D σ H := h H (Exd.refl p H) hd _ fun b xs H1 hx hb e1 d1 hT => k b xs H1 hx hb e1 d1 hT
def rTupL (K : PySem.W.Frag) : List V → Hp → VK → Prop := fun xs H Q => ∃ p ys, xs = [.ref p] ∧ SqL K H p ys ∧ ∀ l, H l = none → Q (.ref l) (upd H l (.tup ys))
theorem c_tupL {X : Cx} : CallR X (.type "tuple") (rTupL X.K) := callR_mono call_tuple_of fun vs H Q h => by
  obtain ⟨p, ys, e, hs, k⟩ := h
  exact ⟨p, ys, e, .inl ⟨hs, k⟩⟩
/-- [e for x in range(n)], each e drawn -/
theorem dl_lcR {p : Addr} {n j : Nat} {vs : List Nat} {R : V → Prop} {Q : VK} (hw : ∀ x, wipe ((wipe σ vs).set j (some x)) vs = wipe σ vs) (hn : n ≤ 1000) (he : ∀ i : Nat, i < n → Dv p te ((wipe σ vs).set j (some (.int (0 + (i : Int))))) H R) (hd : Dice p H)
    (k : ∀ l xs H2, (xs.length = n ∧ ∀ v ∈ xs, R v) → l ≠ p → Exd p H H2 → Dice p H2 → H2 l = some (.lst xs) → Q (.ref l) H2) : tLc (iRng1 (tCons (tC (.int n)) tNil)) (gName j) tYes te vs σ H Q :=
  ⟨n, rfl, by omega, by omega, fun Dl hD => by
    have hDp : Dl ≠ p := hd.ne hD
    rw [show ((n : Int).toNat) = n from Int.toNat_natCast n]
    refine lc_range (fun i H' => Exd p H H' ∧ Dice p H' ∧ ∃ acc, H' Dl = some (.lst acc) ∧ acc.length = i ∧ ∀ v ∈ acc, R v) ⟨Exd.of (Ex.new hD), hd.ex (Ex.new hD), [], upd_same, rfl, fun _ h => by cases h⟩ ?_ ?_
    · rintro i H' hi ⟨e', d', acc, hacc, hlen, hR⟩
      refine ⟨hw _, ?_⟩
      unfold tYes
      dsimp only
      rw [if_pos rfl]
      refine he i hi H' e' d' _ fun v H4 hv e4 d4 => ⟨acc, e4 _ _ hDp hacc, sz_lt (by omega), fun a o ha ho => ?_, ?_, acc ++ [v], upd_same, by rw [List.length_append, hlen]; rfl, fun x hx => ?_⟩
      · rw [upd_ne (ne_of_none ho hD)]
        exact e4 _ _ ha (e' _ _ ha ho)
      · obtain ⟨x, y, z, h⟩ := d4
        exact ⟨x, y, z, by rw [upd_ne (Ne.symm hDp)]; exact h⟩
      · rcases List.mem_append.mp hx with z | z
        · exact hR x z
        · rw [List.mem_singleton.mp z]; exact hv
    · rintro H' ⟨e', d', acc, hacc, hlen, hR⟩
      exact k Dl acc H' ⟨hlen, hR⟩ hDp e' d' hacc⟩
theorem du_tupLc {p : Addr} {n j : Nat} {vs : List Nat} {R : V → Prop} (hw : ∀ x, wipe ((wipe σ vs).set j (some x)) vs = wipe σ vs) (hn : n ≤ 1000) (he : ∀ i : Nat, i < n → Dv p te ((wipe σ vs).set j (some (.int (0 + (i : Int))))) H R) :
    DvU K p (tCB (rTupL K) (tCons (tLc (iRng1 (tCons (tC (.int n)) tNil)) (gName j) tYes te vs) tNil)) σ H (fun ys => ys.length = n ∧ ∀ v ∈ ys, R v) := fun H1 e d Q q =>
  dl_lcR (Q := fun x H2 => rTupL K [x] H2 Q) hw hn (fun i hi H2 e2 => he i hi H2 (e.trans e2)) d fun l xs H2 hx hl e2 d2 h2 => ⟨l, xs, rfl, sq_of h2, fun b hb => q b xs _ hx (d2.ne hb) (e2.trans (Exd.of (Ex.new hb))) (d2.ex (Ex.new hb)) (st_of upd_same)⟩
theorem q_parU {p : Addr} {i j : Nat} {R1 : V → Prop} {R2' : List V → Prop} (h1 : Dv p ta σ H R1) (h2 : DvU K p tb σ H R2') (hd : Dice p H) (k : ∀ v1 b xs H1, R1 v1 → R2' xs → b ≠ p → Exd p H H1 → Dice p H1 → SqT K H1 b xs → tz D ((σ.set i (some v1)).set j (some (.ref b))) H1) : tSeq (tPar i j (tCons ta (tCons tb tNil))) tz D σ H :=
  h1 H (Exd.refl p H) hd _ fun v1 H1 r1 e1 d1 => h2 H1 e1 d1 _ fun b xs H2 hx hb e2 d2 hT => ⟨v1, .ref b, rfl, k v1 b xs H2 r1 hx hb (e1.trans e2) d2 hT⟩
theorem s_retCallDv {p : Addr} {ok : List V → Hp → V → Prop} {E : XK} {R : V → Prop} {i j : Nat} {x1 x2 : V} (h1 : σ[i]? = some (some x1)) (h2 : σ[j]? = some (some x2)) (h3 : Dv p te σ H R) (hd : Dice p H) (k : ∀ v H1, R v → Exd p H H1 → Dice p H1 → ok [x1, x2, v] H1 z) (q : ∀ H1, Exd p H H1 → Dice p H1 → D.rt z H1) :
    tRet (tCall (Pure ok) [] E (tCons (tVar i) (tCons (tVar j) (tCons te tNil)))) D σ H := ⟨x1, h1, x2, h2, h3 H (Exd.refl p H) hd _ fun v H1 r e1 d1 => ⟨z, k v H1 r e1 d1, fun H2 e2 => q H2 (e1.trans (Exd.of e2)) (d1.ex e2)⟩⟩
theorem s_whenF {p : Addr} (h : DvF p t σ H false) (hd : Dice p H) (k : ∀ H1, Exd p H H1 → Dice p H1 → D.nx σ H1) : tIfS t tu tNext D σ H := h H (Exd.refl p H) hd _ fun H1 e1 d1 => by
  rw [if_neg Bool.false_ne_true]
  exact k H1 e1 d1
/-- what the dice did is nothing to a heap that has not got them -/
theorem Exd.out {p : Addr} {H0 : Hp} (e : Exd p H H') (e0 : Ex H0 H) (h : H0 p = Option.none) : Ex H0 H' := fun a o ho => e a o (fun z => by rw [z, h] at ho; cases ho) (e0 a o ho)
theorem dpa_ints : ∀ ns : List Int, DpAll K H (ns.map V.int) (ns.map PyData.int)
  | [] => .nil
  | n :: ns => .cons (.int n) (dpa_ints ns)
theorem evd_ints {ns : List Int} (h : EvL te σ H (ns.map V.int)) : EvD K te σ H (.list (ns.map PyData.int)) := fun H1 e Q q => h H1 e Q fun p H2 _ e2 h2 => q _ H2 e2 (.lst (sq_of h2) (dpa_ints ns))
end
end Vr
set_option Elab.async false
set_option linter.all false
set_option maxRecDepth 100000
set_option maxHeartbeats 4000000
namespace En
open PySem PySem.Spec PyProof.Rows L2 Evl Vr
theorem meets_newT (l : Addr) (items : Array Value) :
    Meets (Builtin.«enumerate.__new__» ⟨[.type "enumerate", .ref l], []⟩) (fun _ R s => s.heap.IsTuple l items ∧
      R (.ok (.ret (.ref (s.heap.push { cls := .type "tuple_iterator", data := .fields #[.ref l, .int 0 0] }).objs.size)))
        { s with heap := (s.heap.push { cls := .type "tuple_iterator", data := .fields #[.ref l, .int 0 0] }).push { cls := .type "enumerate", data := .fields #[.none, .bool false, .ref s.heap.objs.size, rawInt 0, .none, .none] } }) :=
  .of_wp fun prog w A R s h => by
    obtain ⟨hp, g, d, tk, os⟩ := s; obtain ⟨hl, h⟩ := h
    have hsub := sub_enumerate
    have q1 : ∀ {A' : Around} {E : Value → Shared → Prop} {Q : Value → Shared → Prop}, Q (.ref hp.objs.size) ⟨hp.push { cls := .type "tuple_iterator", data := .fields #[.ref l, .int 0 0] }, g, d, tk, os⟩ → wpAny (model prog w) A' (pyIter (.ref l)) Q E ⟨hp, g, d, tk, os⟩ :=
      fun q => wpAny_pyIter_tuple (s := ⟨hp, g, d, tk, os⟩) hl q
    wp_walk using q1
    refine wpAny_stack_any fun st => wpAny_pure ?_
    split
    · rename_i c _ _ _ _ _
      cases (c == Value.type "enumerate")
      · wp_walk using q1
        exact ⟨_, rfl, h⟩
      · wp_walk using q1
        exact ⟨_, rfl, h⟩
    · wp_walk using q1
      exact ⟨_, rfl, h⟩
theorem call_enumT {prog : Program} {w : World} {A : Around} {E : Value → Shared → Prop} {s : Shared} {l : Addr} {items : Array Value} {Q : Value → Shared → Prop} (hL : s.heap.IsTuple l items)
    (h : ∀ h', IsEnum h' (s.heap.objs.size + 1) s.heap.objs.size 0 .none → h'.IsTupleIter s.heap.objs.size l 0 → h'.objs.size = s.heap.objs.size + 2 →
      (∀ b o, s.heap.get? b = some o → h'.get? b = some o) → Q (.ref (s.heap.objs.size + 1)) { s with heap := h' }) :
    wpAny (model prog w) A (call (.type "enumerate") [.ref l]) Q E s := by
  refine callType_new F.called_enumerate (by decide) (F.typeCall_enumerate_1 _) (F.newCall_enumerate_1 _) (fun obj => F.args_object_init_2 obj _) F.entry_enumerate_new
    (meets_newT l items) ⟨hL, ?_⟩
  have hz : (s.heap.push { cls := .type "tuple_iterator", data := .fields #[.ref l, .int 0 0] }).objs.size = s.heap.objs.size + 1 := Heap.size_push ..
  show _ ∧ _
  rw [hz]
  have he : IsEnum ((s.heap.push { cls := .type "tuple_iterator", data := .fields #[.ref l, .int 0 0] }).push
      { cls := .type "enumerate", data := .fields #[.none, .bool false, .ref s.heap.objs.size, rawInt 0, .none, .none] }) (s.heap.objs.size + 1) s.heap.objs.size 0 .none := by
    have := Heap.get?_push_size (s.heap.push { cls := .type "tuple_iterator", data := .fields #[.ref l, .int 0 0] })
      (o := { cls := .type "enumerate", data := .fields #[.none, .bool false, .ref s.heap.objs.size, rawInt 0, .none, .none] }) rfl
    rw [hz] at this; exact this
  refine ⟨⟨_, he, rfl⟩, h _ he ⟨_, Heap.get?_push_of_some _ (Heap.get?_push_size _ rfl), rfl, rfl⟩ (by rw [Heap.size_push, hz]) fun b o x => Heap.get?_push_of_some _ (Heap.get?_push_of_some _ x)⟩
/-- the tuple at a, each item in a new pair -/
def IteT (K : PySem.W.Frag) (a : Addr) : It :=
  ⟨fun i H => ∃ (xs : List V) (x : V), SqT K H a xs ∧ xs[i]? = some x, fun i H v H' => ∃ T x, v = .ref T ∧ H T = none ∧ H' = upd H T (.tup [.int (i : Nat), x]) ∧ ∀ xs, SqT K H a xs → xs[i]? = some x, fun i H => ∃ xs : List V, SqT K H a xs ∧ xs.length ≤ i⟩
theorem turn_enumT {P : Program} {w : World} {K : PySem.W.Frag} {elts : List Expr} {kk : Nat} {tpos : Pos} (a e it : Addr) :
    Turn P w K (.Tuple elts kk tpos) (IteT K a) [e, it] e (fun i h => (∃ old, IsEnum h e it ((i : Nat) : Int) old) ∧ h.IsTupleIter it a i ∧ e ≠ it) where
  mem := by simp
  obj := fun i h st b hb => by
    obtain ⟨⟨old, he⟩, ⟨o, ho, hc, hd⟩, _⟩ := st
    have e' : b = e ∨ b = it := by simpa using hb
    rcases e' with z | z
    · rw [z]; exact ⟨_, he, fun v q => nomatch q⟩
    · rw [z]; exact ⟨o, ho, fun v q => by rw [hd] at q; cases q⟩
  keep := fun i h h' st k => let ⟨⟨old, he⟩, hi, hne⟩ := st; ⟨⟨old, k e (by simp) _ he⟩, hi.at fun o q => k it (by simp) o q, hne⟩
  item := by
    intro X hP hw hK hc i pins s σ H E I hf st hg
    subst hP hw hK
    obtain ⟨⟨old, he⟩, hit, hne⟩ := st
    obtain ⟨xs, x, hq, hx⟩ := hg
    obtain ⟨its, rv, p, hz⟩ := I.tuple hq
    have p : s.heap.IsTuple a its.toArray := p
    obtain ⟨u, hu, ru⟩ := rv.get hx
    have hel : e < s.heap.objs.size := Heap.lt_size he
    have hil : it < s.heap.objs.size := by obtain ⟨_, q, _⟩ := hit; exact Heap.lt_size q
    have hai : a ≠ it := by
      intro z
      obtain ⟨o, ho, hc1, _⟩ := hit
      obtain ⟨o2, ho2, hc2, _⟩ := p
      rw [z, ho] at ho2
      cases ho2
      rw [hc1] at hc2
      exact absurd hc2 (by decide)
    have hae : e ≠ a := by
      intro z
      obtain ⟨o2, ho2, hc2, _⟩ := p
      have he' : s.heap.get? e = _ := he
      rw [z, ho2] at he'
      cases he'
      exact absurd (show Value.type "enumerate" = Value.type "tuple" from hc2) (by decide)
    have hh : X.A.handled = none := I.ok.hd hc
    have Dr := Draws.tuple (prog := X.prog) (w := X.w) (A := X.A.in1) (by simp [hh]) it a hai its.toArray
    have hlt : i < its.toArray.size := by
      have := (List.getElem?_eq_some_iff.mp hu).1
      simpa using this
    refine wpAny_pyNext_enum_itemD Dr he ⟨hit, p⟩ hlt hne (by simp [hne, hae]) fun x' h' tk hPx ho hit' hT hsz hk => ?_
    have hxu : x' = u := by
      have h1 : its[i]? = some x' := by simpa using hPx
      rw [hu] at h1
      exact (Option.some.inj h1).symm
    subst hxu
    obtain ⟨hit', _⟩ := hit'
    refine ⟨_, rfl, wpAny_letOwnedTupleGo_enum (s := { s with heap := h', toks := tk + 1 }) ho fun h'' he' sb => ?_⟩
    have hT2 : h''.get? s.heap.objs.size = some { cls := .type "tuple", data := .seq #[.int i tk, x'] } := (sb.2 _ (Nat.ne_of_gt hel)).trans hT
    have new : ObjOk X.prog X.w (upd H s.heap.objs.size (.tup [.int (i : Nat), x])) h'' s.heap.objs.size (.tup [.int (i : Nat), x]) :=
      ⟨by show 2 ≤ sizeLine; decide, [.int i tk, x'], .cons ⟨_, rfl⟩ (.cons ru .nil), ⟨_, hT2, rfl, _, rfl⟩⟩
    have I1 : Inv X pins σ (upd H s.heap.objs.size (.tup [.int (i : Nat), x])) { s with heap := h'', toks := tk + 1 } :=
      I.turnedNew (ch := [e, it]) (fun b ob hb q => (sb.2 b (fun z => hb (by simp [z]))).trans (hk b ob (fun z => hb (by simp [z])) (fun z => hb (by simp [z])) q)) hf (Nat.le_refl _) new
    refine ⟨.ref s.heap.objs.size, _, I1, rfl, ⟨_, x, rfl, I.hok.fresh (Nat.le_refl _), rfl, fun ys hy => by rw [I.tuple_inj hy hq]; exact hx⟩, ⟨⟨x', ?_⟩, hit'.at fun o q => (sb.2 it (Ne.symm hne)).trans q, hne⟩, fun b hb => ?_⟩
    · have e1 : ((i + 1 : Nat) : Int) = (i : Int) + 1 := by omega
      rw [e1]; exact he'
    · have hb' : b < s.heap.objs.size := by
        have e' : b = e ∨ b = it := by simpa using hb
        rcases e' with z | z
        · rw [z]; exact hel
        · rw [z]; exact hil
      rw [upd_ne (Nat.ne_of_lt hb')]
      exact (hf b hb).1
  done := by
    intro X hP hw hK hc i pins s σ H E I hf st hg
    subst hP hw hK
    obtain ⟨⟨old, he⟩, hit, hne⟩ := st
    obtain ⟨xs, hq, hx⟩ := hg
    obtain ⟨its, rv, p, hz⟩ := I.tuple hq
    have p : s.heap.IsTuple a its.toArray := p
    obtain ⟨f0, f1, f2, f3, f4, f5⟩ := hf it (by simp)
    have hl := rv.length
    have hT : s.TypeIs (.ref e) "enumerate" := ⟨_, he, rfl⟩
    have hh : X.A.handled = none := I.ok.hd hc
    unfold pyNext
    refine wpAny_bind (wpAny_attempt (wpAny_callSpecial?_slot (name := Str.ofString "__next__") hT F.slot_enumerate_next
      (wpAny_call_entry F.slot_enumerate_next hT F.entry_enumerate_next ?_ (F.args_enumerate_next_1 _))))
    show wpAny _ _ (field (.ref e) 2 >>= _) _ _ _
    refine wpAny_bind (wpAny_field he rfl (x := .ref it) rfl ?_)
    refine wpAny_bind (wpAny_nextOf_tuple_end (by simp [hh]) hit p (by simp; omega) fun h' x he' hx' => ?_)
    obtain ⟨o, ho, hc⟩ := hx'
    refine wpAny_bind (wpAny_isInstance (T := "StopIteration") (b := true) ⟨o, ho, hc⟩ isSubtype_stop ?_)
    exact wpAny_pure ⟨rfl, I.turned (t' := s.toks) (fun b o hb q => he' b o hb q) f0 f1 f3 f4 f5⟩
  self := fun A i s Q E st h => let ⟨⟨_, he⟩, _⟩ := st; wpAny_pyIter_enum he h
def iEnumT (K : PySem.W.Frag) (ta : TA) : TI := fun σ H R => ta σ H fun vs H1 => ∃ a xs, vs = [.ref a] ∧ SqT K H1 a xs ∧ R (IteT K a) H1
theorem pi_enumT {X : Cx} {e : Expr} {ta : TA} {p pos tpos : Pos} {elts : List Expr} {kk : Nat} (hg : Gl X "enumerate") (hm : X.mg "enumerate" = none) (ha : PA X [e] ta) (hs : starEach [e] X.env = [(false, eval e X.env)] := by rfl) :
    PI X (.Tuple elts kk tpos) (.Call (.Name "enumerate" p) [e] [] pos) (iEnumT X.K ta) := by
  refine ⟨fun pins s σ H R I h => ?_⟩
  refine Call_ (ld_blt I hg hm boot_enumerate (PyProof.Rows.callWith_type1 (thn (ha.run pos pins s σ H _ I h) fun us s1 ⟨vs, H1, I1, r1, q1⟩ => ?_) hs rfl))
  obtain ⟨a, xs, ex, hq, q⟩ := q1
  subst ex
  cases r1 with
  | cons r rr =>
    cases rr
    cases r
    obtain ⟨its, rv, p', hz⟩ := I1.tuple hq
    have p' : s1.heap.IsTuple a its.toArray := p'
    refine call_enumT p' fun h' he hit hsz hk => wpAny_pyIter_enum he ?_
    have I2 : Inv X pins σ H1 { s1 with heap := h' } := I1.kept (t' := s1.toks) hk
    refine ⟨s1.heap.objs.size + 1, [s1.heap.objs.size + 1, s1.heap.objs.size], _, _, H1, rfl, I2, turn_enumT a (s1.heap.objs.size + 1) s1.heap.objs.size, ⟨⟨.none, he⟩, hit, Nat.succ_ne_self _⟩, fun b hb => ?_, q⟩
    have e' : b = s1.heap.objs.size + 1 ∨ b = s1.heap.objs.size := by simpa using hb
    have hle : s1.heap.objs.size ≤ b := by
      rcases e' with z | z
      · rw [z]; exact Nat.le_add_right _ _
      · rw [z]; exact Nat.le_refl _
    exact I1.fpOk hle (I1.hok.fresh hle)
theorem walk_enumT {K : PySem.W.Frag} {a : Addr} {xs : List V} : Walk (IteT K a) xs.length (fun H => SqT K H a xs) (YPair (fun i => some (.int (i : Nat))) (fun i => xs[i]?)) := by
  refine ⟨fun i _ hi q => ⟨xs, xs[i], q, by simp [hi]⟩, fun _ q => ⟨xs, q, Nat.le_refl _⟩, fun i H v H' _ q y => ?_⟩
  obtain ⟨T, x, h1, h2, h3, h4⟩ := y
  exact ⟨T, .int (i : Nat), x, h1, h2, h3, rfl, h4 xs q⟩
/-- [e for i, x in enumerate(tuple) if t] -/
theorem el_lcEnumT {σ : L2.St} {H : Hp} {te : TE} {t : TT} {K : PySem.W.Frag} {a : Addr} {xs : List V} {ta : TA} {j l : Nat} {vs : List Nat} (f : Nat → Bool) (v : Nat → V) (h : EvA ta σ H [.ref a]) (hx : SqT K H a xs) (hz : xs.length ≤ 40000)
    (hw : ∀ x y, wipe (((wipe σ vs).set j (some x)).set l (some y)) vs = wipe σ vs)
    (ht : ∀ (i : Nat) (x : V) H1, Ex H H1 → xs[i]? = some x → EvT t (((wipe σ vs).set j (some (.int (i : Nat)))).set l (some x)) H1 (f i)) (he : ∀ (i : Nat) (x : V) H1, Ex H H1 → xs[i]? = some x → f i = true → Ev te (((wipe σ vs).set j (some (.int (i : Nat)))).set l (some x)) H1 (v i)) :
    EvL (tLc (iEnumT K ta) (gTup K 2 (gCons (gName j) (gCons (gName l) gNil))) t te vs) σ H (given xs.length f v) := fun H0 e Q q => h H0 e _ fun H1 e1 => ⟨a, xs, rfl, ex_t (e.trans e1) hx, fun Dl hD =>
  lc_it walk_enumT (Cw H1 f v Dl) ⟨hD, Ex.new hD, upd_same⟩ (fun i H' _ p => ex_t ((e.trans e1).trans p.2.1) hx) (fun i x H' H'' hi p y => by
    obtain ⟨T, y1, y2, rfl, hT, rfl, h3, h4⟩ := y
    have h3 : y1 = .int (i : Nat) := (Option.some.inj h3).symm
    subst h3
    have eT : Ex H' (upd H' T (.tup [.int (i : Nat), y2])) := Ex.new hT
    refine ⟨T, [.int (i : Nat), y2], rfl, st_of upd_same, rfl, .int (i : Nat), [y2], rfl, y2, [], rfl, rfl, hw _ _, ?_⟩
    have p' : Cw H1 f v Dl i (upd H' T (.tup [.int (i : Nat), y2])) := ⟨p.1, p.2.1.trans eT, eT _ _ p.2.2⟩
    exact cw_turn p' (by omega) (ht i y2 H1 (e.trans e1) h4) (fun hf => he i y2 H1 (e.trans e1) h4 hf))
    (fun H' p => q Dl H' (fresh_back e1 p.1) (e1.trans p.2.1) p.2.2)⟩
end En
set_option Elab.async false
set_option linter.all false
set_option maxRecDepth 100000
set_option maxHeartbeats 4000000
namespace Wo
open PySem PySem.Spec PyProof.Rows L2 Evl Vr En
section
variable {X : Cx} {CX : CXT} {n f C : Addr} {fd : FuncData} {ps : List Str} {sp : Sp} {E : XK} {pins : List (Addr × Obj)} {σ : L2.St} {H : Hp} {s : Shared} {us : List Value} {vs : List V} {Q : VK}
theorem ix_tupK {X : Cx} {K : PySem.W.Frag} (h : X.K = K) : IxR X (rIxT K) := by subst h; exact ix_tup
theorem ix_listK {X : Cx} {K : PySem.W.Frag} (h : X.K = K) : IxR X (rIxL K) := by subst h; exact ix_list
/-- a def called from somewhere below the body -/
theorem call_sub {A : Around} {k : Nat} (sb : Sub X k A) (F : FnOk X.prog X.w X.K X.mg X.base CX k f fd ps sp) (hb : Binds X.K fd ps []) (hx : Passes CX X E) (I : Inv X pins σ H s) (r : Vals vs us) (h : sp vs H Q E) :
    wpAny (model X.prog X.w) A (call (.ref f) us) (EP X pins σ Q) X.xe s := by
  have e0 : Env0 X.prog X.w X.K X.mg X.base A X.stack s H := by
    have e := I.env0
    exact ⟨by rw [sb.fr]; exact e.frames, e.mod, e.bs, e.bsz, e.funs, e.frf, e.hok, e.bare⟩
  have hl := F.len _ _ _ _ h
  have hb' : BindsTo s fd ⟨us, []⟩ (ps.zip us) := by
    have := hb s us I.kIn (by rw [List.append_nil, ← r.length]; exact hl)
    simpa using this
  refine wpAny_call (codeAny_mono (F.run A X.stack s H ⟨us, []⟩ us vs Q E sb.room e0 hb' r h) fun r s' hq => ?_)
  cases r with
  | error e => exact hx pins σ H s e s' I hq
  | ok fl =>
    cases fl with
    | ret u => exact I.after hq
    | next => exact False.elim hq
    | brk => exact False.elim hq
    | cont => exact False.elim hq
/-- the bool that comes back -/
def backB (Q : VK) : VK := fun v H' => ∃ b, v = .bl b ∧ Q (.bl b) H'
def backN (Q : VK) : VK := fun v H' => ∃ b, v = .bl b ∧ Q (.bl (!b)) H'
/-- x in o, o's class with its own __contains__ -/
def rInO (C : Addr) (sp : Sp) (E : XK) : R2 := fun x y H Q => ∃ a dx fs, y = .ref a ∧ H a = some (.ins C dx fs) ∧ sp [.ref a, x] H (backB Q) E
def rNiO (C : Addr) (sp : Sp) (E : XK) : R2 := fun x y H Q => ∃ a dx fs, y = .ref a ∧ H a = some (.ins C dx fs) ∧ sp [.ref a, x] H (backN Q) E
theorem op_inO {k : Nat} (F : FnOk X.prog X.w X.K X.mg X.base CX k f fd ps sp) (hr : Room k X.A) (M : Meth X.K C "__contains__" f) (hb : Binds X.K fd ps []) (hx : Passes CX X E) : OpR X (compareOp .In) (rInO C sp E) := by
  intro pins s σ H x y v u Q I rx ry h
  obtain ⟨a, dx, fs, rfl, ha, h⟩ := h
  cases ry
  obtain ⟨mA, J, _⟩ := ins_get I.hok ha
  obtain ⟨od, J, _⟩ := J.look
  obtain ⟨m, hF⟩ := I.fr
  refine PySem.W.in_K hF I.ok.mod.kin J M.at_ M.fn ?_
  refine wpAny_mono (call_sub (vs := [.ref a, x]) ⟨hr, rfl⟩ F hb hx I (.cons rfl (.cons rx .nil)) h) (fun r s' z => ?_) fun _ _ z => z
  obtain ⟨w, H', I', rw', b, rfl, q⟩ := z
  cases rw'
  exact wpAny_truthy_bool ⟨.bl b, H', I', rfl, q⟩
theorem op_niO {k : Nat} (F : FnOk X.prog X.w X.K X.mg X.base CX k f fd ps sp) (hr : Room k X.A) (M : Meth X.K C "__contains__" f) (hb : Binds X.K fd ps []) (hx : Passes CX X E) : OpR X (compareOp .NotIn) (rNiO C sp E) := by
  intro pins s σ H x y v u Q I rx ry h
  obtain ⟨a, dx, fs, rfl, ha, h⟩ := h
  cases ry
  obtain ⟨mA, J, _⟩ := ins_get I.hok ha
  obtain ⟨od, J, _⟩ := J.look
  obtain ⟨m, hF⟩ := I.fr
  refine PySem.W.notIn_K hF I.ok.mod.kin J M.at_ M.fn ?_
  refine wpAny_mono (call_sub (vs := [.ref a, x]) ⟨hr, rfl⟩ F hb hx I (.cons rfl (.cons rx .nil)) h) (fun r s' z => ?_) fun _ _ z => z
  obtain ⟨w, H', I', rw', b, rfl, q⟩ := z
  cases rw'
  exact wpAny_truthy_bool ⟨.bl (!b), H', I', rfl, q⟩
/-- len(o) -/
def rLenO (C : Addr) (sp : Sp) (E : XK) : List V → Hp → VK → Prop := fun xs H Q => ∃ a dx fs, xs = [.ref a] ∧ H a = some (.ins C dx fs) ∧ sp [.ref a] H (fun v H' => ∃ n : Int, v = .int n ∧ 0 ≤ n ∧ n < 2 ^ 63 ∧ Q (.int n) H') E
theorem c_lenO {k : Nat} (F : FnOk X.prog X.w X.K X.mg X.base CX k f fd ps sp) (hr : Room (k + 1) X.A) (M : Meth X.K C "__len__" f) (hb : Binds X.K fd ps []) (hx : Passes CX X E) : CallR X (.builtin "len") (rLenO C sp E) := by
  intro pins s σ H xs us Q I r h
  obtain ⟨a, dx, fs, rfl, ha, h⟩ := h
  rw [Vals.ref1 r]
  obtain ⟨mA, J, _⟩ := ins_get I.hok ha
  obtain ⟨od, J, _⟩ := J.look
  obtain ⟨m, hF⟩ := I.fr
  refine PySem.W.len_K hF I.ok.mod.kin J M.at_ M.fn ?_
  have hs : Sub X k X.A.in1 := Sub.in1 ⟨hr, rfl⟩
  refine wpAny_mono (call_sub (vs := [.ref a]) hs F hb hx I (.cons rfl .nil) h) (fun r s' z => ?_) fun _ _ z => z
  obtain ⟨w, H', I', rw', n, rfl, h0, h1, q⟩ := z
  obtain ⟨t, rfl⟩ := rw'
  exact ⟨⟨h0, h1⟩, .int n, H', I'.tok _, ⟨_, rfl⟩, q⟩
end
section
variable {σ : L2.St} {H : Hp} {te ta tb to : TE} {ts tr : TA} {K : PySem.W.Frag} {a C dx : Addr} {fs : List (Str × V)} {f : Str} {v z x : V}
theorem ev_fld (h : Ev ta σ H (.ref a)) (ho : H a = some (.ins C dx fs)) (c : Cls K C) (n : NoAttr K C f) (l : fs.lookup f = some v) : Ev (tFld K ta f) σ H v := fun H1 e Q q =>
  h H1 e _ fun H2 e2 => ⟨a, C, dx, fs, v, rfl, (e.trans e2) _ _ ho, c, n, l, q H2 e2⟩
theorem ev_methP {m : Str} {ok : List V → Hp → V → Prop} {E : XK} {vs : List V} (h : Ev to σ H (.ref a)) (ho : H a = some (.ins C dx fs)) (hl : fs.lookup m = none) (ha : EvA ts σ H vs) (hok : ∀ H1, Ex H H1 → ok (.ref a :: vs) H1 z) : Ev (tMeth C m (Pure ok) [] E to ts) σ H z := fun H1 e Q q =>
  h H1 e _ fun H2 e2 => ⟨a, dx, fs, rfl, (e.trans e2) _ _ ho, hl, ha H2 (e.trans e2) _ fun H3 e3 => by
    rw [List.append_nil]
    exact ⟨z, hok H3 ((e.trans e2).trans e3), fun H4 e4 => q H4 ((e2.trans e3).trans e4)⟩⟩
theorem rv_inO {ok : List V → Hp → V → Prop} {E : XK} {b : Bool} (ho : H a = some (.ins C dx fs)) (hok : ∀ H1, Ex H H1 → ok [.ref a, x] H1 (.bl b)) : RV (rInO C (Pure ok) E) x (.ref a) H (.bl b) := fun H1 e Q q =>
  ⟨a, dx, fs, rfl, e _ _ ho, .bl b, hok H1 e, fun H2 e2 => ⟨b, rfl, q H2 e2⟩⟩
theorem rv_niO {ok : List V → Hp → V → Prop} {E : XK} {b : Bool} (ho : H a = some (.ins C dx fs)) (hok : ∀ H1, Ex H H1 → ok [.ref a, x] H1 (.bl b)) : RV (rNiO C (Pure ok) E) x (.ref a) H (.bl (!b)) := fun H1 e Q q =>
  ⟨a, dx, fs, rfl, e _ _ ho, .bl b, hok H1 e, fun H2 e2 => ⟨b, rfl, q H2 e2⟩⟩
theorem rc_lenO {ok : List V → Hp → V → Prop} {E : XK} {n : Int} (ho : H a = some (.ins C dx fs)) (h0 : 0 ≤ n) (h1 : n < 2 ^ 63) (hok : ∀ H1, Ex H H1 → ok [.ref a] H1 (.int n)) : RC (rLenO C (Pure ok) E) [.ref a] H (.int n) := fun H1 e Q q =>
  ⟨a, dx, fs, rfl, e _ _ ho, .int n, hok H1 e, fun H2 e2 => ⟨n, rfl, h0, h1, q H2 e2⟩⟩
end
end Wo
set_option Elab.async false
set_option linter.all false
set_option maxRecDepth 100000
set_option maxHeartbeats 4000000
namespace Wo
open PySem PySem.Spec PyProof.Rows L2 Evl Vr En
section
variable {σ : L2.St} {H H' : Hp} {te ta tb tc tn to : TE} {t : TT} {tr ts tk : TA} {tz tu : TS} {D : Ends} {K : PySem.W.Frag} {w : World} {x y z v : V} {g : TG}
def Tupd (ok : List V → Hp → List V → Prop) : Sp := fun vs H Q _ => ∃ xs, ok vs H xs ∧ ∀ p H', H p = none → Ex H H' → H' p = some (.tup xs) → Q (.ref p) H'
theorem eu_callT {ok : List V → Hp → List V → Prop} {E : XK} {ts : TA} {vs xs : List V} (h : EvA ts σ H vs) (ho : ∀ H1, Ex H H1 → ok vs H1 xs) : EvU (tCall (Tupd ok) [] E ts) σ H xs := fun H1 e Q q =>
  h H1 e _ fun H2 e2 => by
    show Tupd ok (vs ++ []) H2 Q E
    rw [List.append_nil]
    exact ⟨xs, ho H2 (e.trans e2), fun p H3 hp e3 h3 => q p H3 (fresh_back e2 hp) (e2.trans e3) h3⟩
theorem q_asg2T {i j : Nat} {p : Addr} {v1 v2 : V} (h : Ev te σ H (.ref p)) (hT : SqT K H p [v1, v2]) (k : ∀ H1, Ex H H1 → tz D ((σ.set i (some v1)).set j (some v2)) H1) : tSeq (tAsg te (gTup K 2 (gCons (gName i) (gCons (gName j) gNil)))) tz D σ H :=
  h H (Ex.refl H) _ fun H1 e => ⟨p, [v1, v2], rfl, ex_t e hT, rfl, v1, [v2], rfl, v2, [], rfl, rfl, k H1 e⟩
theorem q_asg4T {i j l m : Nat} {p : Addr} {v1 v2 v3 v4 : V} (h : Ev te σ H (.ref p)) (hT : SqT K H p [v1, v2, v3, v4]) (k : ∀ H1, Ex H H1 → tz D ((((σ.set i (some v1)).set j (some v2)).set l (some v3)).set m (some v4)) H1) : tSeq (tAsg te (gTup K 4 (gCons (gName i) (gCons (gName j) (gCons (gName l) (gCons (gName m) gNil)))))) tz D σ H :=
  h H (Ex.refl H) _ fun H1 e => ⟨p, [v1, v2, v3, v4], rfl, ex_t e hT, rfl, v1, _, rfl, v2, _, rfl, v3, _, rfl, v4, [], rfl, rfl, k H1 e⟩
def Lstd (ok : List V → Hp → List V → Prop) : Sp := fun vs H Q _ => ∃ xs, ok vs H xs ∧ ∀ p H', H p = none → Ex H H' → H' p = some (.lst xs) → Q (.ref p) H'
theorem el_callL {ok : List V → Hp → List V → Prop} {E : XK} {ts : TA} {vs xs : List V} (h : EvA ts σ H vs) (ho : ∀ H1, Ex H H1 → ok vs H1 xs) : EvL (tCall (Lstd ok) [] E ts) σ H xs := fun H1 e Q q =>
  h H1 e _ fun H2 e2 => by
    show Lstd ok (vs ++ []) H2 Q E
    rw [List.append_nil]
    exact ⟨xs, ho H2 (e.trans e2), fun p H3 hp e3 h3 => q p H3 (fresh_back e2 hp) (e2.trans e3) h3⟩
theorem eu_if {b : Bool} {xs : List V} (h : EvT t σ H b) (h1 : b = true → EvU ta σ H xs) (h2 : b = false → EvU tb σ H xs) : EvU (tIf t ta tb) σ H xs := fun H1 e Q q => h H1 e _ fun H2 e2 => by
  match b with
  | true =>
    rw [if_pos rfl]
    exact h1 rfl H2 (e.trans e2) Q fun p H3 hp e3 h3 => q p H3 (fresh_back e2 hp) (e2.trans e3) h3
  | false =>
    rw [if_neg Bool.false_ne_true]
    exact h2 rfl H2 (e.trans e2) Q fun p H3 hp e3 h3 => q p H3 (fresh_back e2 hp) (e2.trans e3) h3
theorem ea_starL {xs ys : List V} (h : EvL te σ H xs) (hr : ∀ H1, Ex H H1 → EvA tr σ H1 ys) : EvA (StX.tStar K te tr) σ H (xs ++ ys) := fun H1 e Q q =>
  h H1 e _ fun p H2 hp e2 h2 => ⟨p, xs, rfl, .inr (sq_of h2), hr H2 (e.trans e2) H2 (Ex.refl H2) _ fun H3 e3 => q H3 (e2.trans e3)⟩
theorem given_int (l : List Int) (g : Int → Bool) : given l.length (fun i => g (l.getD i 0)) (fun i => V.int (l.getD i 0)) = (l.filter g).map V.int := by
  unfold given
  have e : (List.range l.length).map (fun i => l.getD i 0) = l := by
    apply List.ext_getElem
    · simp
    · intro i h1 h2
      simp [List.getD_eq_getElem?_getD, List.getElem?_eq_getElem h2]
  conv => rhs; rw [← e, List.filter_map, List.map_map]
  rfl
theorem ev_callT {ok : List V → Hp → V → Prop} {E : XK} {xs vs : List V} (h1 : EvU ta σ H xs) (h2 : ∀ H1, Ex H H1 → EvA tr σ H1 vs) (ho : ∀ p H1, Ex H H1 → H1 p = some (.tup xs) → ok (.ref p :: vs) H1 z) : Ev (tCall (Pure ok) [] E (tCons ta tr)) σ H z := fun H1 e Q q =>
  h1 H1 e _ fun p H2 hp e2 hx => h2 H2 (e.trans e2) H2 (Ex.refl H2) _ fun H3 e3 => by
    show Pure ok ((.ref p :: vs) ++ []) H3 Q E
    rw [List.append_nil]
    exact ⟨z, ho p H3 ((e.trans e2).trans e3) (e3 _ _ hx), fun H4 e4 => q H4 ((e2.trans e3).trans e4)⟩
theorem ev_anyN {bs : List Bool} (ha : EvL ta σ H (bs.map V.bl)) : Ev (tCB (rAny K) (tCons ta tNil)) σ H (.bl (bs.any id)) := fun H1 e Q q =>
  ha H1 e _ fun p H2 _ e2 h2 => ⟨p, bs, rfl, sq_of h2, q H2 e2⟩
theorem ev_minN {ns : List Int} {m : Int} (ha : EvL ta σ H (ns.map V.int)) (hm : m ∈ ns) (hl : ∀ y ∈ ns, m ≤ y) : Ev (tCB (rMin K) (tCons ta tNil)) σ H (.int m) := fun H1 e Q q =>
  ha H1 e _ fun p H2 _ e2 h2 => ⟨p, ns, rfl, sq_of h2, List.length_pos_of_mem hm, fun m' h1 h3 => by
    have e4 : m' = m := Int.le_antisymm (h3 m hm) (hl m' h1)
    rw [e4]
    exact q H2 e2⟩
theorem el_lcT {a : Addr} {xs : List V} {tl : TE} {j : Nat} {vs : List Nat} (f : Nat → Bool) (v : Nat → V) (h : Ev tl σ H (.ref a)) (hx : SqT K H a xs) (hz : xs.length ≤ 40000) (hw : ∀ x, wipe ((wipe σ vs).set j (some x)) vs = wipe σ vs)
    (ht : ∀ (i : Nat) (x : V) H1, Ex H H1 → xs[i]? = some x → EvT t ((wipe σ vs).set j (some x)) H1 (f i)) (he : ∀ (i : Nat) (x : V) H1, Ex H H1 → xs[i]? = some x → f i = true → Ev te ((wipe σ vs).set j (some x)) H1 (v i)) :
    EvL (tLc (iTup K tl) (gName j) t te vs) σ H (given xs.length f v) := fun H0 e Q q => h H0 e _ fun H1 e1 => ⟨a, rfl, ⟨xs, ex_t (e.trans e1) hx⟩, fun Dl hD =>
  lc_tup (xs := xs) (Cw H1 f v Dl) ⟨hD, Ex.new hD, upd_same⟩ (fun i H' _ p => ex_t ((e.trans e1).trans p.2.1) hx) (fun i x H' hi p => ⟨hw x, cw_turn p (by have := (List.getElem?_eq_some_iff.mp hi).1; omega) (ht i x H1 (e.trans e1) hi) (fun hf => he i x H1 (e.trans e1) hi hf)⟩)
    (fun H' p => q Dl H' (fresh_back e1 p.1) (e1.trans p.2.1) p.2.2)⟩
theorem given_yes_map {α : Type} (l : List α) (d : α) (g : α → V) : given l.length (fun _ => true) (fun i => g (l.getD i d)) = l.map g := by
  unfold given
  rw [List.filter_eq_self.mpr (fun _ _ => rfl)]
  apply List.ext_getElem
  · simp
  · intro i h1 h2
    have h3 : i < l.length := by simpa using h2
    simp [List.getD_eq_getElem?_getD, List.getElem?_eq_getElem h3]
theorem rc_isiTup {a : Addr} {xs : List V} (h : SqT K H a xs) : RC (rIsi K) [.ref a, .ty "tuple"] H (.bl true) := fun H1 e Q q => by
  have ht : TyX K H1 (.ref a) (.type "tuple") := by
    rcases ex_t e h with h | ⟨o, its, n, h1, h2, _⟩
    · rcases h with h | ⟨d, h⟩
      · exact .base (.tup h)
      · exact .fTuple h
    · exact .kTuple h1 h2
  exact ⟨_, .ty "tuple", .type "tuple", .type "tuple", true, rfl, .ty _, ht, kit_ty (r := true) (by decide +kernel), q H1 (Ex.refl H1)⟩
theorem rc_lenT {a : Addr} {xs : List V} (h : SqT K H a xs) : RC (rLenS K) [.ref a] H (.int (xs.length : Int)) := fun H1 e _ q => ⟨a, xs, rfl, .inr (ex_t e h), q H1 (Ex.refl H1)⟩
theorem within_ok {lo hi n : Int} (h : lo ≤ n ∧ n ≤ hi) (hl : -1000000000 ≤ lo) (hh : hi ≤ 1000000000) : isWithin lo hi (.int n) = true := by
  unfold isWithin isIntV
  simp only [Bool.and_eq_true, decide_eq_true_eq]
  omega
theorem ev_allN {bs : List Bool} (ha : EvL ta σ H (bs.map V.bl)) : Ev (tCB (rAll K) (tCons ta tNil)) σ H (.bl (bs.all id)) := fun H1 e Q q =>
  ha H1 e _ fun p H2 _ e2 h2 => ⟨p, bs, rfl, sq_of h2, q H2 e2⟩
theorem ev_callVT {ok : List V → Hp → V → Prop} {E : XK} {x : V} {xs vs : List V} (h0 : Ev ta σ H x) (h1 : EvU tb σ H xs) (h2 : ∀ H1, Ex H H1 → EvA tr σ H1 vs) (ho : ∀ p H1, Ex H H1 → H1 p = some (.tup xs) → ok (x :: .ref p :: vs) H1 z) : Ev (tCall (Pure ok) [] E (tCons ta (tCons tb tr))) σ H z := fun H0 e0 Q q =>
  h0 H0 e0 _ fun H1 e1 => h1 H1 (e0.trans e1) _ fun p H2 hp e2 hx => h2 H2 ((e0.trans e1).trans e2) H2 (Ex.refl H2) _ fun H3 e3 => by
    show Pure ok ((x :: .ref p :: vs) ++ []) H3 Q E
    rw [List.append_nil]
    exact ⟨z, ho p H3 (((e0.trans e1).trans e2).trans e3) (e3 _ _ hx), fun H4 e4 => q H4 (((e1.trans e2).trans e3).trans e4)⟩
theorem given_filter {α : Type} (l : List α) (d : α) (g : α → Bool) (h : α → V) : given l.length (fun i => g (l.getD i d)) (fun i => h (l.getD i d)) = (l.filter g).map h := by
  unfold given
  have e : (List.range l.length).map (fun i => l.getD i d) = l := by
    apply List.ext_getElem
    · simp
    · intro i h1 h2
      simp [List.getD_eq_getElem?_getD, List.getElem?_eq_getElem h2]
  conv => rhs; rw [← e, List.filter_map, List.map_map]
  rfl
theorem lay_ints : ∀ ns : List Int, PyData.canLayAll0 (ns.map PyData.int) = true ∧ PyData.depthAll (ns.map PyData.int) = 0
  | [] => ⟨rfl, rfl⟩
  | n :: ns => by
    have h := lay_ints ns
    refine ⟨?_, ?_⟩
    · show (true && PyData.canLayAll0 (ns.map PyData.int)) = true
      rw [h.1]
      rfl
    · show max 0 (PyData.depthAll (ns.map PyData.int)) = 0
      rw [h.2]
      rfl
theorem shaped_ints (ns : List Int) : SeqAt.shaped (.list (ns.map PyData.int)) = true := by
  have h := lay_ints ns
  show (PyData.canLayAll0 (ns.map PyData.int) && decide (PyData.depthAll (ns.map PyData.int) + 1 ≤ 64)) = true
  rw [h.1, h.2]
  rfl
def DrawsT (ok : List V → Hp → Addr → (List V → Prop) → Prop) : Sp := fun vs H Q _ => ∃ p R, ok vs H p R ∧ Dice p H ∧ ∀ a xs H', R xs → a ≠ p → Exd p H H' → Dice p H' → H' a = some (.tup xs) → Q (.ref a) H'
theorem du_callT {ok : List V → Hp → Addr → (List V → Prop) → Prop} {E : XK} {ts : TA} {p : Addr} {R : List V → Prop} {vs : List V} (h : ∀ H1, Exd p H H1 → Dice p H1 → EvA ts σ H1 vs) (ho : ∀ H1, Exd p H H1 → Dice p H1 → ok vs H1 p R) : DvU K p (tCall (DrawsT ok) [] E ts) σ H R := fun H1 e d Q q =>
  h H1 e d H1 (Ex.refl H1) _ fun H2 e2 => by
    show DrawsT ok (vs ++ []) H2 Q E
    rw [List.append_nil]
    exact ⟨p, R, ho H2 (e.trans (Exd.of e2)) (d.ex e2), d.ex e2, fun a xs H3 hx ha e3 d3 h3 => q a xs H3 hx ha ((Exd.of e2).trans e3) d3 (st_of h3)⟩
theorem s_retT {p : Addr} {ts : TA} {R : List V → Prop} (h : DvA p ts σ H R) (hd : Dice p H) (hl : ∀ xs, R xs → xs.length ≤ 100000) (k : ∀ a xs H1, R xs → a ≠ p → Exd p H H1 → Dice p H1 → H1 a = some (.tup xs) → D.rt (.ref a) H1) : tRet (tTup ts) D σ H :=
  h H (Exd.refl p H) hd _ fun xs H1 hx e1 d1 => ⟨sz_of (hl xs hx), fun a ha => k a xs _ hx (d1.ne ha) (e1.trans (Exd.of (Ex.new ha))) (d1.ex (Ex.new ha)) upd_same⟩
theorem da_nil0 {p : Addr} : DvA p tNil σ H (fun vs => vs = []) := fun H1 e d Q q => q [] H1 rfl (Exd.refl p H1) d
theorem da_cons2 {p : Addr} {R1 : V → Prop} {R2' : List V → Prop} (h : Dv p te σ H R1) (hr : DvA p tr σ H R2') : DvA p (tCons te tr) σ H (fun vs => ∃ v ws, vs = v :: ws ∧ R1 v ∧ R2' ws) := fun H1 e d Q q =>
  h H1 e d _ fun v H2 r e2 d2 => hr H2 (e.trans e2) d2 _ fun ws H3 rs e3 d3 => q (v :: ws) H3 ⟨v, ws, rfl, r, rs⟩ (e2.trans e3) d3
theorem q_asgLc {p : Addr} {n i j : Nat} {vs : List Nat} {R : V → Prop} {tz : TS} (hw : ∀ x, wipe ((wipe σ vs).set j (some x)) vs = wipe σ vs) (hn : n ≤ 1000) (he : ∀ k : Nat, k < n → Dv p te ((wipe σ vs).set j (some (.int (0 + (k : Int))))) H R) (hd : Dice p H)
    (k : ∀ l xs H2, (xs.length = n ∧ ∀ v ∈ xs, R v) → l ≠ p → Exd p H H2 → Dice p H2 → H2 l = some (.lst xs) → tz D (σ.set i (some (.ref l))) H2) : tSeq (tAsg (tLc (iRng1 (tCons (tC (.int n)) tNil)) (gName j) tYes te vs) (gName i)) tz D σ H := dl_lcR (Q := fun v H2 => tz D (σ.set i (some v)) H2) hw hn he hd k
def reprV : V → Str
  | .int i => toString i
  | .bl b => if b then "True" else "False"
  | _ => "None"
def reprOk : V → Prop
  | .int i => i.natAbs.log2 < 1920
  | .bl _ => True
  | .non => True
  | _ => False
def rReprA : List V → Hp → VK → Prop := fun xs H Q => ∃ x, xs = [x] ∧ reprOk x ∧ Q (.str (reprV x)) H
theorem c_reprA {X : Cx} : CallR X (.builtin "repr") rReprA := by
  intro pins s σ H xs us Q I r h
  obtain ⟨x, rfl, hz, q⟩ := h
  match x, hz with
  | .int i, hz => 
    obtain ⟨u, rfl, t, rfl⟩ := vals1 r
    exact PySem.P.repr_of_int hz ⟨.str _, H, I.tok _, ⟨_, rfl⟩, q⟩
  | .bl b, _ =>
    obtain ⟨u, rfl, rfl⟩ := vals1 r
    exact PySem.P.repr_of_bool ⟨.str _, H, I.tok _, ⟨_, rfl⟩, q⟩
  | .non, _ =>
    obtain ⟨u, rfl, rfl⟩ := vals1 r
    exact PySem.P.repr_of_none ⟨.str _, H, I.tok _, ⟨_, rfl⟩, q⟩
theorem rc_reprA (h : reprOk x) : RC rReprA [x] H (.str (reprV x)) := fun H1 _ _ q => ⟨x, rfl, h, q H1 (Ex.refl H1)⟩
theorem el_cat {xs ys : List V} (h1 : EvL ta σ H xs) (h2 : EvL tb σ H ys) (hz : xs.length + ys.length ≤ 100000) : EvL (tOp rCat ta tb) σ H (xs ++ ys) := fun H1 e Q q =>
  h1 H1 e _ fun p H2 hp e2 hx => h2 H2 (e.trans e2) _ fun r H3 hr e3 hy => ⟨p, r, xs, ys, rfl, rfl, e3 _ _ hx, hy, sz_of hz, fun l hl =>
    q l _ (fresh_back (e2.trans e3) hl) ((e2.trans e3).trans (Ex.new hl)) upd_same⟩
theorem q_asg2UU {tz : TS} {i j : Nat} {xs ys : List V} (h1 : EvU ta σ H xs) (h2 : EvU tb σ H ys) (k : ∀ p r H1, H p = none → H r = none → Ex H H1 → H1 p = some (.tup xs) → H1 r = some (.tup ys) → tz D ((σ.set i (some (.ref p))).set j (some (.ref r))) H1) :
    tSeq (tAsg (tTup (tCons ta (tCons tb tNil))) (gTup K 2 (gCons (gName i) (gCons (gName j) gNil)))) tz D σ H :=
  h1 H (Ex.refl H) _ fun p H1 hp e1 hx => h2 H1 e1 _ fun r H2 hr e2 hy => ⟨by show 2 ≤ sizeLine; decide, fun t ht => ⟨t, [.ref p, .ref r], rfl, st_of upd_same, rfl, .ref p, [.ref r], rfl, .ref r, [], rfl, rfl,
    k p r _ hp (fresh_back e1 hr) ((e1.trans e2).trans (Ex.new ht)) (Ex.new ht _ _ (e2 _ _ hx)) (Ex.new ht _ _ hy)⟩⟩
theorem q_parUU {tz : TS} {i j : Nat} {xs ys : List V} (h1 : EvU ta σ H xs) (h2 : EvU tb σ H ys) (k : ∀ p r H1, H p = none → H r = none → Ex H H1 → H1 p = some (.tup xs) → H1 r = some (.tup ys) → tz D ((σ.set i (some (.ref p))).set j (some (.ref r))) H1) : tSeq (tPar i j (tCons ta (tCons tb tNil))) tz D σ H :=
  h1 H (Ex.refl H) _ fun p H1 hp e1 hx => h2 H1 e1 _ fun r H2 hr e2 hy => ⟨.ref p, .ref r, rfl, k p r H2 hp (fresh_back e1 hr) (e1.trans e2) (e2 _ _ hx) hy⟩
theorem bool_iff {a b : Bool} (h : a = true ↔ b = true) : a = b := by
  cases a <;> cases b <;> simp_all
theorem s_forDv {p : Addr} {R : List V → Prop} (h : DvA p ts σ H R) (hd : Dice p H) (hz : ∀ xs, R xs → xs.length ≤ 100000) (Pv : Addr → List V → Nat → L2.St → Hp → Prop) (h0 : ∀ t xs H1, R xs → t ≠ p → Exd p H H1 → Dice p H1 → H1 t = some (.tup xs) → Pv t xs 0 σ H1)
    (hl : ∀ t xs i σ' H', i ≤ xs.length → Pv t xs i σ' H' → SqT K H' t xs) (hs : ∀ t xs i x σ' H', R xs → xs[i]? = some x → Pv t xs i σ' H' → g x σ' H' fun σ2 H2 => tu { D with nx := Pv t xs (i + 1), ct := Pv t xs (i + 1), bk := D.nx } σ2 H2) (hd2 : ∀ t xs σ' H', Pv t xs xs.length σ' H' → D.nx σ' H') : tFor (iTup K (tTup ts)) g tu D σ H :=
  h H (Exd.refl p H) hd _ fun xs H1 hx e1 d1 => ⟨sz_of (hz xs hx), fun t ht => ⟨t, rfl, ⟨xs, st_of upd_same⟩, for_tup (Pv t xs) (h0 t xs _ hx (d1.ne ht) (e1.trans (Exd.of (Ex.new ht))) (d1.ex (Ex.new ht)) upd_same) (hl t xs) (fun i x σ' H' hi p' => hs t xs i x σ' H' hx hi p') (hd2 t xs)⟩⟩
theorem q_same {x : V} : (!decide (x = x)) = false := by simp
theorem shaped_tup (ns : List Int) : SeqAt.shaped (.tuple (ns.map PyData.int)) = true := by
  have h := lay_ints ns
  show (PyData.canLayAll0 (ns.map PyData.int) && decide (PyData.depthAll (ns.map PyData.int) + 1 ≤ 64)) = true
  rw [h.1, h.2]
  rfl
theorem eqv_ints : ∀ ns : List Int, PyData.eqvAll (ns.map PyData.int) (ns.map PyData.int) = true
  | [] => rfl
  | n :: ns => by
    show ((n == n) && PyData.eqvAll (ns.map PyData.int) (ns.map PyData.int)) = true
    rw [eqv_ints ns]
    simp
theorem eqv_tup (ns : List Int) : PyData.eqv (.tuple (ns.map PyData.int)) (.tuple (ns.map PyData.int)) = true := eqv_ints ns
theorem evd_intsU {ns : List Int} (h : EvU te σ H (ns.map V.int)) : EvD K te σ H (.tuple (ns.map PyData.int)) := fun H1 e Q q => h H1 e Q fun p H2 _ e2 h2 => q _ H2 e2 (.tup (st_of h2) (dpa_ints ns))
theorem evd_intsT {a : Addr} {ns : List Int} (h : Ev te σ H (.ref a)) (hT : SqT K H a (ns.map V.int)) : EvD K te σ H (.tuple (ns.map PyData.int)) := fun H1 e Q q => h H1 e Q fun H2 e2 => q _ H2 e2 (.tup (ex_t (e.trans e2) hT) (dpa_ints ns))
def DvN (p : Addr) (te : TE) (σ : L2.St) (H : Hp) (R : List V → Prop) : Prop := ∀ H1, Exd p H H1 → Dice p H1 → ∀ Q : VK, (∀ b xs H2, R xs → b ≠ p → Exd p H1 H2 → Dice p H2 → H2 b = some (.tup xs) → Q (.ref b) H2) → te σ H1 Q
theorem dn_callT {ok : List V → Hp → Addr → (List V → Prop) → Prop} {E : XK} {ts : TA} {p : Addr} {R : List V → Prop} {vs : List V} (h : ∀ H1, Exd p H H1 → Dice p H1 → EvA ts σ H1 vs) (ho : ∀ H1, Exd p H H1 → Dice p H1 → ok vs H1 p R) : DvN p (tCall (DrawsT ok) [] E ts) σ H R := fun H1 e d Q q =>
  h H1 e d H1 (Ex.refl H1) _ fun H2 e2 => by
    show DrawsT ok (vs ++ []) H2 Q E
    rw [List.append_nil]
    exact ⟨p, R, ho H2 (e.trans (Exd.of e2)) (d.ex e2), d.ex e2, fun a xs H3 hx ha e3 d3 h3 => q a xs H3 hx ha ((Exd.of e2).trans e3) d3 h3⟩
def EvAP (ta : TA) (σ : L2.St) (H : Hp) (P : List V → Hp → Prop) : Prop := ∀ H1, Ex H H1 → ∀ Q : List V → Hp → Prop, (∀ vs H2, Ex H1 H2 → P vs H2 → Q vs H2) → ta σ H1 Q
theorem ap_nil : EvAP tNil σ H (fun vs _ => vs = []) := fun H1 _ _ q => q [] H1 (Ex.refl H1) rfl
theorem ap_cons {P : List V → Hp → Prop} (h : Ev te σ H x) (hr : EvAP tr σ H P) : EvAP (tCons te tr) σ H (fun vs H' => ∃ ws, vs = x :: ws ∧ P ws H') := fun H1 e Q q =>
  h H1 e _ fun H2 e2 => hr H2 (e.trans e2) _ fun ws H3 e3 p => q (x :: ws) H3 (e2.trans e3) ⟨ws, rfl, p⟩
theorem ap_consU {P : List V → Hp → Prop} {xs : List V} (h : EvU te σ H xs) (hr : EvAP tr σ H P) : EvAP (tCons te tr) σ H (fun vs H' => ∃ p ws, vs = .ref p :: ws ∧ H' p = some (.tup xs) ∧ P ws H') := fun H1 e Q q =>
  h H1 e _ fun p H2 hp e2 h2 => hr H2 (e.trans e2) _ fun ws H3 e3 pw => q (.ref p :: ws) H3 (e2.trans e3) ⟨p, ws, rfl, e3 _ _ h2, pw⟩
theorem ev_callAP {ok : List V → Hp → V → Prop} {E : XK} {P : List V → Hp → Prop} (h : EvAP ts σ H P) (ho : ∀ vs H1, Ex H H1 → P vs H1 → ok vs H1 z) : Ev (tCall (Pure ok) [] E ts) σ H z := fun H1 e Q q =>
  h H1 e _ fun vs H2 e2 p => by
    show Pure ok (vs ++ []) H2 Q E
    rw [List.append_nil]
    exact ⟨z, ho vs H2 (e.trans e2) p, fun H3 e3 => q H3 (e2.trans e3)⟩
theorem eu_callAP {ok : List V → Hp → List V → Prop} {E : XK} {P : List V → Hp → Prop} {xs : List V} (h : EvAP ts σ H P) (ho : ∀ vs H1, Ex H H1 → P vs H1 → ok vs H1 xs) : EvU (tCall (Tupd ok) [] E ts) σ H xs := fun H1 e Q q =>
  h H1 e _ fun vs H2 e2 pw => by
    show Tupd ok (vs ++ []) H2 Q E
    rw [List.append_nil]
    exact ⟨xs, ho vs H2 (e.trans e2) pw, fun p H3 hp e3 h3 => q p H3 (fresh_back e2 hp) (e2.trans e3) h3⟩
theorem EvAP.mono {P P' : List V → Hp → Prop} (h : EvAP ts σ H P) (k : ∀ vs H1, P vs H1 → P' vs H1) : EvAP ts σ H P' := fun H1 e Q q => h H1 e Q fun vs H2 e2 p => q vs H2 e2 (k vs H2 p)
theorem q_asgD {i : Nat} {d : PyData} (h : EvD K te σ H d) (k : ∀ v H1, Ex H H1 → Dp K H1 v d → tz D (σ.set i (some v)) H1) : tSeq (tAsg te (gName i)) tz D σ H := h H (Ex.refl H) _ fun v H1 e p => k v H1 e p
theorem evd_var {i : Nat} {d : PyData} {v : V} (h : σ[i]? = some (some v)) (p : Dp K H v d) : EvD K (tVar i) σ H d := evd_of (ev_var h) fun H1 e => dp_ex e p
theorem q_asg3U {i j l : Nat} {xs ys zs : List V} (h1 : EvU ta σ H xs) (h2 : EvU tb σ H ys) (h3 : EvU tc σ H zs) (k : ∀ p r s H1, Ex H H1 → H1 p = some (.tup xs) → H1 r = some (.tup ys) → H1 s = some (.tup zs) → tz D (((σ.set i (some (.ref p))).set j (some (.ref r))).set l (some (.ref s))) H1) :
    tSeq (tAsg (tTup (tCons ta (tCons tb (tCons tc tNil)))) (gTup K 3 (gCons (gName i) (gCons (gName j) (gCons (gName l) gNil))))) tz D σ H :=
  h1 H (Ex.refl H) _ fun p H1 hp e1 hx => h2 H1 e1 _ fun r H2 hr e2 hy => h3 H2 (e1.trans e2) _ fun s H3 hs e3 hz => ⟨by show 3 ≤ sizeLine; decide, fun t ht => ⟨t, [.ref p, .ref r, .ref s], rfl, st_of upd_same, rfl, .ref p, [.ref r, .ref s], rfl, .ref r, [.ref s], rfl, .ref s, [], rfl, rfl,
    k p r s _ (((e1.trans e2).trans e3).trans (Ex.new ht)) (Ex.new ht _ _ (e3 _ _ (e2 _ _ hx))) (Ex.new ht _ _ (e3 _ _ hy)) (Ex.new ht _ _ hz)⟩⟩
theorem el_lcNT {xs : List V} {tl : TE} {j : Nat} {vs : List Nat} (f : Nat → Bool) (v : Nat → V) (h : EvU tl σ H xs) (hz : xs.length ≤ 40000) (hw : ∀ x, wipe ((wipe σ vs).set j (some x)) vs = wipe σ vs)
    (ht : ∀ (i : Nat) (x : V) H1, Ex H H1 → xs[i]? = some x → EvT t ((wipe σ vs).set j (some x)) H1 (f i)) (he : ∀ (i : Nat) (x : V) H1, Ex H H1 → xs[i]? = some x → f i = true → Ev te ((wipe σ vs).set j (some x)) H1 (v i)) :
    EvL (tLc (iTup K tl) (gName j) t te vs) σ H (given xs.length f v) := fun H0 e Q q => h H0 e _ fun a H1 ha e1 hx => ⟨a, rfl, ⟨xs, st_of hx⟩, fun Dl hD =>
  lc_tup (xs := xs) (Cw H1 f v Dl) ⟨hD, Ex.new hD, upd_same⟩ (fun i H' _ p => st_of (p.2.1 a _ hx)) (fun i x H' hi p => ⟨hw x, cw_turn p (by have := (List.getElem?_eq_some_iff.mp hi).1; omega) (ht i x H1 (e.trans e1) hi) (fun hf => he i x H1 (e.trans e1) hi hf)⟩)
    (fun H' p => q Dl H' (fresh_back e1 p.1) (e1.trans p.2.1) p.2.2)⟩
theorem dpa_bls {H : Hp} : ∀ bs : List Bool, DpAll K H (bs.map V.bl) (bs.map PyData.bool)
  | [] => .nil
  | b :: bs => .cons (.bl b) (dpa_bls bs)
theorem evd_bls {bs : List Bool} (h : EvL te σ H (bs.map V.bl)) : EvD K te σ H (.list (bs.map PyData.bool)) := fun H1 e Q q => h H1 e Q fun p H2 _ e2 h2 => q _ H2 e2 (.lst (sq_of h2) (dpa_bls bs))
theorem et_notN (h : Ev te σ H x) : EvT (tB (tNotN te)) σ H (!decide (x = .non)) := fun H1 e _ q => h H1 e _ fun H2 e2 => ⟨_, rfl, q H2 e2⟩
theorem ap_consL {P : List V → Hp → Prop} {xs : List V} (h : EvL te σ H xs) (hr : EvAP tr σ H P) : EvAP (tCons te tr) σ H (fun vs H' => ∃ p ws, vs = .ref p :: ws ∧ H' p = some (.lst xs) ∧ P ws H') := fun H1 e Q q =>
  h H1 e _ fun p H2 hp e2 h2 => hr H2 (e.trans e2) _ fun ws H3 e3 pw => q (.ref p :: ws) H3 (e2.trans e3) ⟨p, ws, rfl, e3 _ _ h2, pw⟩
theorem cut1 (xs : List V) : cutV xs (some 1) none = xs.drop 1 := by
  unfold cutV HT.sIx
  cases xs with
  | nil => rfl
  | cons x xs => simp
/-- [e for x, y in zip(list, list) if t] -/
theorem el_lcZip {xs ys : List V} {ta : TA} {j l : Nat} {vs : List Nat} (f : Nat → Bool) (v : Nat → V) (h : EvAP ta σ H (fun vs H1 => ∃ a b, vs = [.ref a, .ref b] ∧ SqL K H1 a xs ∧ SqL K H1 b ys)) (hz : xs.length ≤ 40000)
    (hw : ∀ x y, wipe (((wipe σ vs).set j (some x)).set l (some y)) vs = wipe σ vs)
    (ht : ∀ (i : Nat) (x y : V) H1, Ex H H1 → xs[i]? = some x → ys[i]? = some y → EvT t (((wipe σ vs).set j (some x)).set l (some y)) H1 (f i)) (he : ∀ (i : Nat) (x y : V) H1, Ex H H1 → xs[i]? = some x → ys[i]? = some y → f i = true → Ev te (((wipe σ vs).set j (some x)).set l (some y)) H1 (v i)) :
    EvL (tLc (iZip K ta) (gTup K 2 (gCons (gName j) (gCons (gName l) gNil))) t te vs) σ H (given (min xs.length ys.length) f v) := fun H0 e Q q => h H0 e _ fun us H1 e1 ⟨a, b, hv, hx, hy⟩ => ⟨a, b, xs, ys, hv, hx, hy, fun Dl hD =>
  lc_it (walk_zip rfl) (Cw H1 f v Dl) ⟨hD, Ex.new hD, upd_same⟩ (fun i H' _ p => ⟨ex_l p.2.1 hx, ex_l p.2.1 hy⟩) (fun i x H' H'' hi p y => by
    obtain ⟨T, y1, y2, rfl, hT, rfl, h3, h4⟩ := y
    have eT : Ex H' (upd H' T (.tup [y1, y2])) := Ex.new hT
    refine ⟨T, [y1, y2], rfl, st_of upd_same, rfl, y1, [y2], rfl, y2, [], rfl, rfl, hw _ _, ?_⟩
    have p' : Cw H1 f v Dl i (upd H' T (.tup [y1, y2])) := ⟨p.1, p.2.1.trans eT, eT _ _ p.2.2⟩
    exact cw_turn p' (by omega) (ht i y1 y2 H1 (e.trans e1) h3 h4) (fun hf => he i y1 y2 H1 (e.trans e1) h3 h4 hf))
    (fun H' p => q Dl H' (fresh_back e1 p.1) (e1.trans p.2.1) p.2.2)⟩
theorem ev_strM {z : Str} {g : Str → Bool} (h : Ev to σ H (.str z)) : Ev (tM0 (fun x xs H Q => ∃ a, x = .str a ∧ xs = [] ∧ True ∧ Q (.bl (g a)) H) to) σ H (.bl (g z)) := fun H1 e Q q => h H1 e _ fun H2 e2 => ⟨⟨z, rfl⟩, z, rfl, rfl, trivial, q H2 e2⟩
theorem rc_lenS {z : Str} (h : z.length ≤ 100000) : RC (fun xs H Q => ∃ z, xs = [V.str z] ∧ z.length ≤ sizeLine ∧ Q (.int z.length) H) [.str z] H (.int z.length) := fun H1 _ _ q => ⟨z, rfl, sz_of h, q H1 (Ex.refl H1)⟩
theorem et_yes : EvT tYes σ H true := fun H4 e4 Q' q' => q' H4 (Ex.refl H4)
end
end Wo
set_option Elab.async false
set_option linter.all false
set_option maxRecDepth 100000
set_option maxHeartbeats 4000000
namespace Wo
open PySem PySem.Spec PyProof.Rows L2 Evl Vr En
theorem op_eqDK {X : Cx} {K : PySem.W.Frag} {A0 : Around} (hu : A0.units + 64 < cLine) (hA : X.A = A0) (hK : X.K = K) : OpR X (compareOp .Eq) (rEqD K) := by subst hA hK; exact op_eqD hu
theorem op_neDK {X : Cx} {K : PySem.W.Frag} {A0 : Around} (hu : A0.units + 64 < cLine) (hA : X.A = A0) (hK : X.K = K) : OpR X (compareOp .NotEq) (rNeD K) := by subst hA hK; exact op_neD hu
section
variable {σ : L2.St} {H H' : Hp} {te ta tb tc tn to tl tk tv td ty tx : TE} {t : TT} {tr ts : TA} {tz tu : TS} {D : Ends} {K : PySem.W.Frag} {w : World} {x y z v : V} {g : TG} {a C dx p : Addr} {fs : List (Str × V)} {f : Str}
/-- o.f = value, the object as it was ahead but for this -/
theorem s_fld (hv : Ev tv σ H y) (ha : Ev ta σ H (.ref a)) (ho : H a = some (.ins C dx fs)) (c : Cls K C) (n : NoAttr K C f) (hl : fs.length < 1000) (k : ∀ H1, Ex H H1 → D.nx σ (upd H1 a (.ins C dx (putF f y fs)))) : sFld K ta tv f D σ H :=
  hv H (Ex.refl H) _ fun H1 e1 => ha H1 e1 _ fun H2 e2 => ⟨a, C, dx, fs, rfl, (e1.trans e2) _ _ ho, c, n, hl, k H2 (e1.trans e2)⟩
theorem q_fld (hv : Ev tv σ H y) (ha : Ev ta σ H (.ref a)) (ho : H a = some (.ins C dx fs)) (c : Cls K C) (n : NoAttr K C f) (hl : fs.length < 1000) (k : ∀ H1, Ex H H1 → tz D σ (upd H1 a (.ins C dx (putF f y fs)))) : tSeq (sFld K ta tv f) tz D σ H :=
  s_fld (D := { D with nx := tz D }) hv ha ho c n hl k
theorem q_fldU {xs : List V} (hv : EvU tv σ H xs) (ha : ∀ H1, Ev ta σ H1 (.ref a)) (ho : H a = some (.ins C dx fs)) (c : Cls K C) (n : NoAttr K C f) (hl : fs.length < 1000) (k : ∀ r H1, H r = none → Ex H H1 → H1 r = some (.tup xs) → tz D σ (upd H1 a (.ins C dx (putF f (.ref r) fs)))) : tSeq (sFld K ta tv f) tz D σ H :=
  hv H (Ex.refl H) _ fun r H1 hr e1 h1 => ha H1 H1 (Ex.refl H1) _ fun H2 e2 => ⟨a, C, dx, fs, rfl, (e1.trans e2) _ _ ho, c, n, hl, k r H2 hr (e1.trans e2) (e2 _ _ h1)⟩
theorem s_fldK {kvs : List (Key × V)} (hv : EvK tv σ H kvs) (ha : ∀ H1, Ev ta σ H1 (.ref a)) (ho : H a = some (.ins C dx fs)) (c : Cls K C) (n : NoAttr K C f) (hl : fs.length < 1000) (k : ∀ r H1, H r = none → Ex H H1 → H1 r = some (.dK kvs) → D.nx σ (upd H1 a (.ins C dx (putF f (.ref r) fs)))) : sFld K ta tv f D σ H :=
  hv H (Ex.refl H) _ fun r H1 hr e1 h1 => ha H1 H1 (Ex.refl H1) _ fun H2 e2 => ⟨a, C, dx, fs, rfl, (e1.trans e2) _ _ ho, c, n, hl, k r H2 hr (e1.trans e2) (e2 _ _ h1)⟩
/-- what stands at p is an instance: a tuple told of is another -/
theorem _root_.Vr.Exd.ti {b : Addr} {xs : List V} (e : Exd p H H') (hp : H p = some (.ins C dx fs)) (h : SqT K H b xs) : SqT K H' b xs := by
  rcases h with (h | ⟨o, h⟩) | h
  · exact .inl (.inl (e _ _ (fun z => by rw [z, hp] at h; cases h) h))
  · exact .inl (.inr ⟨o, e _ _ (fun z => by rw [z, hp] at h; cases h) h⟩)
  · exact .inr h
theorem eu_tupL {xs : List V} (h : EvL te σ H xs) : EvU (tCB (rTupL K) (tCons te tNil)) σ H xs := fun H1 e Q q => h H1 e _ fun p H2 hp e2 h2 => ⟨p, xs, rfl, sq_of h2, fun l hl => q l _ (fresh_back e2 hl) (e2.trans (Ex.new hl)) upd_same⟩
/-- {k: v for x in tuple}: the keys all new -/
theorem ek_dcT {xs : List V} {j : Nat} {vs : List Nat} (kvs : Nat → List (Key × V)) (h0 : kvs 0 = []) (h : Ev tl σ H (.ref a)) (hx : SqT K H a xs) (hz : ∀ i, i ≤ xs.length → (kvs i).length ≤ 1000) (hw : ∀ x, wipe ((wipe σ vs).set j (some x)) vs = wipe σ vs)
    (hs : ∀ (i : Nat) (x : V) H1, Ex H H1 → xs[i]? = some x → ∃ k v, Ev tk ((wipe σ vs).set j (some x)) H1 (kV k) ∧ (∀ H2, Ex H1 H2 → Ev tv ((wipe σ vs).set j (some x)) H2 v) ∧ putK (kvs i) k v = kvs (i + 1)) :
    EvK (tDc (iTup K tl) (gName j) tYes tk tv vs) σ H (kvs xs.length) := fun H0 e Q q => h H0 e _ fun H1 e1 => ⟨a, rfl, ⟨xs, ex_t (e.trans e1) hx⟩, fun Dl hD => by
  refine dc_tup (xs := xs) (fun i H' => H1 Dl = none ∧ Ex H1 H' ∧ H' Dl = some (.dK (kvs i))) ⟨hD, Ex.new hD, by rw [h0]; exact upd_same⟩ (fun i H' _ p => ex_t ((e.trans e1).trans p.2.1) hx) (fun i x H' hi p => ⟨hw x, ?_⟩) (fun H' p => q Dl H' (fresh_back e1 p.1) (e1.trans p.2.1) p.2.2)
  obtain ⟨p1, p2, p3⟩ := p
  have hil : i ≤ xs.length := by have := (List.getElem?_eq_some_iff.mp hi).1; omega
  obtain ⟨k, v, hk, hv, hp⟩ := hs i x H' ((e.trans e1).trans p2) hi
  unfold tYes
  dsimp only
  rw [if_pos rfl]
  refine hk H' (Ex.refl H') _ fun H2 e2 => hv H2 e2 H2 (Ex.refl H2) _ fun H3 e3 => ⟨kvs i, k, rfl, (e2.trans e3) _ _ p3, sz_lt (by have := hz i hil; omega), p1, Ex.mut ((p2.trans e2).trans e3) p1, ?_⟩
  rw [hp]
  exact upd_same⟩
theorem ev_dget {d : Addr} {kvs : List (Key × V)} {k : Key} (h1 : Ev td σ H (.ref d)) (h2 : Ev ty σ H (kV k)) (hd : H d = some (.dK kvs)) (hv : valV kvs k = some v) : Ev (tDGet td ty) σ H v := fun H1 e Q q =>
  h1 H1 e _ fun H2 e2 => h2 H2 (e.trans e2) _ fun H3 e3 => ⟨d, v, rfl, by rw [← hv]; exact DGet.k (((e.trans e2).trans e3) _ _ hd), q H3 (e2.trans e3)⟩
theorem ev_din {d : Addr} {kvs : List (Key × V)} {k : Key} (h1 : Ev ty σ H (kV k)) (h2 : Ev td σ H (.ref d)) (hd : H d = some (.dK kvs)) : Ev (tDIn ty td) σ H (.bl (valV kvs k).isSome) := fun H1 e Q q =>
  h1 H1 e _ fun H2 e2 => h2 H2 (e.trans e2) _ fun H3 e3 => ⟨d, _, rfl, DGet.k (((e.trans e2).trans e3) _ _ hd), q H3 (e2.trans e3)⟩
/-- a method that answers None, called for what it does: the object at p is made anew -/
theorem s_dropM {m : Str} {sp : Sp} {E : XK} {vs : List V} (h : Ev to σ H (.ref a)) (ho : H a = some (.ins C dx fs)) (hl : fs.lookup m = none) (ha : ∀ H1, Ex H H1 → EvA ts σ H1 vs) (k : ∀ H1, Ex H H1 → sp (.ref a :: vs) H1 (fun _ H2 => D.nx σ H2) E) : tDrop (tMeth C m sp [] E to ts) D σ H :=
  h H (Ex.refl H) _ fun H2 e2 => ⟨a, dx, fs, rfl, e2 _ _ ho, hl, ha H2 e2 H2 (Ex.refl H2) _ fun H3 e3 => by
    rw [List.append_nil]
    exact k H3 (e2.trans e3)⟩
theorem q_dropM {m : Str} {sp : Sp} {E : XK} {vs : List V} (h : Ev to σ H (.ref a)) (ho : H a = some (.ins C dx fs)) (hl : fs.lookup m = none) (ha : ∀ H1, Ex H H1 → EvA ts σ H1 vs) (k : ∀ H1, Ex H H1 → sp (.ref a :: vs) H1 (fun _ H2 => tz D σ H2) E) : tSeq (tDrop (tMeth C m sp [] E to ts)) tz D σ H :=
  s_dropM (D := { D with nx := tz D }) h ho hl ha k
end
end Wo
set_option Elab.async false
set_option linter.all false
set_option maxRecDepth 100000
set_option maxHeartbeats 2000000
/-! own exceptions with their own __init__, over any base class of the kit's -/
namespace PySem
namespace Xi
open PySem.W PySem.Calls PyProof.Rows PySem.HandSPX Builtin Builtin.ObjectAttr
structure Bs (B ni ii : String) (tl : List Value) : Prop where
  F : ExcBaseFacts B ni ii tl
  pass : ∀ self, refuseLoop self "__setattr__" tl = pure ()
  ob : tl.contains (.type "object") = true
theorem bsIndex : Bs "IndexError" "IndexError.__new__" "IndexError.__init__" [.type "IndexError", .type "LookupError", .type "Exception", .type "BaseException", .type "object"] := ⟨F.excBase_IndexError, F.store_IndexError.passes, by decide +kernel⟩
variable {prog : Program} {w : World} {R : Result → Shared → Prop} {hp : Heap} {g : Array GenState} {d : Drawn} {t : Nat} {os : OsState} {A : Around}
theorem osaG {B ni ii : String} {tl : List Value} (b : Bs B ni ii tl) {K : W.Frag} {nm : Str} {tk : Tok} {y : Value} {e C : Addr} {fv : Array Value} {cd : ClassData} (kin : K.In hp)
    (at_ : hp.get? e = some { cls := .ref C, data := .fields fv }) (cl : W.clsIn K C = some cd) (mr : cd.mro = .ref C :: tl) (hd : cd.hasDict = true) (no : W.findIn K (.ref C) nm = some none)
    (fin : ∀ h' tk' dx, (∀ b o, b ≠ e → hp.get? b = some o → h'.get? b = some o) → hp.objs.size ≤ dx → dx ≠ e → h'.get? e = some { cls := .ref C, dict := some dx, data := .fields fv } → h'.Ns1 dx (fun z => if z = nm then some y else none) → R (.ok (.ret .none)) ⟨h', g, d, tk', os⟩) :
    codeAny (model prog w) A (.call (.builtin "object.__setattr__") ⟨[.ref e, .str nm tk, y], []⟩) R ⟨hp, g, d, t, os⟩ := by
  have J : W.InstAt hp e { cls := .ref C, data := .fields fv } C none := ⟨at_, rfl, rfl, trivial⟩
  have S := F.store_object; have isOb : cd.mro.contains (.type "object") = true := by rw [mr, List.contains_cons, b.ob, Bool.or_true]
  have notEmpty : cd.mro.isEmpty = false := by rw [mr]; rfl
  have far : e ≠ hp.objs.size := Nat.ne_of_lt (Heap.lt_size at_)
  have isSub : W.Looks (model prog w) hp (isInstance (.ref e) (.type "object")) true := J.type.andThen (W.looks_mroIn kin (by unfold W.mroIn; rw [cl, Option.bind_some, if_neg (by rw [notEmpty]; decide), isOb]))
  refine codeAny_call_builtin S.slot.plain S.entry (@W.check_slot (model prog w) _ _ ⟨hp, g, d, t, os⟩ "object.__setattr__" "object" "__setattr__" (.ref e) [.str nm tk, y] [] _ S.kind S.split isSub (S.args (.ref e) (.str nm tk) y) ?_)
  have lm : W.Looks (model prog w) hp (mroOf (.ref C)) cd.mro := (W.looks_clsIn kin cl).andThen .now
  have lt : W.Looks (model prog w) hp (storeTaker? none) none := .now
  have lc : W.Looks (model prog w) hp (classData C) cd := W.looks_clsIn kin cl
  rw [W.osa_eq, refuse_eq]; refine wpAny_bind (wpAny_bind (J.type.at (wpAny_bind (lm.at ?_))))
  rw [mr, refuseLoop_ref, b.pass]; refine wpAny_pure (wpAny_bind (J.type.at (wpAny_bind ((W.looks_findIn kin no).at (wpAny_bind (lt.at ?_))))))
  show wpAny _ _ (storeInOwnDict (.ref e) (.ref C) (.str nm tk) nm y false) _ _ _
  obtain ⟨_, _, _, _, _, hd', _, _, _, _, _⟩ := cd; dsimp only at hd; subst hd; unfold storeInOwnDict ownDictForStores
  repeat (first | with_reducible refine store_in_new ?_ ?_ | with_reducible refine wpAny_loadPart_at at_ ?_ | with_reducible refine lc.at ?_ | wp_step)
  · exact ⟨_, #[], _, (Heap.get?_update_ne _ _ _ _ far.symm).trans (Heap.get?_push_at rfl rfl), rfl, fun _ z => absurd z (by simp), fun _ => rfl⟩
  · intro h' tk' ns' sb
    have at2 : (hp.push { cls := .type "dict", data := .dict #[] }).get? e = some { cls := .ref C, data := .fields fv } := Heap.get?_push_of_some _ at_
    refine fin h' tk' hp.objs.size (fun b o nb ho => ?_) (Nat.le_refl _) far.symm ((sb.2 e far).trans (Heap.get?_update_self _ at2 rfl)) ns'
    exact (sb.2 b (Nat.ne_of_lt (Heap.lt_size ho))).trans ((Heap.get?_update_ne _ _ _ _ nb).trans (Heap.get?_push_of_some _ ho))
end Xi
end PySem
namespace L2
open PySem PySem.Spec PyProof.Rows
/-- what the written part says of such a class -/
structure OxG (K : PySem.W.Frag) (C : Addr) (ni : String) (tl : List Value) : Prop where
  cls : ∃ nm q N bs sn sub ab col dd k0 k1 k2 k3 k5, K.lookup C = some (excClassObj nm q C N bs tl true sn sub ab col dd k0 k1 k2 k3 k5 ni)
  sa : PySem.W.findIn K (.ref C) "__setattr__" = some (some (.builtin "object.__setattr__"))
  exC : PySem.W.subIn K (.ref C) (.type "BaseException") = some true
  tyC : PySem.W.typeIn K (.ref C) = some (.type "type")
  kC : PySem.W.keepIn K (.ref C) = true
section
variable {X : Cx} {pins : List (Addr × Obj)} {σ : St} {H : Hp} {s : Shared} {a C : Addr} {f : Str} {y : V} {u : Value} {Q : Unit → Shared → Prop} {E : Value → Shared → Prop} {A : Around} {B ni ii : String} {tl : List Value}
theorem osG_new (b : PySem.Xi.Bs B ni ii tl) (T : OxG X.K C ni tl) (I : Inv X pins σ H s) (e : H a = some (exo a C none)) (hno : PySem.W.findIn X.K (.ref C) f = some none) (ry : RelV y u)
    (h : ∀ dx s', H dx = none → dx ≠ a → Inv X pins σ (upd (upd H dx (exd dx [(f, y)])) a (exo a C (some dx))) s' → Q () s') : wpAny (model X.prog X.w) A (setAttr (.ref a) f u) Q E s := by
  obtain ⟨nm, q, N, bs, sn, sub, ab, col, dd, k0, k1, k2, k3, k5, hC⟩ := T.cls
  have cl : PySem.W.clsIn X.K C = some { name := nm, bases := bs, mro := .ref C :: tl, ns := N, qualname := q, hasDict := true, slotNames := sn, subclasses := sub, abstract := ab, collection := col, hasDel := false } := by unfold PySem.W.clsIn; rw [hC] <;> rfl
  obtain ⟨t1, at_⟩ := exo_at I.hok e; obtain ⟨hp, g, d, t, os⟩ := s
  refine PySem.W.set_plain I.kIn (ox := { cls := .ref C, dict := none, data := .fields #[.ref t1, .none, .none, .none, .bool false, .none] }) (od := none) ⟨at_, rfl, rfl, trivial⟩ T.sa ?_
  refine PySem.Xi.osaG b I.kIn at_ cl rfl rfl hno (fun h' tk' dx kp big ne there ns' => ?_)
  have fr : H dx = none := I.hok.fresh big
  have n1 : ∀ {b : Addr} {o : Obj}, hp.get? b = some o → b ≠ dx := fun {b o} z => Nat.ne_of_lt (Nat.lt_of_lt_of_le (Heap.lt_size z) big)
  have n2 : ∀ {b : Addr}, H b = none → b ≠ a := fun {b} n z => by rw [z, e] at n; cases n
  have un : Un X.fs [] H (upd (upd H dx (exd dx [(f, y)])) a (exo a C (some dx))) hp h' := {
    keep := fun b o z n _ _ => kp b o (n2 n) z
    slot := fun b o z n _ _ => ⟨o.slots, kp b o (n2 n) z⟩
    free := fun b o z n _ => by rw [upd_ne (n2 n), upd_ne (n1 z)]; exact n
    there := fun b o z _ => by
      by_cases hb : b = a
      · rw [hb]; exact ⟨_, there⟩
      · exact ⟨o, kp b o hb z⟩
    tups := fun b xs z => by rw [upd_ne (at_ne e z exo_tup), upd_ne (ne_of_none z fr)]; exact z
    frzs := fun b o v z => by rw [upd_ne (at_ne e z exo_frz), upd_ne (ne_of_none z fr)]; exact z
    tbls := fun b ps z => ⟨#[], by rw [upd_ne (at_ne e z exo_tbl), upd_ne (ne_of_none z fr), z]; simp⟩ }
  refine h dx _ fr ne (I.un (t' := tk') un fun b o z => ?_)
  by_cases hb : b = a
  · subst hb; rw [upd_same] at z; cases z; exact exo_ok there
  · rw [upd_ne hb] at z
    by_cases hd : b = dx
    · subst hd; rw [upd_same] at z; cases z; exact exd_ok ns' (relO_put (fs := []) ry fun _ => True.intro)
    · rw [upd_ne hd] at z
      refine (I.hok b o z).stay (fun c v hc p => kp c v ?_ p) (fun c hc => by rw [upd_ne (at_ne e hc exo_own), upd_ne (ne_of_none hc fr)]; exact hc) (fun c xs hc => by rw [upd_ne (at_ne e hc exo_tup), upd_ne (ne_of_none hc fr)]; exact hc)
      rcases hc with hc | hc
      · rw [hc]; exact hb
      · exact at_ne e hc exo_own
/-- self.f = e, the first field of an exception in the making -/
def tOsG (K : PySem.W.Frag) (ni : String) (tl : List Value) (f : Str) (to te : TE) : TS := fun D σ H => te σ H fun y H1 => to σ H1 fun x H2 => ∃ a C : Addr, x = .ref a ∧ OxG K C ni tl ∧ PySem.W.findIn K (.ref C) f = some none ∧
  H2 a = some (exo a C none) ∧ ∀ dx, H2 dx = none → dx ≠ a → D.nx σ (upd (upd H2 dx (exd dx [(f, y)])) a (exo a C (some dx)))
theorem ps_osG {o e : Expr} {to te : TE} {p' pos : Pos} (b : PySem.Xi.Bs B ni ii tl) (ho : PE X o to) (he : PE X e te) (hs : swapsWith e (some (.Attribute o f p')) pos.line X.env = pure false := by rfl) : PS X (.Assign [.Attribute o f p'] e pos) (tOsG X.K ni tl f to te) := by
  refine ⟨fun pins s σ H D I h => plainObj_wpAny_Assign_Attribute (thn (he.run pins s σ H _ I h) fun v s1 ⟨y, H1, I1, r1, q1⟩ => thn (ho.run pins s1 σ H1 _ I1 q1) fun u s2 ⟨x, H2, I2, r2, a, C, ex, T, hno, ea, q⟩ => ?_) hs⟩
  subst ex; obtain rfl : u = Value.ref a := r2
  exact osG_new b T I2 ea hno r1 fun dx s' n ne J => ⟨σ, _, J, q dx n ne⟩
/-- C(e, ..), C's own __init__ keeping sp, over a base class b -/
theorem pmk_oxG {e : Expr} {es : List Expr} {ta : TA} {p pos : Pos} {CX : CXT} {x : Str} {fI : Addr} {k : Nat} {fd : FuncData} {ps : List Str} {sp : Sp} {ds : List Value} {dvs : List V} (b : PySem.Xi.Bs B ni ii tl) (T : OxG X.K C ni tl)
    (iC : PySem.W.findIn X.K (.ref C) "__init__" = some (some (.ref fI))) (tI : PySem.W.typeIn X.K (.ref fI) = some (.type "function")) (F1 : FnOk X.prog X.w X.K X.mg X.base CX k fI fd ps sp) (hr : Room (k + 1) X.A) (hb : Binds X.K fd ps ds) (hd : Vals dvs ds)
    (hx : Passes CX X (fun _ _ _ => False)) (hg : Gl X x) (hm : X.mg x = some (.ref C)) (ha : PA X (e :: es) ta) (hdb : (x == ("__debug__" : Str)) = false := by decide) (he : starEach (e :: es) X.env = (false, eval e X.env) :: starEach es X.env := by rfl)
    (hpl : (backTo pos (starEach es X.env)).any (·.1) = false := by rfl) : PMk X (.Call (.Name x p) (e :: es) [] pos) (tMkO C sp dvs ta) := by
  intro pins s σ H Q I h
  obtain ⟨nm, q, N, bs, sn, sub, ab, col, dd, k0, k1, k2, k3, k5, hC⟩ := T.cls
  refine wpAny_Call_Name_kw (ld_glob I hg hm (PySem.W.callWith_K (h₀ := X.base) I.ok.mod.kin T.kC (thn (ha.run pos pins s σ H _ I h) fun us s1 ⟨vs, H1, I1, r1, hz, q1⟩ => ⟨I1.kIn, ?_⟩) he hpl) hdb)
  show wpAny _ _ (call (.ref C) us) _ _ _
  obtain ⟨hp, g, dr, tk, os⟩ := s1
  have big : hp.objs.size ≤ hp.objs.size + 1 := Nat.le_succ _
  have fr : H1 (hp.objs.size + 1) = none := I1.hok.fresh big
  have q2 := q1 (hp.objs.size + 1) fr
  have keep : ∀ b o, hp.get? b = some o → ((hp.push (PySem.W.kdv_tup us)).push (PySem.HandSPX.excO C hp.objs.size)).get? b = some o := fun b o z => Heap.get?_push_of_some _ (Heap.get?_push_of_some _ z)
  have there : ((hp.push (PySem.W.kdv_tup us)).push (PySem.HandSPX.excO C hp.objs.size)).get? (hp.objs.size + 1) = some (PySem.HandSPX.excO C hp.objs.size) := by heap_get
  have J : Inv X pins σ (upd H1 (hp.objs.size + 1) (exo (hp.objs.size + 1) C none)) ⟨(hp.push (PySem.W.kdv_tup us)).push (PySem.HandSPX.excO C hp.objs.size), g, dr, tk, os⟩ :=
    I1.laid (t' := tk) (o := exo (hp.objs.size + 1) C none) keep big (exo_ok there)
  have rr : Vals (V.ref (hp.objs.size + 1) :: (vs ++ dvs)) (Value.ref (hp.objs.size + 1) :: (us ++ ds)) := .cons rfl (r1.append hd)
  have len : (Value.ref (hp.objs.size + 1) :: us ++ ds).length = ps.length := by have z := rr.length; rw [F1.len _ _ _ _ q2] at z; exact z.symm
  have short : us.length ≤ sizeLine := by rw [← Paired.length r1, sizeLine_eq]; omega
  refine wpAny_call (PySem.HandSPX.call_own b.F (fun _ => rfl) (I1.kIn _ _ hC) (PySem.W.looks_findIn I1.kIn iC) (fun self => PySem.W.bind_fn I1.kIn self tI) short
    (codeAny_mono (F1.run _ X.stack _ _ ⟨Value.ref (hp.objs.size + 1) :: us, []⟩ (Value.ref (hp.objs.size + 1) :: (us ++ ds)) _ _ (fun _ _ _ => False) (hr.make C us []) (J.env0.make C us []) (hb _ (Value.ref (hp.objs.size + 1) :: us) J.kIn len) rr q2) fun r s' z => ?_))
  cases r with
  | error er => exact hx pins σ _ _ er s' J z
  | ok fl =>
    cases fl with
    | ret u =>
      obtain ⟨v, H2, os2, bare2, un2, hok2, rv, ev, d, fs, ea, ed, hd1, q3⟩ := z
      subst ev; obtain ⟨h2, g2, d2, t2, os'⟩ := s'
      exact ⟨rv, mk_end (raises_own T.exC T.tyC) I1 big keep un2 hok2 os2 bare2 ea ed hd1 q3⟩
    | next | brk | cont => exact z.elim
end
end L2
set_option Elab.async false
set_option linter.all false
set_option maxRecDepth 100000
set_option maxHeartbeats 2000000
/-! several except clauses, with and without names -/
namespace L2
open PySem PySem.Spec PyProof.Rows
structure Cl where
  c : Value
  nm : Option Nat
  ts : Addr → Value → Option Addr → TS
def endsC : Option Nat → Ends → Ends
  | none, D => D
  | some i, D => { nx := fun σ' H' => D.nx (σ'.set i none) H', rt := D.rt, bk := fun σ' H' => D.bk (σ'.set i none) H', ct := fun σ' H' => D.ct (σ'.set i none) H' }
def intoC : Option Nat → Addr → St → St
  | none, _, σ => σ
  | some i, a, σ => σ.set i (some (.ref a))
/-- what the clauses wish of an exception of the body, one behind the other -/
def wCls (K : PySem.W.Frag) (n : Nat) (Wout : WX) (D : Ends) : List Cl → WX
  | [] => Wout
  | k :: r => fun cls d σ H => ∃ b, PySem.W.exmOne K cls k.c = some b ∧ (b = true → ∀ a, H a = none → σ.length = n → k.ts a cls d (endsC k.nm D) (intoC k.nm a σ) H) ∧ (b = false → wCls K n Wout D r cls d σ H)
inductive HdsC (X : Cx) : List ExceptHandler → List Cl → Prop
  | nil : HdsC X [] []
  | plain {x : Str} {c : Value} {ts : Addr → Value → Option Addr → TS} {b₀ : Stmt} {suite : List Stmt} {np pos' : Pos} {hds : List ExceptHandler} {l : List Cl} (hc : Names X x c)
      (su : ∀ (a : Addr) (oe : Obj) (cls : Value) (d : Option Addr) (pn : List (Addr × Obj)), Zc cls d oe → (∃ vs, oe.data = .fields vs) → PSs (X.suite a ((a, oe) :: pn)) (b₀ :: suite) (ts a cls d)) (r : HdsC X hds l) :
      HdsC X (.ExceptHandler (some (.Name x np)) none (b₀ :: suite) pos' :: hds) (⟨c, none, ts⟩ :: l)
  | named {x n : Str} {i : Nat} {c : Value} {ts : Addr → Value → Option Addr → TS} {b₀ : Stmt} {suite : List Stmt} {np pos' : Pos} {hds : List ExceptHandler} {l : List Cl} (hc : Names X x c) (hN : X.N.Nodup) (hi : X.N[i]? = some n) (hl : X.env.kindOf n = some .local)
      (su : ∀ (a : Addr) (oe : Obj) (cls : Value) (d : Option Addr) (pn : List (Addr × Obj)), Zc cls d oe → (∃ vs, oe.data = .fields vs) → PSs (X.suite a ((a, oe) :: pn)) (b₀ :: suite) (ts a cls d)) (r : HdsC X hds l) :
      HdsC X (.ExceptHandler (some (.Name x np)) (some n) (b₀ :: suite) pos' :: hds) (⟨c, some i, ts⟩ :: l)
section
variable {X : Cx} {body : List Stmt} {h₀ : ExceptHandler} {hds : List ExceptHandler} {l : List Cl} {pos : Pos} {tb : WX → TS} {Wout : WX}
theorem ps_try_cls (hs : X.stack = X.env :: X.outer) (hf : X.env.frame = some X.env.locals) (tk : Takes X Wout)
    (bd : ∀ (W : WX) (pn : List (Addr × Obj)) (xe : Value → Shared → Prop), Takes (X.tr pn xe) W → PassesOwn (model X.prog X.w) X.A X.env xe → PSs (X.tr pn xe) body (tb W)) (hh : HdsC X (h₀ :: hds) l) :
    PS X (.Try body (h₀ :: hds) [] [] pos) (fun D σ H => tb (wCls X.K X.N.length Wout D l) D σ H) := by
  refine ⟨fun pins s σ H D I h => ?_⟩
  have ok := I.ok; have fr0 : X.A.frames = some (X.env :: X.outer) := by rw [ok.frames, hs]
  refine wpAny_Try_except (wpAny_mono ((bd (wCls X.K X.N.length Wout D l) (X.pn ++ pins) (fun e t1 => wpAny (model X.prog X.w) X.A (noteFrame e X.env) (fun _ t2 => wpAny (model X.prog X.w) X.A (setFlight e none) (fun _ t3 => wpAny (model X.prog X.w) X.A (handleBy e X.env (h₀ :: hds)) (SP X pins D) X.xe t3) X.xe t2) X.xe t1)
    (fun u s' xx => ?_) PassesOwn.looking).run [] s σ H D (I.toTry _) h) (fun f s1 e1 => ?_) (fun e s1 z => z))
  · obtain ⟨a, B, sI, pins', σ', H', cls, d, rfl, J', nb, up, sky, na, os, ag, wish⟩ := xx
    have J : Inv X pins σ' H' sI := J'.ofTry ok
    have sk : Sky B (X.env :: X.outer) a (Zc cls d) X.env.locals s'.heap := by rw [← hs]; exact sky
    show wpAny (model X.prog X.w) X.A (noteFrame (.ref a) X.env) _ _ _
    refine Sky.land Zc.steady fr0 hf sk fun h3 fl3 up3 => ?_
    have J3 : Inv X pins σ' H' { s' with heap := h3 } := J.landed nb fl3.1 (up.trans up3) os ag
    obtain ⟨oe3, vs3, he3, hz3, hd3⟩ := fl3.there
    have apart : a ∉ frs (X.env :: X.outer) := fun m => by obtain ⟨_, o', e', q⟩ := fl3.2.2.1.mem m; rw [he3] at e'; cases e'; exact q _ hd3
    have nL : a ≠ X.env.locals := fun z => apart (List.mem_filterMap.mpr ⟨X.env, List.mem_cons_self, by rw [hf, z]⟩)
    have nF : a ∉ X.fs := fun m => by obtain ⟨e, he, q⟩ := List.mem_filterMap.mp m; exact apart (List.mem_filterMap.mpr ⟨e, List.mem_cons_of_mem _ he, q⟩)
    have S3 := J3.suite he3 hd3 na nL nF
    have LT : PySem.W.Looks (model X.prog X.w) h3 (typeOf (.ref a)) cls := fun A Q E s k q => wpAny_typeOf_ref (k _ _ he3) (by rw [hz3.1]; exact q)
    have asked : ∀ {x : Str} {c : Value} {np : Pos}, Names X x c → ∀ {Q : Value → Shared → Prop} {E : Value → Shared → Prop}, Q c { s' with heap := h3 } → wpAny (model X.prog X.w) (X.A.mark (some (.ref a))) (eval (.Name x np) X.env) Q E { s' with heap := h3 } := fun {x c np} hc {Q E} q => by
      obtain ⟨hg, db, hm | ⟨hm, hv, hn⟩⟩ := hc
      · exact ld_glob (X := X.suite a ((a, oe3) :: (X.pn ++ pins))) S3 hg hm q db
      · exact ld_blt (X := X.suite a ((a, oe3) :: (X.pn ++ pins))) S3 hg hm hv q hn db
    have go : ∀ {hd2 : List ExceptHandler} {l2 : List Cl}, HdsC X hd2 l2 → wCls X.K X.N.length Wout D l2 cls d σ' H' → wpAny (model X.prog X.w) X.A (handleBy (.ref a) X.env hd2) (SP X pins D) X.xe { s' with heap := h3 } := by
      intro hd2 l2 hk
      induction hk with
      | nil =>
        intro wz
        refine wpAny_handleBy_nil ?_
        obtain ⟨k1, k2, k3, oe, vs, T, oT, ts', he, hz, hd, h1, hr⟩ := id fl3
        unfold PySem.passOn
        refine wpAny_bind (wpAny_field he hd h1 ?_)
        rw [if_neg (show ¬ ((Value.ref T == Value.none) = true) from by simp)]
        have out : wpAny (model X.prog X.w) X.A (setFlight (.ref a) X.env.frame) (fun _ s4 => wpAny (model X.prog X.w) X.A (throw (.ref a) : Sem Flow) (SP X pins D) X.xe s4) X.xe { s' with heap := h3 } := by
          rw [hf]
          exact HandSPX.setFlight_upZ fl3 fun h4 hh4 up4 => wpAny_throw (tk _ _ ⟨a, B, sI, pins, σ', H', cls, d, rfl, J, nb, (up.trans up3).trans up4, .inr (.inr (by rw [hs]; exact hh4)), na, os, ag, wz⟩)
        first
          | exact wpAny_bind (wpAny_pure (wpAny_bind out))
          | exact wpAny_bind out
      | @plain x c ts b₀ suite np pos' hd3' l3 hc su r ih =>
        intro wz
        obtain ⟨b, hb1, yes, no⟩ := wz
        refine wpAny_handleBy_cons (codeAny_handlers_test ?_) (by intro q; cases q)
        refine asked hc ((PySem.W.exm_one (M := model X.prog X.w) (J3.kIn) LT hb1).here ?_)
        cases b with
        | false => exact ih (no rfl)
        | true =>
          refine codeAny_handlers_suite (HandSPX.lands_againZ fl3 fun h4 fl4 up4 => ?_)
          have J4 : Inv X pins σ' H' { s' with heap := h4 } := J.landed nb fl4.1 ((up.trans up3).trans up4) os ag
          obtain ⟨oe4, vs4, he4, hz4, hd4⟩ := fl4.there
          refine wpAny_mono ((su a oe4 cls d (X.pn ++ pins) hz4 ⟨_, hd4⟩).run [] _ _ H' _ (J4.suite he4 hd4 na nL nF) (yes rfl a na J.len)) (fun f s6 z => ?_) (fun _ _ z => z.elim)
          cases f with
          | next | brk | cont => obtain ⟨σ6, H6, S6, q6⟩ := z; exact ⟨_, _, S6.unsuite ok, q6⟩
          | ret u => obtain ⟨v6, σ6, H6, S6, r6, q6⟩ := z; exact ⟨_, _, _, S6.unsuite ok, r6, q6⟩
      | @named x n i c ts b₀ suite np pos' hd3' l3 hc hN hi hln su r ih =>
        intro wz
        obtain ⟨b, hb1, yes, no⟩ := wz
        refine wpAny_handleBy_cons (codeAny_handlers_test ?_) (by intro q; cases q)
        refine asked hc ((PySem.W.exm_one (M := model X.prog X.w) (J3.kIn) LT hb1).here ?_)
        cases b with
        | false => exact ih (no rfl)
        | true =>
          refine codeAny_handlers_suite_as (HandSPX.lands_againZ fl3 fun h4 fl4 up4 => ?_)
          have J4 : Inv X pins σ' H' { s' with heap := h4 } := J.landed nb fl4.1 ((up.trans up3).trans up4) os ag
          obtain ⟨oe4, vs4, he4, hz4, hd4⟩ := fl4.there
          refine store_ok (X := X.suite a ((a, oe4) :: (X.pn ++ pins))) (v := .ref a) (J4.suite he4 hd4 na nL nF) hN hi (.inl hln) rfl (fun s5 S5 => ?_) (.inr hln)
          refine wpAny_mono ((su a oe4 cls d (X.pn ++ pins) hz4 ⟨_, hd4⟩).run [] s5 _ H' _ S5 (yes rfl a na J.len)) (fun f s6 z => ?_) (fun _ _ z => z.elim)
          have off : ∀ {σ6 : St} {H6 : Hp} {Q : Shared → Prop}, Inv (X.suite a ((a, oe4) :: (X.pn ++ pins))) [] σ6 H6 s6 → (∀ s7, Inv X pins (σ6.set i none) H6 s7 → Q s7) → wpAny (model X.prog X.w) X.A (do bindName X.env n .none; unbindBehindTheSuite X.env n pos') (fun _ s7 => Q s7) X.xe s6 :=
            fun {σ6 H6 Q} S6 hq => gone_ok (S6.unsuite ok) hN hi hln hq
          cases f with
          | next | brk | cont => obtain ⟨σ6, H6, S6, q6⟩ := z; exact off S6 fun s7 J7 => ⟨_, _, J7, q6⟩
          | ret u => obtain ⟨v6, σ6, H6, S6, r6, q6⟩ := z; exact off S6 fun s7 J7 => ⟨_, _, _, J7, r6, q6⟩
    exact go hh wish
  · cases f with
    | next => obtain ⟨σ', H', J', q⟩ := e1; exact wpAny_execs_nil ⟨σ', H', J'.ofTry ok, q⟩
    | brk | cont => obtain ⟨σ', H', J', q⟩ := e1; exact ⟨σ', H', J'.ofTry ok, q⟩
    | ret u => obtain ⟨v, σ', H', J', r, q⟩ := e1; exact ⟨v, σ', H', J'.ofTry ok, r, q⟩
end
end L2
set_option Elab.async false
set_option linter.all false
set_option maxRecDepth 100000
set_option maxHeartbeats 2000000
/-! promises that are kept where no repr is under way (the guards are known to be none); repr of data -/
namespace L2
open PySem PySem.Spec PyProof.Rows
structure FnG (P : Program) (w : World) (K : PySem.W.Frag) (mg : Str → Option Value) (base : Heap) (CX : CXT) (k : Nat) (f : Addr) (fd : FuncData) (ps : List Str) (sp : Sp) : Prop where
  len : ∀ vs H Q E, sp vs H Q E → vs.length = ps.length
  go : ∀ (A : Around) (outer : List Env) (s : Shared) (H : Hp) (args : Args) (us : List Value) (vs : List V) (Q : VK) (E : XK), Room k A → A.guards = some [] → Env0 P w K mg base A outer s H → BindsTo s fd args (ps.zip us) → Vals vs us → sp vs H Q E →
    codeAny (model P w) A (.call (.ref f) args) (CR CX outer P w H s Q E) s
section
variable {P : Program} {w : World} {K : PySem.W.Frag} {mg : Str → Option Value} {base : Heap} {CX : CXT} {f : Addr} {fd : FuncData} {ps : List Str} {sp : Sp}
theorem FnG.of {k : Nat} (F : FnOk P w K mg base CX k f fd ps sp) : FnG P w K mg base CX k f fd ps sp := ⟨F.len, fun A outer s H args us vs Q E hr _ e0 hb r h => F.run A outer s H args us vs Q E hr e0 hb r h⟩
theorem Fun.okG {x qual : Str} {st : Stmt} {N : List Str} {k : Nat} (F : Fun K x qual st f fd) (S : FnScope N ps (defScope st)) (len : ∀ vs H Q E, sp vs H Q E → vs.length = ps.length)
    (hbody : ∀ (cdv : Value) (A : Around) (outer : List Env) (s : Shared) (H : Hp) (vs : List V) (Q : VK) (E : XK), Room k (A.deeper (envOfC qual (defScope st) s.heap.objs.size f cdv)) → A.guards = some [] → PySem.W.codeIn K cdv qual = true → sp vs H Q E →
      ∃ t, PSs (cxOf CX P w K mg base N qual (defScope st) f cdv A outer s H E) (defBody st) t ∧ t { nx := fun _ H' => Q .non H', rt := Q } (start N vs) H) : FnG P w K mg base CX (k + 1) f fd ps sp := by
  obtain ⟨oc, od, kV, doc, pm, an, cdv, ct, osl, rfl, lk, hcd⟩ := F.ex
  exact ⟨len, fun A outer s H args us vs Q E hr hg e0 hb r h => LamX.run_ofS lk hcd S hr e0 hb r (len _ _ _ _ h) fun hr2 => hbody cdv A outer s H vs Q E hr2 hg hcd h⟩
end
section
variable {X : Cx} {CX : CXT} {k : Nat} {f : Addr} {fd : FuncData} {ps : List Str} {sp : Sp} {dvs : List V} {ds : List Value} {E : XK} {x : Str} {p pos : Pos} {e : Expr} {es : List Expr} {t : TA}
theorem pe_callG (F : FnG X.prog X.w X.K X.mg X.base CX k f fd ps sp) (hr : Room k X.A) (gd : X.A.guards = some []) (hg : Gl X x) (hm : X.mg x = some (.ref f)) (hk : PySem.W.keepIn X.K (.ref f) = true) (hb : Binds X.K fd ps ds) (hd : Vals dvs ds) (hx : Passes CX X E) (ha : PA X (e :: es) t)
    (hdb : (x == ("__debug__" : Str)) = false := by decide) (he : starEach (e :: es) X.env = (false, eval e X.env) :: starEach es X.env := by rfl) (hpl : (backTo pos (starEach es X.env)).any (·.1) = false := by rfl) : PE X (.Call (.Name x p) (e :: es) [] pos) (tCall sp dvs E t) := by
  refine ⟨fun pins s σ H Q I h => wpAny_Call_Name_kw (ld_glob I hg hm ?_ hdb)⟩
  refine PySem.W.callWith_K (h₀ := X.base) I.ok.mod.kin hk (thn (ha.run pos pins s σ H _ I h) fun us s1 ⟨vs, H1, I1, r, q⟩ => ⟨I1.kIn, ?_⟩) he hpl
  have rr : Vals (vs ++ dvs) (us ++ ds) := r.append hd
  refine wpAny_call (codeAny_mono (F.go X.A X.stack s1 H1 ⟨us, []⟩ (us ++ ds) (vs ++ dvs) Q E hr gd I1.env0 (hb s1 us I1.kIn (by rw [← rr.length]; exact F.len _ _ _ _ q)) rr q) fun r' s' z => ?_)
  cases r' with
  | error e => exact hx pins σ H1 s1 e s' I1 z
  | ok fl =>
    cases fl with
    | ret u => exact I1.after z
    | next | brk | cont => exact z.elim
end
mutual
/-- what is read has no dict -/
theorem Dp.noDict {K : PySem.W.Frag} {H : Hp} : ∀ (d : PyData) (v : V), Dp K H v d → d.hasDict = false
  | .none, _, _ => by simp only [PyData.hasDict]
  | .bool _, _, _ => by simp only [PyData.hasDict]
  | .int _, _, _ => by simp only [PyData.hasDict]
  | .str _, _, _ => by simp only [PyData.hasDict]
  | .list ds, _, h => by cases h with | lst _ h2 => simp only [PyData.hasDict]; exact DpAll.noDict ds _ h2
  | .tuple ds, _, h => by cases h with | tup _ h2 => simp only [PyData.hasDict]; exact DpAll.noDict ds _ h2
  | .dict _, _, h => by cases h
theorem DpAll.noDict {K : PySem.W.Frag} {H : Hp} : ∀ (ds : List PyData) (vs : List V), DpAll K H vs ds → PyData.hasDictAll ds = false
  | [], _, _ => by simp only [PyData.hasDictAll]
  | d :: ds, _, h => by cases h with | cons h1 h2 => simp only [PyData.hasDictAll]; rw [Dp.noDict d _ h1, DpAll.noDict ds _ h2]; rfl
end
/-- repr(e) of data -/
def rReprD (K : PySem.W.Frag) : List V → Hp → VK → Prop := fun xs H Q => ∃ (v : V) (d : PyData), xs = [v] ∧ Dp K H v d ∧ d.showable = true ∧ d.depth ≤ 60 ∧ d.shown.length ≤ sizeLine ∧ Q (.str d.shown) H
theorem c_reprD {X : Cx} (gd : X.A.guards = some []) (hu : X.A.units + 64 < cLine) : CallR X (.builtin "repr") (rReprD X.K) := by
  intro pins s σ H xs us Q I r ⟨v, d, e, hd, hs, hdep, hz, q⟩
  subst e
  cases r with
  | @cons _ u _ _ r1 r2 =>
    cases r2
    obtain ⟨as, hr⟩ := Dp.reads I d v u hd r1
    have nd := Dp.noDict d v hd
    cases d with
    | none => cases hd; obtain rfl : u = Value.none := r1; exact PySem.P.repr_of_none ⟨.str _, H, I.tok _, ⟨_, rfl⟩, q⟩
    | bool b => cases hd; obtain rfl : u = Value.bool b := r1; exact PySem.P.repr_of_bool ⟨.str _, H, I.tok _, ⟨_, rfl⟩, q⟩
    | int i => cases hd; obtain ⟨t, rfl⟩ := r1; exact PySem.P.repr_of_int (by simpa [PyData.showable] using hs) ⟨.str _, H, I.tok _, ⟨_, rfl⟩, q⟩
    | str x => cases hd; obtain ⟨t, rfl⟩ := r1; exact PySem.P.repr_of_str ⟨.str _, H, I.tok _, ⟨_, rfl⟩, q⟩ hz
    | dict kvs => cases hd
    | list ds =>
      cases hd with | lst k1 k2 => obtain rfl : u = Value.ref _ := r1; exact repr_of_reads' hr hs (fun z => absurd z (by rw [nd]; decide)) gd (by omega) (fun _ _ z => z) (fun h' u tk kp => ⟨.str _, H, I.kept kp, ⟨_, rfl⟩, q⟩) hz
    | tuple ds =>
      cases hd with | tup k1 k2 => obtain rfl : u = Value.ref _ := r1; exact repr_of_reads' hr hs (fun z => absurd z (by rw [nd]; decide)) gd (by omega) (fun _ _ z => z) (fun h' u tk kp => ⟨.str _, H, I.kept kp, ⟨_, rfl⟩, q⟩) hz
end L2
set_option Elab.async false
set_option linter.all false
set_option maxRecDepth 100000
set_option maxHeartbeats 4000000
/-! lambdas handed to a def that meets them: what stays where the tables of code objects grow -/
namespace L2
open PySem PySem.Spec PyProof.Rows Evl Vr LamX
section
variable {K : PySem.W.Frag} {H H' : Hp}
theorem xn_t {a : Addr} {xs : List V} (e : ExtN H H') (h : SqT K H a xs) : SqT K H' a xs := by
  rcases h with (h | ⟨o, h⟩) | h
  · exact .inl (.inl (e _ _ h fun _ z => by cases z))
  · exact .inl (.inr ⟨o, e _ _ h fun _ z => by cases z⟩)
  · exact .inr h
theorem xn_l {a : Addr} {xs : List V} (e : ExtN H H') (h : SqL K H a xs) : SqL K H' a xs := by
  rcases h with (h | ⟨o, h⟩) | h
  · exact .inl (.inl (e _ _ h fun _ z => by cases z))
  · exact .inl (.inr ⟨o, e _ _ h fun _ z => by cases z⟩)
  · exact .inr h
theorem xn_ty {x : V} {u : Value} (e : ExtN H H') (h : TyX K H x u) : TyX K H' x u := by
  cases h with
  | base b =>
    cases b with
    | non => exact .base .non
    | bl y => exact .base (.bl y)
    | int y => exact .base (.int y)
    | str y => exact .base (.str y)
    | flt y => exact .base (.flt y)
    | lst h => exact .base (.lst (e _ _ h fun _ z => by cases z))
    | frz h => exact .base (.frz (e _ _ h fun _ z => by cases z))
    | tup h => exact .base (.tup (e _ _ h fun _ z => by cases z))
    | dK h => exact .base (.dK (e _ _ h fun _ z => by cases z))
    | dT h => exact .base (.dT (e _ _ h fun _ z => by cases z))
    | ins h a b c d f => exact .base (.ins (e _ _ h fun _ z => by cases z) a b c d f)
  | byt b => exact .byt b
  | set h => exact .set (e _ _ h fun _ z => by cases z)
  | kList h c => exact .kList h c
  | kTuple h c => exact .kTuple h c
  | kDict h c => exact .kDict h c
  | fTuple h => exact .fTuple (e _ _ h fun _ z => by cases z)
  | fDict h => exact .fDict (e _ _ h fun _ z => by cases z)
theorem Plain.xn {x : V} (e : ExtN H H') (h : Plain K H x) : Plain K H' x := by
  obtain ⟨n, h⟩ := h
  exact ⟨n, xn_ty e h⟩
mutual
theorem Dp.xn (e : ExtN H H') : ∀ (d : PyData) (v : V), Dp K H v d → Dp K H' v d
  | .none, _, h => by cases h; exact .non
  | .bool b, _, h => by cases h; exact .bl b
  | .int i, _, h => by cases h; exact .int i
  | .str z, _, h => by cases h; exact .str z
  | .list ds, _, h => by cases h with | lst h1 h2 => exact .lst (xn_l e h1) (DpAll.xn e ds _ h2)
  | .tuple ds, _, h => by cases h with | tup h1 h2 => exact .tup (xn_t e h1) (DpAll.xn e ds _ h2)
  | .dict _, _, h => by cases h
theorem DpAll.xn (e : ExtN H H') : ∀ (ds : List PyData) (vs : List V), DpAll K H vs ds → DpAll K H' vs ds
  | [], _, h => by cases h; exact .nil
  | d :: ds, _, h => by cases h with | cons h1 h2 => exact .cons (Dp.xn e d _ h1) (DpAll.xn e ds _ h2)
end
theorem xn_ex (e : Ex H H') : ExtN H H' := fun b o h _ => e b o h
/-- what repr tells of it -/
def Rp (K : PySem.W.Frag) (H : Hp) (v : V) (y : PyData) : Prop := Dp K H v y ∧ y.showable = true ∧ y.depth ≤ 60 ∧ y.shown.length ≤ sizeLine
theorem Rp.xn {v : V} {y : PyData} (e : ExtN H H') (h : Rp K H v y) : Rp K H' v y := ⟨Dp.xn e _ _ h.1, h.2⟩
end
/-! ### defs that make lambdas: their code object is told -/
structure FunL (K : PySem.W.Frag) (x qual : Str) (st : Stmt) (c f : Addr) (fd : FuncData) : Prop where
  ex : ∃ (oc : Value) (od : Option Addr) (kV doc pm : Value) (an : Option Addr) (ct : Value) (osl : Array (Option Value)), fd = PySem.W.fnOf x qual (defArgs st) (defBody st) (defScope st) .none kV doc pm an (.ref c) ct ∧ K.lookup f = some ⟨oc, od, .func fd, osl⟩ ∧ PySem.W.codeIn K (.ref c) qual = true
  kp : PySem.W.keepIn K (.ref f) = true
section
variable {P : Program} {w : World} {K : PySem.W.Frag} {mg : Str → Option Value} {base : Heap} {CX : CXT} {f c : Addr} {fd : FuncData} {ps : List Str} {sp : Sp}
theorem FunL.okG {x qual : Str} {st : Stmt} {N : List Str} {k : Nat} (F : FunL K x qual st c f fd) (S : FnScope N ps (defScope st)) (len : ∀ vs H Q E, sp vs H Q E → vs.length = ps.length)
    (hbody : ∀ (A : Around) (outer : List Env) (s : Shared) (H : Hp) (vs : List V) (Q : VK) (E : XK), Room k (A.deeper (envOfC qual (defScope st) s.heap.objs.size f (.ref c))) → A.guards = some [] → sp vs H Q E →
      ∃ t, PSs (cxOf CX P w K mg base N qual (defScope st) f (.ref c) A outer s H E).nox (defBody st) t ∧ t { nx := fun _ H' => Q .non H', rt := Q } (start N vs) H) : FnG P w K mg base CX (k + 1) f fd ps sp := by
  obtain ⟨oc, od, kV, doc, pm, an, ct, osl, rfl, lk, hcd⟩ := F.ex
  exact ⟨len, fun A outer s H args us vs Q E hr hg e0 hb r h => LamX.run_ofS lk hcd S hr e0 hb r (len _ _ _ _ h) fun hr2 => let ⟨t, h1, h2⟩ := hbody A outer s H vs Q E hr2 hg h; ⟨t, h1.nox, h2⟩⟩
end
/-! ### a call of a slot that holds one of several defs, which may raise -/
structure HeldX (P : Program) (w : World) (K : PySem.W.Frag) (mg : Str → Option Value) (base : Heap) (k : Nat) (f : Addr) (sp : Sp) : Prop where
  ex : ∃ (fd : FuncData) (ps : List Str), FnOk P w K mg base (L2.CX P w) k f fd ps sp ∧ PySem.W.keepIn K (.ref f) = true ∧ Binds K fd ps []
def tCallX (i : Nat) (S : Addr → Sp → Prop) (E : XK) (t : TA) : TE := fun σ H Q => ∃ f sp, σ[i]? = some (some (.ref f)) ∧ S f sp ∧ t σ H fun vs H1 => sp vs H1 Q E
theorem pe_callX {X : Cx} {k i : Nat} {E : XK} {x : Str} {p pos : Pos} {e : Expr} {es : List Expr} {t : TA} {S : Addr → Sp → Prop} (hS : ∀ f sp, S f sp → HeldX X.prog X.w X.K X.mg X.base k f sp) (hr : Room k X.A) (hN : X.N[i]? = some x) (hv : Vis X.env.scope x) (hx : Passes (L2.CX X.prog X.w) X E) (ha : PA X (e :: es) t)
    (hdb : (x == ("__debug__" : Str)) = false := by decide) (hcd : (x == ("__classdict__" : Str)) = false := by decide)
    (he : starEach (e :: es) X.env = (false, eval e X.env) :: starEach es X.env := by rfl) (hpl : (backTo pos (starEach es X.env)).any (·.1) = false := by rfl) : PE X (.Call (.Name x p) (e :: es) [] pos) (tCallX i S E t) := by
  refine ⟨fun pins s σ H Q I h => ?_⟩
  obtain ⟨f, sp, hs, hf, ht⟩ := h
  obtain ⟨fd, ps, F, hk, hb⟩ := (hS f sp hf).ex
  refine (pe_callL (i := i) (f := f) (sp := sp) (dvs := []) (E := E) F hr hN hv hk hb .nil hx ha hdb hcd he hpl).run pins s σ H Q I ⟨hs, ?_⟩
  have z : (fun (vs : List V) (H1 : Hp) => sp (vs ++ []) H1 Q E) = fun vs H1 => sp vs H1 Q E := by
    funext vs H1
    rw [List.append_nil]
  show t σ H (fun vs H1 => sp (vs ++ []) H1 Q E)
  rw [z]
  exact ht
end L2
set_option Elab.async false
set_option linter.all false
set_option maxRecDepth 100000
set_option maxHeartbeats 4000000
/-! the end of a law whose promise is kept where no repr is under way, with tables of code objects -/
namespace L2
open PySem PySem.Spec PyProof.Rows Evl Vr LamX
def oxB (K : PySem.W.Frag) (C : Addr) (ni : String) (tl : List Value) : Bool := match K.lookup C with
  | some ⟨.type "type", _, .cls cd, sl⟩ => (match cd.mro, sl.toList with
    | .ref C' :: bm, [_, _, _, _, some (.builtin n), _] => C' == C && (n == ni && (!cd.hasDel && (decide (bm = tl) && cd.hasDict)))
    | _, _ => false)
  | _ => false
theorem oxB_ok {K : PySem.W.Frag} {C : Addr} {ni : String} {tl : List Value} (h : oxB K C ni tl = true) : ∃ nm q N bs sn sub ab col dd k0 k1 k2 k3 k5, K.lookup C = some (excClassObj nm q C N bs tl true sn sub ab col dd k0 k1 k2 k3 k5 ni) := by
  unfold oxB at h
  split at h
  · rename_i dd cd sl ho
    split at h
    · rename_i C' bm k0 k1 k2 k3 n k5 hm hs
      simp only [Bool.and_eq_true, beq_iff_eq, Bool.not_eq_true', decide_eq_true_eq] at h
      obtain ⟨rfl, rfl, h1, rfl, h2⟩ := h
      obtain ⟨nm, bs, mro, ns, qn, hd, sn, sub, ab, col, del⟩ := cd
      dsimp only at hm h1 h2
      subst hm h1 h2
      obtain ⟨l⟩ := sl
      have hs : l = [k0, k1, k2, k3, some (.builtin n), k5] := hs
      subst hs
      exact ⟨nm, qn, ns, bs, sn, sub, ab, col, dd, k0, k1, k2, k3, k5, ho⟩
    · cases h
  · cases h
/-- an object of a kind that is neither the script's nor a table's is not tracked -/
theorem law_callG {P : Program} {w : World} {K : PySem.W.Frag} {mg mb : Str → Option Value} {CX : CXT} {k : Nat} {fa a : Addr} {cs : List (Addr × Addr)} {fd : FuncData} {x : Str} {sp : Sp} {s : Shared} {us : List Value} {ns : List Int} (kin : K.In s.heap) (g0 : s.heap.Ns mainGlobals mg) (b0 : s.heap.Ns builtinsNs mb)
    (bb : ∀ x : Str, x ≠ "__name__" → mb x = bootBuiltins x) (lim : s.heap.NoLimit) (no : s.gens = #[]) (tabs : ∀ q ∈ cs, s.heap.get? q.2 = some { cls := .none, data := .fields #[] }) (free : ∀ q ∈ cs, K.lookup q.2 = none) (codes : ∀ q ∈ cs, PySem.W.CodeHd s.heap q.1 q.2)
    (main : ∃ (bm : Addr) (ob : Obj), mg "__builtins__" = some (.ref bm) ∧ bm ≠ builtinsNs ∧ s.heap.get? bm = some ob ∧ ob.cls = .type "module" ∧ ob.dict = some builtinsNs ∧ ob.data = .plain) (at_ : s.heap.get? a = some { cls := .type "list", data := .seq us.toArray }) (iva : IntsAre us ns) (short : ns.length ≤ sizeLine)
    (room : Room k callerA) (F : ∀ base : Heap, K.In base → base.Ns mainGlobals mg → (∀ q ∈ cs, TabB base mg q.1 q.2) → FnG P w K mg base CX k fa fd [x] sp) (bnd : ∀ (s : Shared) (u : Value), BindsTo s fd ⟨[u], []⟩ [(x, u)])
    (good : ∀ H : Hp, (∀ q ∈ cs, H q.2 = some (.tbl #[])) → SqL K H a (ns.map V.int) → sp [.ref a] H (fun v _ => v = .bl true) fun _ _ _ => False) (tight : ∀ H e s', CX [] H s (fun _ _ _ => False) e s' → False) :
    codeAny (model P w) callerA (.call (.ref fa) ⟨[.ref a], []⟩) (fun r s' => r = .ok (.ret (.bool true)) ∧ OldK s.heap s'.heap ∧ s'.os = s.os ∧ AllBare s'.gens) s := by
  have vals := vals_ints iva
  let ts := cs.map (·.2)
  have tab : ∀ b ∈ ts, s.heap.get? b = some { cls := .none, data := .fields #[] } := fun b hb => by obtain ⟨q, hq, rfl⟩ := List.mem_map.mp hb; exact tabs q hq
  have mem : ∀ q ∈ cs, q.2 ∈ ts := fun q hq => List.mem_map_of_mem hq
  have apart : a ∉ ts := fun z => by
    have h := tab a z; rw [at_] at h; exact absurd (congrArg Obj.data (Option.some.inj h)) (fun z => by cases z)
  have run : ∀ H : Hp, (∀ q ∈ cs, H q.2 = some (.tbl #[])) → SqL K H a (ns.map V.int) → HOk P w H s.heap → (∀ b, H b = none ∨ b ∈ ts ∨ (b = a ∧ K.lookup a = none ∧ ∃ o xs, H b = some (.frz o (.lst xs)))) →
      codeAny (model P w) callerA (.call (.ref fa) ⟨[.ref a], []⟩) (fun r s' => r = .ok (.ret (.bool true)) ∧ OldK s.heap s'.heap ∧ s'.os = s.os ∧ AllBare s'.gens) s := fun H hq hs ok only => by
    -- what is no list and no table is not tracked
    have away : ∀ {b : Addr} {o : Obj}, s.heap.get? b = some o → (∀ l n, o.data ≠ .seq l n) → o.data ≠ .fields #[] → H b = none := fun {b o} e h1 h2 => by
      rcases only b with z | z | ⟨rfl, _⟩
      · exact z
      · rw [tab b z] at e; cases e; exact absurd rfl h2
      · rw [at_] at e; cases e; exact absurd rfl (h1 _ _)
    have keepN : ∀ {b : Addr} {m : Str → Option Value}, s.heap.Ns b m → (hidT s.heap H).Ns b m := fun {b m} ⟨o, es, ep, e, d, r⟩ => ⟨o, es, ep, hidT_get e (away e (fun l n z => by rw [d] at z; cases z) (fun z => by rw [d] at z; cases z)), d, r⟩
    have kinB : K.In (hidT s.heap H) := fun b o e => hidT_get (kin b o e) (by
      rcases only b with z | z | ⟨rfl, z, _⟩
      · exact z
      · obtain ⟨q, hq, rfl⟩ := List.mem_map.mp z; rw [free q hq] at e; cases e
      · rw [z] at e; cases e)
    have M : L2.Mod K mg (hidT s.heap H) := ⟨kinB, keepN g0, ⟨mb, keepN b0, bb⟩, let ⟨mc, h1, h2⟩ := lim; ⟨mc, keepN h1, h2⟩⟩
    have TB : ∀ q ∈ cs, TabB (hidT s.heap H) mg q.1 q.2 := fun q hq2 => by
      refine ⟨?_, ?_, fun z => ?_⟩
      · obtain ⟨o, vs, f, tf, fl, tg, inF, tx, tt, e, r1, r2, r3, r⟩ := codes q hq2
        exact ⟨o, vs, f, tf, fl, tg, inF, tx, tt, hidT_get e (away e (fun l n z => by rw [r2] at z; cases z) (fun z => by rw [r2] at z; cases z; simp at r3)), r1, r2, r3, r⟩
      · obtain ⟨bm, ob, h1, h2, h3, h4, h5, h6⟩ := main
        refine ⟨bm, ob, h1, h2, fun z => ?_, fun z => ?_, hidT_get h3 (away h3 (fun l n z => by rw [h6] at z; cases z) (fun z => by rw [h6] at z; cases z)), h4, h5, h6⟩
        · obtain ⟨o, es, ep, e, d, _⟩ := g0; rw [z, e] at h3; cases h3; rw [d] at h6; cases h6
        · rw [z, tabs q hq2] at h3; cases h3; cases h6
      · obtain ⟨o, es, ep, e, d, _⟩ := g0; rw [z, tabs q hq2] at e; cases e; cases d
    have e0 : Env0 P w K mg (hidT s.heap H) callerA [] s H := ⟨rfl, M, fun b o e => of_hidT e, Nat.le_of_eq (hidT_size _ _), trivial, (fun b hb => absurd (show b ∈ ([] : List Addr) from hb) List.not_mem_nil), ok, .of_eq no⟩
    refine codeAny_mono ((F _ kinB (keepN g0) TB).go callerA [] s H ⟨[.ref a], []⟩ [.ref a] [.ref a] _ _ room rfl e0 (bnd s (.ref a)) (.cons rfl .nil) (good H hq hs)) fun r s' h => ?_
    cases r with
    | error e => exact (tight H e s' h).elim
    | ok fl =>
      cases fl with
      | next | brk | cont => exact h.elim
      | ret u =>
        obtain ⟨v, H', os, bare, un, ok', ru, hv⟩ := h
        have hv : v = .bl true := hv
        subst hv; obtain rfl : u = Value.bool true := ru
        have same : ∀ b o, b ∉ ts → s.heap.get? b = some o → s'.heap.get? b = some o := fun b o nb e => by
          rcases only b with z | z | ⟨_, _, o1, xs, z⟩
          · exact un.keep b o e z (fun m => absurd (show b ∈ ([] : List Addr) from m) List.not_mem_nil) (by simp)
          · exact absurd z nb
          · obtain ⟨e1, _⟩ := ok b _ z; obtain ⟨e2, _⟩ := ok' b _ (un.frzs b o1 _ z); rw [e] at e1; cases e1; exact e2
        have grew : ∀ q ∈ cs, ∃ more : Array Value, s'.heap.get? q.2 = some { cls := .none, data := .fields more } := fun q hq2 => by obtain ⟨more, z⟩ := un.tbls q.2 #[] (hq q hq2); exact ⟨_, ok' q.2 _ z⟩
        refine ⟨rfl, ⟨fun b o e => ?_, fun b o e => ?_⟩, os, bare⟩
        · by_cases hb : b ∈ ts
          · obtain ⟨q, hq2, rfl⟩ := List.mem_map.mp hb; obtain ⟨more, hm⟩ := grew q hq2; rw [tabs q hq2] at e; cases e
            exact .inr (.inl ⟨((codes q hq2).tab (tabs q hq2)).isCodeTable, rfl, #[], more, rfl, by rw [Array.empty_append]; exact hm⟩)
          · exact .inl (same b o hb e)
        · by_cases hb : b ∈ ts
          · obtain ⟨q, hq2, rfl⟩ := List.mem_map.mp hb; obtain ⟨more, hm⟩ := grew q hq2; exact ⟨_, hm⟩
          · exact ⟨o, same b o hb e⟩
  have len := iva.length
  by_cases hk : K.lookup a = none
  · refine run (fun b => if b = a then some (.frz { cls := .type "list", data := .seq us.toArray } (.lst (ns.map V.int))) else if b ∈ ts then some (.tbl #[]) else none) (fun q hq => ?_) (.inl (.inr ⟨_, if_pos rfl⟩)) (fun b u z => ?_) fun b => ?_
    · show (if q.2 = a then _ else if q.2 ∈ ts then _ else _) = _
      rw [if_neg (fun z => apart (by rw [← z]; exact mem q hq)), if_pos (mem q hq)]
    · by_cases h1 : b = a
      · have z := (if_pos h1).symm.trans z; cases z; subst h1
        exact ⟨at_, by rw [List.length_map]; exact short, us, _, vals, at_⟩
      · have z := (if_neg h1).symm.trans z
        by_cases h2 : b ∈ ts
        · have z := (if_pos h2).symm.trans z; cases z; exact tab b h2
        · have z := (if_neg h2).symm.trans z; cases z
    · by_cases h1 : b = a
      · exact .inr (.inr ⟨h1, hk, _, _, if_pos h1⟩)
      · by_cases h2 : b ∈ ts
        · exact .inr (.inl h2)
        · exact .inl ((if_neg h1).trans (if_neg h2))
  · obtain ⟨o, ho⟩ := Option.ne_none_iff_exists'.mp hk
    have e := kin a o ho
    rw [at_] at e; cases e
    refine run (fun b => if b ∈ ts then some (.tbl #[]) else none) (fun q hq => if_pos (mem q hq)) (.inr ⟨_, us.toArray, _, ho, rfl, rfl, rfl, by rw [List.size_toArray, len]; exact short, by simpa using vals⟩) (fun b u z => ?_) fun b => ?_
    · by_cases h2 : b ∈ ts
      · have z := (if_pos h2).symm.trans z; cases z; exact tab b h2
      · have z := (if_neg h2).symm.trans z; cases z
    · by_cases h2 : b ∈ ts
      · exact .inr (.inl h2)
      · exact .inl (if_neg h2)
/-- what is to be told of the law at the head's heap -/
def LawG (l : PySem.W.OpenLaw) (w : World) (K : PySem.W.Frag) (CX : CXT) (k n : Nat) (x : Str) (mg : Str → Option Value) (fa : Addr) (h : Heap) : Prop :=
  ∃ (fd : FuncData) (cs : List (Addr × Addr)) (sp : Sp), (∀ q ∈ cs, h.get? q.2 = some { cls := .none, data := .fields #[] }) ∧ (∀ q ∈ cs, K.lookup q.2 = none) ∧ (∀ q ∈ cs, PySem.W.CodeHd h q.1 q.2) ∧ (∀ (s : Shared) (u : Value), BindsTo s fd ⟨[u], []⟩ [(x, u)]) ∧
    (∀ (H : Hp) (a : Addr) (ns : List Int), ns.length ≤ n → (∀ q ∈ cs, H q.2 = some (.tbl #[])) → SqL K H a (ns.map V.int) → sp [.ref a] H (fun v _ => v = .bl true) fun _ _ _ => False) ∧ ∀ base : Heap, K.In base → base.Ns mainGlobals mg → (∀ q ∈ cs, TabB base mg q.1 q.2) → FnG l.prog w K mg base CX k fa fd [x] sp
theorem walk_ofG {l : PySem.W.OpenLaw} {n k : Nat} {q : Program} {loose : List Str} {XP : (Str → Option Value) → Heap → Prop} {YP : World → Heap → Prop} {d : DefRec} {K : Params → PySem.W.Frag} {CX : World → CXT} {x : Str} (hn : l.most = some n) (hn2 : n ≤ sizeLine) (hdf : d.params.defaults = []) (room : Room k callerA)
    (hY : ∀ (w : World) (h : Heap), YP w h → (K w.params).In h) (F : ∀ (w : World) (mg : Str → Option Value) (fa : Addr) (h : Heap), YP w h → (K w.params).In h → h.Ns mainGlobals mg → mg d.name = some (.ref fa) → LawG l w (K w.params) (CX w) k n x mg fa h)
    (tight : ∀ (w : World) (H : Hp) (s : Shared) (e : Value) (s' : Shared), CX w [] H s (fun _ _ _ => False) e s' → False) : PySem.W.WalkO q loose XP YP l.row.toRowW d [] (fun f vs => PySem.call f vs) :=
  Att.attach_call hn hdf fun w s₀ s₁ mg mb fa o pm cd doc a vs ns G Y ho hd hcd hmg hobj hints hlen hg => by
    obtain ⟨fd, cs, sp, h1, h2, h3, h4, h5, h6⟩ := F w mg fa _ Y (hY w _ Y) G.T.g hmg
    exact law_callG (hY w _ Y) G.T.g G.T.b G.T.builtins G.T.nolimit hg h1 h2 h3 G.T.bmain hobj hints (Nat.le_trans hlen hn2) room h6 h4 (fun H hH hS => h5 H a ns hlen hH hS) fun H e s' => tight w H s₁ e s'
end L2
set_option Elab.async false
set_option linter.all false
set_option maxRecDepth 100000
set_option maxHeartbeats 4000000
set_option exponentiation.threshold 500
namespace Kz
open PySem PySem.Spec PyProof.Rows L2 Evl Vr
def top (i : Nat) : Stmt := PySem.Challenge.pw_settledplay_k05_errors_of_luck.main.body.getD i (.Pass ⟨0, 0, 0, 0⟩)
abbrev s_InvalidNumber___init__ : Stmt := inClass (top 3) 0
theorem sc_InvalidNumber___init__ : FnScope ["self", "given"] ["self", "given"] (defScope s_InvalidNumber___init__) := ⟨rfl, rfl, rfl, by decide +kernel, rfl, by decide +kernel, by decide +kernel⟩
abbrev s_is_integer : Stmt := top 5
theorem sc_is_integer : FnScope ["value"] ["value"] (defScope s_is_integer) := ⟨rfl, rfl, rfl, by decide +kernel, rfl, by decide +kernel, by decide +kernel⟩
abbrev s_is_within : Stmt := top 6
theorem sc_is_within : FnScope ["value", "low", "high"] ["value", "low", "high"] (defScope s_is_within) := ⟨rfl, rfl, rfl, by decide +kernel, rfl, by decide +kernel, by decide +kernel⟩
abbrev s_is_whole : Stmt := top 7
theorem sc_is_whole : FnScope ["value"] ["value"] (defScope s_is_whole) := ⟨rfl, rfl, rfl, by decide +kernel, rfl, by decide +kernel, by decide +kernel⟩
abbrev s_need_whole : Stmt := top 8
theorem sc_need_whole : FnScope ["value"] ["value"] (defScope s_need_whole) := ⟨rfl, rfl, rfl, by decide +kernel, rfl, by decide +kernel, by decide +kernel⟩
abbrev s_need_within : Stmt := top 9
theorem sc_need_within : FnScope ["value", "low", "high"] ["value", "low", "high"] (defScope s_need_within) := ⟨rfl, rfl, rfl, by decide +kernel, rfl, by decide +kernel, by decide +kernel⟩
abbrev s_is_luck : Stmt := top 18
theorem sc_is_luck : FnScope ["value"] ["value"] (defScope s_is_luck) := ⟨rfl, rfl, rfl, by decide +kernel, rfl, by decide +kernel, by decide +kernel⟩
abbrev s_need_luck : Stmt := top 19
theorem sc_need_luck : FnScope ["value"] ["value"] (defScope s_need_luck) := ⟨rfl, rfl, rfl, by decide +kernel, rfl, by decide +kernel, by decide +kernel⟩
abbrev s_power : Stmt := top 20
theorem sc_power : FnScope ["base", "exponent", "result", "square"] ["base", "exponent"] (defScope s_power) := ⟨rfl, rfl, rfl, by decide +kernel, rfl, by decide +kernel, by decide +kernel⟩
abbrev s_next_luck : Stmt := top 21
theorem sc_next_luck : FnScope ["luck"] ["luck"] (defScope s_next_luck) := ⟨rfl, rfl, rfl, by decide +kernel, rfl, by decide +kernel, by decide +kernel⟩
abbrev s_following : Stmt := top 22
theorem sc_following : FnScope ["luck"] ["luck"] (defScope s_following) := ⟨rfl, rfl, rfl, by decide +kernel, rfl, by decide +kernel, by decide +kernel⟩
abbrev s_luck_ahead : Stmt := top 23
theorem sc_luck_ahead : FnScope ["luck"] ["luck"] (defScope s_luck_ahead) := ⟨rfl, rfl, rfl, by decide +kernel, rfl, by decide +kernel, by decide +kernel⟩
abbrev s_luck_after : Stmt := top 24
theorem sc_luck_after : FnScope ["luck", "many"] ["luck", "many"] (defScope s_luck_after) := ⟨rfl, rfl, rfl, by decide +kernel, rfl, by decide +kernel, by decide +kernel⟩
abbrev s_luck_before : Stmt := top 25
theorem sc_luck_before : FnScope ["luck", "many"] ["luck", "many"] (defScope s_luck_before) := ⟨rfl, rfl, rfl, by decide +kernel, rfl, by decide +kernel, by decide +kernel⟩
abbrev s_along : Stmt := top 26
theorem sc_along : FnScope ["luck", "many"] ["luck", "many"] (defScope s_along) := ⟨rfl, rfl, rfl, by decide +kernel, rfl, by decide +kernel, by decide +kernel⟩
abbrev s_lucks_between : Stmt := top 27
theorem sc_lucks_between : FnScope ["one", "other"] ["one", "other"] (defScope s_lucks_between) := ⟨rfl, rfl, rfl, by decide +kernel, rfl, by decide +kernel, by decide +kernel⟩
abbrev s_logarithm : Stmt := top 28
theorem sc_logarithm : FnScope ["result", "exponent", "part", "share", "turns"] ["result"] (defScope s_logarithm) := ⟨rfl, rfl, rfl, by decide +kernel, rfl, by decide +kernel, by decide +kernel⟩
abbrev s_turns_to : Stmt := top 29
theorem sc_turns_to : FnScope ["base", "result", "part", "turn", "found"] ["base", "result", "part"] (defScope s_turns_to) := ⟨rfl, rfl, rfl, by decide +kernel, rfl, by decide +kernel, by decide +kernel⟩
abbrev s_inverse : Stmt := top 30
theorem sc_inverse : FnScope ["number", "part", "candidate"] ["number", "part"] (defScope s_inverse) := ⟨rfl, rfl, rfl, by decide +kernel, rfl, by decide +kernel, by decide +kernel⟩
abbrev s_stirred : Stmt := top 31
theorem sc_stirred : FnScope ["luck"] ["luck"] (defScope s_stirred) := ⟨rfl, rfl, rfl, by decide +kernel, rfl, by decide +kernel, by decide +kernel⟩
abbrev s_stir : Stmt := top 32
theorem sc_stir : FnScope ["luck"] ["luck"] (defScope s_stir) := ⟨rfl, rfl, rfl, by decide +kernel, rfl, by decide +kernel, by decide +kernel⟩
abbrev s_unstirred : Stmt := top 33
theorem sc_unstirred : FnScope ["luck"] ["luck"] (defScope s_unstirred) := ⟨rfl, rfl, rfl, by decide +kernel, rfl, by decide +kernel, by decide +kernel⟩
abbrev s_unstir : Stmt := top 34
theorem sc_unstir : FnScope ["luck"] ["luck"] (defScope s_unstir) := ⟨rfl, rfl, rfl, by decide +kernel, rfl, by decide +kernel, by decide +kernel⟩
abbrev s_spot_number : Stmt := top 35
theorem sc_spot_number : FnScope ["luck", "entry", "thing", "turn"] ["luck", "entry", "thing", "turn"] (defScope s_spot_number) := ⟨rfl, rfl, rfl, by decide +kernel, rfl, by decide +kernel, by decide +kernel⟩
abbrev s_spot : Stmt := top 36
theorem sc_spot : FnScope ["luck", "entry", "thing", "turn"] ["luck", "entry", "thing", "turn"] (defScope s_spot) := ⟨rfl, rfl, rfl, by decide +kernel, rfl, by decide +kernel, by decide +kernel⟩
abbrev s_run_number : Stmt := top 37
theorem sc_run_number : FnScope ["luck", "entry", "thing", "number"] ["luck", "entry", "thing"] (defScope s_run_number) := ⟨rfl, rfl, rfl, by decide +kernel, rfl, by decide +kernel, by decide +kernel⟩
abbrev s_turn_of : Stmt := top 38
theorem sc_turn_of : FnScope ["luck", "entry", "thing", "number"] ["luck", "entry", "thing", "number"] (defScope s_turn_of) := ⟨rfl, rfl, rfl, by decide +kernel, rfl, by decide +kernel, by decide +kernel⟩
abbrev s_drawn : Stmt := top 39
theorem sc_drawn : FnScope ["luck", "entry", "thing", "turn", "sides"] ["luck", "entry", "thing", "turn", "sides"] (defScope s_drawn) := ⟨rfl, rfl, rfl, by decide +kernel, rfl, by decide +kernel, by decide +kernel⟩
abbrev s_draw : Stmt := top 40
theorem sc_draw : FnScope ["luck", "entry", "thing", "turn", "sides"] ["luck", "entry", "thing", "turn", "sides"] (defScope s_draw) := ⟨rfl, rfl, rfl, by decide +kernel, rfl, by decide +kernel, by decide +kernel⟩
abbrev s_law_dice : Stmt := top 42
theorem sc_law_dice : FnScope ["script", "spot_v", "cell", "left"] ["script", "spot_v"] (defScope s_law_dice) := ⟨rfl, rfl, rfl, by decide +kernel, rfl, by decide +kernel, by decide +kernel⟩
abbrev s_law_roll : Stmt := top 43
theorem sc_law_roll : FnScope ["dice", "total", "found", "one", "two"] ["dice", "total"] (defScope s_law_roll) := ⟨rfl, rfl, rfl, by decide +kernel, rfl, by decide +kernel, by decide +kernel⟩
abbrev s_law_pick : Stmt := top 44
theorem sc_law_pick : FnScope ["dice", "items"] ["dice", "items"] (defScope s_law_pick) := ⟨rfl, rfl, rfl, by decide +kernel, rfl, by decide +kernel, by decide +kernel⟩
abbrev s_law_met : Stmt := top 45
theorem sc_law_met : FnScope ["call", "error"] ["call"] (defScope s_law_met) := ⟨rfl, rfl, rfl, by decide +kernel, rfl, by decide +kernel, by decide +kernel⟩
abbrev s_law_no_luck : Stmt := top 46
theorem sc_law_no_luck : FnScope ["dice"] ["dice"] (defScope s_law_no_luck) := ⟨rfl, rfl, rfl, by decide +kernel, rfl, by decide +kernel, by decide +kernel⟩
abbrev s_law_no_index : Stmt := top 47
theorem sc_law_no_index : FnScope ["dice"] ["dice"] (defScope s_law_no_index) := ⟨rfl, rfl, rfl, by decide +kernel, rfl, by decide +kernel, by decide +kernel⟩
abbrev s_law_right : Stmt := top 48
theorem sc_law_right : FnScope ["dice", "call", "told", "bad", "no", "some", "due", "index", "luck", "sides", "one"] ["dice"] (defScope s_law_right) := ⟨rfl, rfl, rfl, by decide +kernel, rfl, by decide +kernel, by decide +kernel⟩
abbrev s_law : Stmt := top 49
theorem sc_law : FnScope ["script", "spot_v", "dice", "told", "great", "value"] ["script"] (defScope s_law) := ⟨rfl, rfl, rfl, by decide +kernel, rfl, by decide +kernel, by decide +kernel⟩
structure Txt (K : PySem.W.Frag) (mg : Str → Option Value) (w : World) where
  a_is_integer : Addr
  fd_is_integer : FuncData
  F_is_integer : Fun K "is_integer" "is_integer" s_is_integer a_is_integer fd_is_integer
  g_is_integer : mg "is_integer" = some (.ref a_is_integer)
  b_is_integer : Binds K fd_is_integer ["value"] []
  a_is_within : Addr
  fd_is_within : FuncData
  F_is_within : Fun K "is_within" "is_within" s_is_within a_is_within fd_is_within
  g_is_within : mg "is_within" = some (.ref a_is_within)
  b_is_within : Binds K fd_is_within ["value", "low", "high"] []
  a_is_whole : Addr
  fd_is_whole : FuncData
  F_is_whole : Fun K "is_whole" "is_whole" s_is_whole a_is_whole fd_is_whole
  g_is_whole : mg "is_whole" = some (.ref a_is_whole)
  b_is_whole : Binds K fd_is_whole ["value"] []
  a_need_whole : Addr
  fd_need_whole : FuncData
  F_need_whole : Fun K "need_whole" "need_whole" s_need_whole a_need_whole fd_need_whole
  g_need_whole : mg "need_whole" = some (.ref a_need_whole)
  b_need_whole : Binds K fd_need_whole ["value"] []
  a_need_within : Addr
  fd_need_within : FuncData
  F_need_within : Fun K "need_within" "need_within" s_need_within a_need_within fd_need_within
  g_need_within : mg "need_within" = some (.ref a_need_within)
  b_need_within : Binds K fd_need_within ["value", "low", "high"] []
  a_is_luck : Addr
  fd_is_luck : FuncData
  F_is_luck : Fun K "is_luck" "is_luck" s_is_luck a_is_luck fd_is_luck
  g_is_luck : mg "is_luck" = some (.ref a_is_luck)
  b_is_luck : Binds K fd_is_luck ["value"] []
  a_need_luck : Addr
  fd_need_luck : FuncData
  F_need_luck : Fun K "need_luck" "need_luck" s_need_luck a_need_luck fd_need_luck
  g_need_luck : mg "need_luck" = some (.ref a_need_luck)
  b_need_luck : Binds K fd_need_luck ["value"] []
  a_power : Addr
  fd_power : FuncData
  F_power : Fun K "power" "power" s_power a_power fd_power
  g_power : mg "power" = some (.ref a_power)
  b_power : Binds K fd_power ["base", "exponent"] []
  a_next_luck : Addr
  fd_next_luck : FuncData
  F_next_luck : Fun K "next_luck" "next_luck" s_next_luck a_next_luck fd_next_luck
  g_next_luck : mg "next_luck" = some (.ref a_next_luck)
  b_next_luck : Binds K fd_next_luck ["luck"] []
  a_following : Addr
  fd_following : FuncData
  F_following : Fun K "following" "following" s_following a_following fd_following
  g_following : mg "following" = some (.ref a_following)
  b_following : Binds K fd_following ["luck"] []
  a_luck_ahead : Addr
  fd_luck_ahead : FuncData
  F_luck_ahead : Fun K "luck_ahead" "luck_ahead" s_luck_ahead a_luck_ahead fd_luck_ahead
  g_luck_ahead : mg "luck_ahead" = some (.ref a_luck_ahead)
  b_luck_ahead : Binds K fd_luck_ahead ["luck"] []
  a_luck_after : Addr
  fd_luck_after : FuncData
  F_luck_after : Fun K "luck_after" "luck_after" s_luck_after a_luck_after fd_luck_after
  g_luck_after : mg "luck_after" = some (.ref a_luck_after)
  b_luck_after : Binds K fd_luck_after ["luck", "many"] []
  a_luck_before : Addr
  fd_luck_before : FuncData
  F_luck_before : Fun K "luck_before" "luck_before" s_luck_before a_luck_before fd_luck_before
  g_luck_before : mg "luck_before" = some (.ref a_luck_before)
  b_luck_before : Binds K fd_luck_before ["luck", "many"] []
  a_along : Addr
  fd_along : FuncData
  F_along : Fun K "along" "along" s_along a_along fd_along
  g_along : mg "along" = some (.ref a_along)
  b_along : Binds K fd_along ["luck", "many"] []
  a_lucks_between : Addr
  fd_lucks_between : FuncData
  F_lucks_between : Fun K "lucks_between" "lucks_between" s_lucks_between a_lucks_between fd_lucks_between
  g_lucks_between : mg "lucks_between" = some (.ref a_lucks_between)
  b_lucks_between : Binds K fd_lucks_between ["one", "other"] []
  a_logarithm : Addr
  fd_logarithm : FuncData
  F_logarithm : Fun K "logarithm" "logarithm" s_logarithm a_logarithm fd_logarithm
  g_logarithm : mg "logarithm" = some (.ref a_logarithm)
  b_logarithm : Binds K fd_logarithm ["result"] []
  a_turns_to : Addr
  fd_turns_to : FuncData
  F_turns_to : Fun K "turns_to" "turns_to" s_turns_to a_turns_to fd_turns_to
  g_turns_to : mg "turns_to" = some (.ref a_turns_to)
  b_turns_to : Binds K fd_turns_to ["base", "result", "part"] []
  a_inverse : Addr
  fd_inverse : FuncData
  F_inverse : Fun K "inverse" "inverse" s_inverse a_inverse fd_inverse
  g_inverse : mg "inverse" = some (.ref a_inverse)
  b_inverse : Binds K fd_inverse ["number", "part"] []
  a_stirred : Addr
  fd_stirred : FuncData
  F_stirred : Fun K "stirred" "stirred" s_stirred a_stirred fd_stirred
  g_stirred : mg "stirred" = some (.ref a_stirred)
  b_stirred : Binds K fd_stirred ["luck"] []
  a_stir : Addr
  fd_stir : FuncData
  F_stir : Fun K "stir" "stir" s_stir a_stir fd_stir
  g_stir : mg "stir" = some (.ref a_stir)
  b_stir : Binds K fd_stir ["luck"] []
  a_unstirred : Addr
  fd_unstirred : FuncData
  F_unstirred : Fun K "unstirred" "unstirred" s_unstirred a_unstirred fd_unstirred
  g_unstirred : mg "unstirred" = some (.ref a_unstirred)
  b_unstirred : Binds K fd_unstirred ["luck"] []
  a_unstir : Addr
  fd_unstir : FuncData
  F_unstir : Fun K "unstir" "unstir" s_unstir a_unstir fd_unstir
  g_unstir : mg "unstir" = some (.ref a_unstir)
  b_unstir : Binds K fd_unstir ["luck"] []
  a_spot_number : Addr
  fd_spot_number : FuncData
  F_spot_number : Fun K "spot_number" "spot_number" s_spot_number a_spot_number fd_spot_number
  g_spot_number : mg "spot_number" = some (.ref a_spot_number)
  b_spot_number : Binds K fd_spot_number ["luck", "entry", "thing", "turn"] []
  a_spot : Addr
  fd_spot : FuncData
  F_spot : Fun K "spot" "spot" s_spot a_spot fd_spot
  g_spot : mg "spot" = some (.ref a_spot)
  b_spot : Binds K fd_spot ["luck", "entry", "thing", "turn"] []
  a_run_number : Addr
  fd_run_number : FuncData
  F_run_number : Fun K "run_number" "run_number" s_run_number a_run_number fd_run_number
  g_run_number : mg "run_number" = some (.ref a_run_number)
  b_run_number : Binds K fd_run_number ["luck", "entry", "thing"] []
  a_turn_of : Addr
  fd_turn_of : FuncData
  F_turn_of : Fun K "turn_of" "turn_of" s_turn_of a_turn_of fd_turn_of
  g_turn_of : mg "turn_of" = some (.ref a_turn_of)
  b_turn_of : Binds K fd_turn_of ["luck", "entry", "thing", "number"] []
  a_drawn : Addr
  fd_drawn : FuncData
  F_drawn : Fun K "drawn" "drawn" s_drawn a_drawn fd_drawn
  g_drawn : mg "drawn" = some (.ref a_drawn)
  b_drawn : Binds K fd_drawn ["luck", "entry", "thing", "turn", "sides"] []
  a_draw : Addr
  fd_draw : FuncData
  F_draw : Fun K "draw" "draw" s_draw a_draw fd_draw
  g_draw : mg "draw" = some (.ref a_draw)
  b_draw : Binds K fd_draw ["luck", "entry", "thing", "turn", "sides"] []
  a_law_dice : Addr
  fd_law_dice : FuncData
  F_law_dice : Fun K "_law_dice" "_law_dice" s_law_dice a_law_dice fd_law_dice
  g_law_dice : mg "_law_dice" = some (.ref a_law_dice)
  b_law_dice : Binds K fd_law_dice ["script", "spot_v"] []
  a_law_roll : Addr
  fd_law_roll : FuncData
  F_law_roll : Fun K "_law_roll" "_law_roll" s_law_roll a_law_roll fd_law_roll
  g_law_roll : mg "_law_roll" = some (.ref a_law_roll)
  b_law_roll : Binds K fd_law_roll ["dice", "total"] []
  a_law_pick : Addr
  fd_law_pick : FuncData
  F_law_pick : Fun K "_law_pick" "_law_pick" s_law_pick a_law_pick fd_law_pick
  g_law_pick : mg "_law_pick" = some (.ref a_law_pick)
  b_law_pick : Binds K fd_law_pick ["dice", "items"] []
  a_law_met : Addr
  fd_law_met : FuncData
  F_law_met : Fun K "_law_met" "_law_met" s_law_met a_law_met fd_law_met
  g_law_met : mg "_law_met" = some (.ref a_law_met)
  b_law_met : Binds K fd_law_met ["call"] []
  a_law_no_luck : Addr
  fd_law_no_luck : FuncData
  F_law_no_luck : Fun K "_law_no_luck" "_law_no_luck" s_law_no_luck a_law_no_luck fd_law_no_luck
  g_law_no_luck : mg "_law_no_luck" = some (.ref a_law_no_luck)
  b_law_no_luck : Binds K fd_law_no_luck ["dice"] []
  a_law_no_index : Addr
  fd_law_no_index : FuncData
  F_law_no_index : Fun K "_law_no_index" "_law_no_index" s_law_no_index a_law_no_index fd_law_no_index
  g_law_no_index : mg "_law_no_index" = some (.ref a_law_no_index)
  b_law_no_index : Binds K fd_law_no_index ["dice"] []
  a_law_right : Addr
  fd_law_right : FuncData
  F_law_right : Fun K "_law_right" "_law_right" s_law_right a_law_right fd_law_right
  g_law_right : mg "_law_right" = some (.ref a_law_right)
  b_law_right : Binds K fd_law_right ["dice"] []
  z_abs : mg "abs" = none
  z_max : mg "max" = none
  z_min : mg "min" = none
  z_int : mg "int" = none
  z_len : mg "len" = none
  z_range : mg "range" = none
  z_repr : mg "repr" = none
  z_isinstance : mg "isinstance" = none
  z_bool : mg "bool" = none
  t_MODULUS : Tok
  g_MODULUS : mg "MODULUS" = some (.int 999999937 t_MODULUS)
  t_SUMMAND : Tok
  g_SUMMAND : mg "SUMMAND" = some (.int 271829 t_SUMMAND)
  t_FACTOR : Tok
  g_FACTOR : mg "FACTOR" = some (.int 48274 t_FACTOR)
  t_STILL : Tok
  g_STILL : mg "STILL" = some (.int 949019055 t_STILL)
  t_MAX_SIDES : Tok
  g_MAX_SIDES : mg "MAX_SIDES" = some (.int 1000 t_MAX_SIDES)
  t_FIFTH_ROOT : Tok
  g_FIFTH_ROOT : mg "FIFTH_ROOT" = some (.int 799999949 t_FIFTH_ROOT)
  C_IL : Addr
  g_InvalidLuck : mg "InvalidLuck" = some (.ref C_IL)
  x_IL : PySem.W.excIn K C_IL [.type "ValueError", .type "Exception", .type "BaseException", .type "object"] "ValueError.__new__" = true
  k_IL : PySem.W.keepIn K (.ref C_IL) = true
  e_IL : PySem.W.subIn K (.ref C_IL) (.type "BaseException") = some true
  y_IL : PySem.W.typeIn K (.ref C_IL) = some (.type "type")
  C_IN : Addr
  g_InvalidNumber : mg "InvalidNumber" = some (.ref C_IN)
  o_IN : OxG K C_IN "IndexError.__new__" [.type "IndexError", .type "LookupError", .type "Exception", .type "BaseException", .type "object"]
  a_InvalidNumber___init__ : Addr
  fd_InvalidNumber___init__ : FuncData
  F_InvalidNumber___init__ : Fun K "__init__" "InvalidNumber.__init__" s_InvalidNumber___init__ a_InvalidNumber___init__ fd_InvalidNumber___init__
  b_InvalidNumber___init__ : Binds K fd_InvalidNumber___init__ ["self", "given"] []
  i_IN : PySem.W.findIn K (.ref C_IN) "__init__" = some (some (.ref a_InvalidNumber___init__))
  t_IN : PySem.W.typeIn K (.ref a_InvalidNumber___init__) = some (.type "function")
  f_IN : PySem.W.findIn K (.ref C_IN) "given" = some none
  x_IN : XfC K C_IN
  m_LL : PySem.W.exmOne K (.ref C_IL) (.ref C_IL) = some true
  m_NL : PySem.W.exmOne K (.ref C_IN) (.ref C_IL) = some false
  m_NN : PySem.W.exmOne K (.ref C_IN) (.ref C_IN) = some true
end Kz
set_option Elab.async false
set_option linter.all false
set_option maxRecDepth 100000
set_option maxHeartbeats 4000000
set_option exponentiation.threshold 500
namespace Kz
open PySem PySem.Spec PyProof.Rows L2 Evl Vr
local macro_rules | `(tactic| walk_at "sc") => `(tactic| first | (with_reducible assumption) | (with_reducible exact sc_mul (by omega)) | (with_reducible exact sc_mulr (by omega)) | (with_reducible exact sc_div (by omega) (by decide)) | (show (0 : Int) < _; omega) | (show _ ≠ (0 : Int); omega) | (with_reducible rfl) | decide)
local macro_rules | `(tactic| walk_at "sq") => `(tactic| first | assumption | exact sq_of (by assumption) | exact st_of (by assumption))
local macro_rules | `(tactic| walk_at "pl") => `(tactic| first | assumption | exact pl_int | exact pl_bl | exact pl_str | exact pl_non | exact pl_lst (by assumption) | exact pl_tup (by assumption) | exact pl_dK (by assumption))
local macro_rules | `(tactic| walk_at "rv") => `(tactic| first
  | with_reducible exact rv_I0
  | with_reducible exact ru_neg
  | ((with_reducible apply rv_I); walk_at "sc")
  | ((with_reducible apply rv_ixL); walk_at "sq"; first | rfl | assumption)
  | ((with_reducible apply rv_ixT); walk_at "sq"; first | rfl | assumption)
  | ((with_reducible apply rv_eq); rfl) | ((with_reducible apply rv_ne); rfl))
local macro_rules | `(tactic| walk_at "rc") => `(tactic| first
  | with_reducible exact rc_I1 | with_reducible exact rc_B1 | with_reducible exact rc_I2 | ((with_reducible apply rc_repr); walk_at "sc") | ((with_reducible apply rc_lenL); walk_at "sq")
  | ((with_reducible apply rc_isiInt); walk_at "pl") | ((with_reducible apply rc_isiBool); walk_at "pl"))
local macro_rules | `(tactic| walk_at "ea") => `(tactic| first
  | with_reducible exact ea_nil | ((with_reducible apply ea_cons); walk_at "ev"; walk_at "ea"))
local macro_rules | `(tactic| walk_at "pow") => `(tactic| first
  | with_reducible exact ev_pow (a := 10) (b := 9) (c := 1000000000) (by decide +kernel) (by decide +kernel)
  | with_reducible exact ev_pow (a := 10) (b := 10) (c := 10000000000) (by decide +kernel) (by decide +kernel)
  | with_reducible exact ev_pow (a := 10) (b := 12) (c := 1000000000000) (by decide +kernel) (by decide +kernel)
  | with_reducible exact ev_pow (a := 10) (b := 17) (c := 100000000000000000) (by decide +kernel) (by decide +kernel)
  | with_reducible exact ev_pow (a := 10) (b := 20) (c := 100000000000000000000) (by decide +kernel) (by decide +kernel)
  | with_reducible exact ev_pow (a := 10) (b := 29) (c := 100000000000000000000000000000) (by decide +kernel) (by decide +kernel)
  | with_reducible exact ev_pow (a := 10) (b := 30) (c := 1000000000000000000000000000000) (by decide +kernel) (by decide +kernel)
  | with_reducible exact ev_pow (a := 10) (b := 40) (c := 10000000000000000000000000000000000000000) (by decide +kernel) (by decide +kernel)
  | with_reducible exact ev_pow (a := 10) (b := 57) (c := 1000000000000000000000000000000000000000000000000000000000) (by decide +kernel) (by decide +kernel)
  | with_reducible exact ev_pow (a := 10) (b := 58) (c := 10000000000000000000000000000000000000000000000000000000000) (by decide +kernel) (by decide +kernel)
  | with_reducible exact ev_pow (a := 10) (b := 59) (c := 100000000000000000000000000000000000000000000000000000000000) (by decide +kernel) (by decide +kernel)
  | with_reducible exact ev_pow (a := 10) (b := 60) (c := 1000000000000000000000000000000000000000000000000000000000000) (by decide +kernel) (by decide +kernel))
local macro_rules | `(tactic| walk_at "call") => `(tactic| (intro H9 e9; first | exact ⟨_, rfl, rfl⟩ | exact ⟨_, _, rfl, rfl⟩ | exact ⟨_, _, _, rfl, rfl⟩ | exact ⟨_, rfl, by walk_at "pl", rfl⟩ | (refine ⟨_, _, _, rfl, ?_, rfl⟩; first | exact Plain.ex e9 (by assumption) | walk_at "pl") | (refine ⟨_, rfl, ?_, rfl⟩; first | exact Plain.ex e9 (by assumption) | walk_at "pl")))
local macro_rules | `(tactic| walk_at "ev") => `(tactic| first
  | with_reducible exact ev_c
  | exact ev_var rfl
  | walk_at "pow"
  | ((with_reducible apply ev_op); walk_at "ev"; walk_at "ev"; walk_at "rv")
  | ((with_reducible apply ev_un); walk_at "ev"; walk_at "rv")
  | ((with_reducible apply ev_cb); walk_at "ea"; walk_at "rc")
  | ((with_reducible apply ev_callP); walk_at "ea"; walk_at "call")
  | ((with_reducible apply ev_chain); walk_at "ev"; walk_at "ev"; walk_at "rv"; walk_at "ev"; walk_at "rv")
  | ((with_reducible apply ev_andV); walk_at "ev"; intro _; walk_at "ev")
  | ((with_reducible apply ev_orV); walk_at "ev"; intro _; walk_at "ev")
  | ((with_reducible apply ev_ite); walk_at "et"; intro _; walk_at "ev"; intro _; walk_at "ev")
  | ((with_reducible apply ev_notV); walk_at "ev"))
local macro_rules | `(tactic| walk_at "et") => `(tactic| first
  | ((with_reducible apply et_test); walk_at "ev")
  | ((with_reducible apply et_B); walk_at "ev")
  | ((with_reducible apply et_and); walk_at "et"; intro _; walk_at "et")
  | ((with_reducible apply et_or); walk_at "et"; intro _; walk_at "et")
  | ((with_reducible apply et_not); walk_at "et"))
section
variable {P : Program} {w : World} {K : PySem.W.Frag} {mg : Str → Option Value} {base : Heap}
def kIsInteger (K : PySem.W.Frag) (vs : List V) (H : Hp) (z : V) : Prop := ∃ x, vs = [x] ∧ Plain K H x ∧ z = .bl (isIntV x)
theorem ok_is_integer (T : Txt K mg w) : FnOk P w K mg base CX0 1 T.a_is_integer T.fd_is_integer ["value"] (Pure (kIsInteger K)) := by
  refine T.F_is_integer.ok sc_is_integer (fun vs H Q E h => ?_) (fun cdv A outer s H vs Q E hr h => ?_)
  · obtain ⟨_, ⟨a, rfl, _⟩, _⟩ := h; rfl
  · obtain ⟨_, ⟨x, rfl, hp, rfl⟩, q⟩ := h
    refine ⟨_, (pss_one (ps_ret (pe_and (pe_callB call_isi (by rfl) T.z_isinstance (by decide +kernel) (pa_cons (pv 0) (pa_cons (pe_bltn (v := .ty "int") (by rfl) T.z_int (by decide +kernel) rfl) pa_nil))) (pe_and (pe_not (pe_callB call_isi (by rfl) T.z_isinstance (by decide +kernel) (pa_cons (pv 0) (pa_cons (pe_bltn (v := .ty "bool") (by rfl) T.z_bool (by decide +kernel) rfl) pa_nil)))) (pe_one (pe_chain op_lt op_lt (pe_un un_neg (pe_op op_pow pe_int pe_int)) (pv 0) (pe_op op_pow pe_int pe_int))))))), ?_⟩
    refine s_ret (v := .bl (isIntV x)) ?_ q
    cases x with
    | int i =>
      apply ev_is
      walk_at "ev"
      show V.bl (true && (!false && (decide (-1000000000000000000000000000000000000000000000000000000000000 < i) && decide (i < 1000000000000000000000000000000000000000000000000000000000000)))) = _
      rfl
    | bl b =>
      refine ev_andV (a := true) (b := false) (by apply ev_is; walk_at "ev"; rfl) fun _ => ?_
      exact ev_andV (a := false) (b := false) (by apply ev_is; walk_at "ev"; rfl) (fun h => by cases h)
    | non => exact ev_andV (a := false) (b := false) (by apply ev_is; walk_at "ev"; rfl) (fun h => by cases h)
    | str _ => exact ev_andV (a := false) (b := false) (by apply ev_is; walk_at "ev"; rfl) (fun h => by cases h)
    | byt _ => exact ev_andV (a := false) (b := false) (by apply ev_is; walk_at "ev"; rfl) (fun h => by cases h)
    | flt _ => exact ev_andV (a := false) (b := false) (by apply ev_is; walk_at "ev"; rfl) (fun h => by cases h)
    | ref _ => exact ev_andV (a := false) (b := false) (by apply ev_is; walk_at "ev"; rfl) (fun h => by cases h)
    | ty _ => exact ev_andV (a := false) (b := false) (by apply ev_is; walk_at "ev"; rfl) (fun h => by cases h)
def kIsWithin (K : PySem.W.Frag) (vs : List V) (H : Hp) (z : V) : Prop := ∃ x lo hi, vs = [x, .int lo, .int hi] ∧ Plain K H x ∧ z = .bl (isWithin lo hi x)
theorem ok_is_within (T : Txt K mg w) : FnOk P w K mg base CX0 2 T.a_is_within T.fd_is_within ["value", "low", "high"] (Pure (kIsWithin K)) := by
  have G_is_integer := ok_is_integer (P := P) (w := w) (base := base) T
  refine T.F_is_within.ok sc_is_within (fun vs H Q E h => ?_) (fun cdv A outer s H vs Q E hr h => ?_)
  · obtain ⟨_, ⟨a, _, _, rfl, _⟩, _⟩ := h; rfl
  · obtain ⟨_, ⟨x, lo, hi, rfl, hp, rfl⟩, q⟩ := h
    refine ⟨_, (pss_one (ps_ret (pe_and (pe_call G_is_integer (hr.mono (by decide)) (by rfl) T.g_is_integer T.F_is_integer.kp T.b_is_integer .nil pass0 (pa_cons (pv 0) pa_nil)) (pe_one (pe_chain op_le op_le (pv 1) (pv 0) (pv 2)))))), ?_⟩
    refine s_ret (v := .bl (isWithin lo hi x)) ?_ q
    cases x with
    | int i => apply ev_is; walk_at "ev"; rfl
    | bl b => exact ev_andV (a := false) (b := false) (by apply ev_is; walk_at "ev"; rfl) (fun h => by cases h)
    | non => exact ev_andV (a := false) (b := false) (by apply ev_is; walk_at "ev"; rfl) (fun h => by cases h)
    | str _ => exact ev_andV (a := false) (b := false) (by apply ev_is; walk_at "ev"; rfl) (fun h => by cases h)
    | byt _ => exact ev_andV (a := false) (b := false) (by apply ev_is; walk_at "ev"; rfl) (fun h => by cases h)
    | flt _ => exact ev_andV (a := false) (b := false) (by apply ev_is; walk_at "ev"; rfl) (fun h => by cases h)
    | ref _ => exact ev_andV (a := false) (b := false) (by apply ev_is; walk_at "ev"; rfl) (fun h => by cases h)
    | ty _ => exact ev_andV (a := false) (b := false) (by apply ev_is; walk_at "ev"; rfl) (fun h => by cases h)
def kRoll (vs : List V) (_ : Hp) (p : Addr) (R : V → Prop) : Prop := ∃ t : Int, vs = [.ref p, .int t] ∧ 0 < t ∧ t.natAbs < 2 ^ 400 ∧ R = fun v => ∃ r : Int, v = .int r ∧ 0 ≤ r ∧ r < t
theorem ok_roll (T : Txt K mg w) : FnOk P w K mg base CX0 1 T.a_law_roll T.fd_law_roll ["dice", "total"] (Draws kRoll) := by
  refine T.F_law_roll.ok sc_law_roll (fun vs H Q E h => ?_) (fun cdv A outer s H vs Q E hr h => ?_)
  · obtain ⟨p, _, ⟨t, rfl, _⟩, _⟩ := h; rfl
  · obtain ⟨p, _, ⟨t, rfl, h0, h1, rfl⟩, ⟨a, b, c, hp⟩, q0⟩ := h
    have q : ∀ (r : Int) H', 0 ≤ r → r < t → Exd p H H' → Dice p H' → Q (.int r) H' := fun r H' a b => q0 _ H' ⟨r, rfl, a, b⟩
    refine ⟨_, (pss_cons (ps_if (pt_cmpR op_gt (pe_ix ix_list (pv 0) pe_int (fun _ _ => rfl)) pe_int (nomark _)) (pss_cons (ps_set (i := 2) sc_law_roll.nd rfl (.inl rfl) (pe_op op_mod (pe_callTy c_int (by rfl) T.z_int (by decide +kernel) (pa_cons (pe_ix ix_list (pv 0) pe_int (fun _ _ => rfl)) pa_nil)) (pv 1)))
  (pss_cons (ps_asg (pe_op op_fdivW (pe_ix ix_list (pv 0) pe_int (fun _ _ => rfl)) (pv 1)) (pg_sub (pv 0) pe_int set_list))
  (pss_one (ps_ret (pv 2))))) pss_nil)
  (pss_cons (ps_asg (pe_op op_add (pe_ix ix_list (pv 0) pe_int (fun _ _ => rfl)) pe_int) (pg_sub (pv 0) pe_int set_list))
  (pss_cons (ps_set (i := 3) sc_law_roll.nd rfl (.inl rfl) (pe_op op_mod (pe_callTy c_int (by rfl) T.z_int (by decide +kernel) (pa_cons (pe_op op_add (pe_ix ix_list (pv 0) pe_int (fun _ _ => rfl)) (pe_op op_mul pe_int (pe_ix ix_list (pv 0) pe_int (fun _ _ => rfl)))) pa_nil)) pe_int))
  (pss_cons (ps_set (i := 4) sc_law_roll.nd rfl (.inl rfl) (pe_op op_add (pe_op op_mul (pe_op op_mod (pe_callTy c_int (by rfl) T.z_int (by decide +kernel) (pa_cons (pe_op op_add (pe_op op_mul (pv 3) (pv 3)) (pe_op op_mul pe_int (pe_ix ix_list (pv 0) pe_int (fun _ _ => rfl)))) pa_nil)) pe_int) pe_int) (pv 3)))
  (pss_one (ps_ret (pe_op op_mod (pe_callTy c_int (by rfl) T.z_int (by decide +kernel) (pa_cons (pe_op op_fdivW (pv 4) pe_int) pa_nil)) (pv 1)))))))), ?_⟩
    have cd : CDivW a t := wide_div h0 h1 (by decide) (by decide)
    apply q_when
    case h => walk_at "et"
    · intro hb H1 e1
      have hp := e1 _ _ hp
      apply q_asg
      case h => walk_at "ev"
      intro H2 e2
      have hp := e2 _ _ hp
      refine q_setL (j := 0) hp (v := .int (a / t)) (by walk_at "ev") (ev_var rfl) ev_c (by show 0 < 3; decide) fun H3 e3 => ?_
      refine ⟨_, rfl, q _ _ (Int.emod_nonneg _ (by omega)) (Int.emod_lt_of_pos _ h0) ?_ ⟨_, _, _, upd_same⟩⟩
      exact (Exd.of (e1.trans (e2.trans e3))).trans Exd.upd
    · intro hb H1 e1
      have hp := e1 _ _ hp
      refine q_setL (j := 2) hp (v := .int (c + 1)) (by walk_at "ev") (ev_var rfl) ev_c (by show 2 < 3; decide) fun H3 e3 => ?_
      have hq : (upd H3 p (.lst ([.int a, .int b, .int c].set 2 (.int (c + 1))))) p = some (.lst [.int a, .int b, .int (c + 1)]) := upd_same
      have ex := (Exd.of (e1.trans e3)).trans (Exd.upd (p := p) (o := .lst ([.int a, .int b, .int c].set 2 (.int (c + 1)))))
      generalize upd H3 p (.lst ([.int a, .int b, .int c].set 2 (.int (c + 1)))) = H4 at hq ex
      apply q_asg
      case h => walk_at "ev"
      intro H5 e5
      have hq := e5 _ _ hq
      generalize ho : (b + 67867979 * (c + 1)) % 2305843009213693723 = one
      have ho1 : 0 ≤ one := by rw [← ho]; exact Int.emod_nonneg _ (by omega)
      have ho2 : one < 2305843009213693723 := by rw [← ho]; exact Int.emod_lt_of_pos _ (by omega)
      have cm : CMul one one := .inl (by constructor <;> omega)
      apply q_asg
      case h => walk_at "ev"
      intro H6 e6
      have hq := e6 _ _ hq
      apply s_ret
      case h => walk_at "ev"
      intro H7 e7
      exact q _ _ (Int.emod_nonneg _ (by omega)) (Int.emod_lt_of_pos _ h0) (ex.trans (Exd.of (e5.trans (e6.trans e7)))) ⟨_, _, _, e7 _ _ hq⟩
def spDice (K : PySem.W.Frag) : Sp := fun vs H Q _ => ∃ (a : Addr) (ns : List Int) (sp : Nat), vs = [.ref a, .int sp] ∧ SqL K H a (ns.map V.int) ∧ ∀ p H', H p = none → Ex H H' → Dice p H' → Q (.ref p) H'
theorem ok_dice (T : Txt K mg w) : FnOk P w K mg base CX0 1 T.a_law_dice T.fd_law_dice ["script", "spot_v"] (spDice K) := by
  refine T.F_law_dice.ok sc_law_dice (fun vs H Q E h => ?_) (fun cdv A outer s H vs Q E hr h => ?_)
  · obtain ⟨_, _, _, rfl, _⟩ := h; rfl
  · obtain ⟨a, ns, sp, rfl, hS, q⟩ := h
    refine ⟨_, (pss_cons (ps_set (i := 2) sc_law_dice.nd rfl (.inl rfl) (pe_ifExp (pt_cmpR op_lt (pv 1) (pe_callB c_len (by rfl) T.z_len PySem.boot_len (pa_cons (pv 0) pa_nil)) (nomark _)) (pe_callTy c_int (by rfl) T.z_int (by decide +kernel) (pa_cons (pe_ix ix_list (pv 0) (pv 1) (fun _ _ => rfl)) pa_nil)) (pe_op op_add (pe_op op_mul pe_int (pv 1)) pe_int)))
  (pss_cons (ps_set (i := 3) sc_law_dice.nd rfl (.inl rfl) (pe_op op_mod (pe_callB (c_max rfl) (by rfl) T.z_max (by decide +kernel) (pa_cons pe_int (pa_cons (pe_op op_sub (pe_callB c_abs (by rfl) T.z_abs (by decide +kernel) (pa_cons (pv 2) pa_nil)) (pe_op op_pow pe_int pe_int)) pa_nil))) (pe_op op_mulW (pe_op op_pow pe_int pe_int) (pe_op op_pow pe_int pe_int))))
  (pss_one (ps_ret (pe_lst (pa_cons (pv 3) (pa_cons (pe_op op_add (pe_op op_add (pe_op op_add (pe_op op_mul (pe_op op_mod (pe_callB c_abs (by rfl) T.z_abs (by decide +kernel) (pa_cons (pv 2) pa_nil)) pe_int) pe_int) (pe_op op_mul pe_int (pv 1))) (pe_op op_mul pe_int (pe_callTy c_intB (by rfl) T.z_int (by decide +kernel) (pa_cons (pe_cmpR op_lt (pv 2) pe_int (nomark _)) pa_nil)))) pe_int) (pa_cons pe_int pa_nil)))))))), ?_⟩
    refine q_asgI ?_ fun cell H1 e1 => ?_
    · by_cases hs : sp < ns.length
      · have hx : (ns.map V.int)[sp]? = some (.int ns[sp]) := by rw [List.getElem?_map, List.getElem?_eq_getElem hs]; rfl
        have hi : atI (ns.map V.int) (sp : Int) = some (.int ns[sp]) := atI_nat hx
        refine ⟨ns[sp], ev_if (b := true) ?_ (fun _ => by walk_at "ev") (fun h => by cases h)⟩
        apply et_is
        walk_at "et"
        rw [List.length_map]
        exact decide_eq_true (by omega)
      · refine ⟨_, ev_if (b := false) ?_ (fun h => by cases h) (fun _ => by walk_at "ev")⟩
        apply et_is
        walk_at "et"
        rw [List.length_map]
        exact decide_eq_false (by omega)
    refine q_asgI ⟨_, ev_op (y := .int 1000000000000000000000000000000000000000000000000000000000000000000000000000000000000000000000000000000000000000000000) (by walk_at "ev") (ev_is (ev_op (by walk_at "pow") (by walk_at "pow") (rv_I (by unfold CMulW; decide +kernel))) (by decide +kernel)) (rv_I (by decide))⟩ fun left H2 e2 => ?_
    have hm : ∀ n : Int, CMul (n % 1152921504606846817) 83 := fun n => .inr (by omega)
    have hm2 := hm (if cell < 0 then -cell else cell)
    refine s_retL (el_lst (by walk_at "ea") (by show 3 ≤ 100000; decide)) fun p H3 hp e3 h3 => ?_
    exact q p H3 (fresh_back (e1.trans e2) hp) ((e1.trans e2).trans e3) ⟨_, _, _, h3⟩
def kPick (K : PySem.W.Frag) (vs : List V) (H : Hp) (p : Addr) (R : V → Prop) : Prop := ∃ (a : Addr) (xs : List V), vs = [.ref p, .ref a] ∧ a ≠ p ∧ SqL K H a xs ∧ 0 < xs.length ∧ xs.length < 1000000 ∧ R = fun v => v ∈ xs
theorem ok_pick (T : Txt K mg w) : FnOk P w K mg base CX0 2 T.a_law_pick T.fd_law_pick ["dice", "items"] (Draws (kPick K)) := by
  have G_law_roll := ok_roll (P := P) (w := w) (base := base) T
  refine T.F_law_pick.ok sc_law_pick (fun vs H Q E h => ?_) (fun cdv A outer s H vs Q E hr h => ?_)
  · obtain ⟨p, _, ⟨_, _, rfl, _⟩, _⟩ := h; rfl
  · obtain ⟨p, _, ⟨a, xs, rfl, hne, hS, hl, hl2, rfl⟩, hd, q⟩ := h
    refine ⟨_, (pss_one (ps_ret (pe_ix ix_list (pv 1) (pe_call G_law_roll (hr.mono (by decide)) (by rfl) T.g_law_roll T.F_law_roll.kp T.b_law_roll .nil pass0 (pa_cons (pv 0) (pa_cons (pe_callB c_len (by rfl) T.z_len PySem.boot_len (pa_cons (pv 1) pa_nil)) pa_nil))) (fun _ _ => rfl)))), ?_⟩
    refine ⟨.ref a, rfl, ?_⟩
    refine goA (vs := [.ref p, .int xs.length]) (by walk_at "ea") fun H1 e1 => ?_
    refine ⟨p, _, ⟨(xs.length : Int), rfl, by omega, by rw [Int.natAbs_natCast]; exact Nat.lt_trans hl2 (by decide), rfl⟩, hd.ex e1, ?_⟩
    rintro v H2 ⟨r, rfl, hr0, hr1⟩ e2 d2
    obtain ⟨n, rfl⟩ := Int.eq_ofNat_of_zero_le hr0
    have hn : n < xs.length := by omega
    refine ⟨a, xs, n, xs[n], rfl, rfl, e2.l hne (ex_l e1 hS), atI_nat (List.getElem?_eq_getElem hn), ?_⟩
    exact q _ H2 (List.getElem_mem hn) ((Exd.of e1).trans e2) d2
end
end Kz
set_option Elab.async false
set_option linter.all false
set_option maxRecDepth 100000
set_option maxHeartbeats 4000000
set_option exponentiation.threshold 500
namespace Kz
open PySem PySem.Spec PyProof.Rows L2 Evl Vr
local macro_rules | `(tactic| walk_at "sc") => `(tactic| first | (with_reducible assumption) | (with_reducible exact sc_mul (by omega)) | (with_reducible exact sc_mulr (by omega)) | (with_reducible exact sc_div (by omega) (by decide)) | (show (0 : Int) < _; omega) | (show _ ≠ (0 : Int); omega) | (with_reducible rfl) | decide)
local macro_rules | `(tactic| walk_at "sq") => `(tactic| first | assumption | exact sq_of (by assumption) | exact st_of (by assumption))
local macro_rules | `(tactic| walk_at "pl") => `(tactic| first | assumption | exact pl_int | exact pl_bl | exact pl_str | exact pl_non | exact pl_lst (by assumption) | exact pl_tup (by assumption) | exact pl_dK (by assumption))
local macro_rules | `(tactic| walk_at "rv") => `(tactic| first
  | with_reducible exact rv_I0
  | with_reducible exact ru_neg
  | ((with_reducible apply rv_I); walk_at "sc")
  | ((with_reducible apply rv_ixL); walk_at "sq"; first | rfl | assumption)
  | ((with_reducible apply rv_ixT); walk_at "sq"; first | rfl | assumption)
  | ((with_reducible apply rv_eq); rfl) | ((with_reducible apply rv_ne); rfl))
local macro_rules | `(tactic| walk_at "rc") => `(tactic| first
  | with_reducible exact rc_I1 | with_reducible exact rc_B1 | with_reducible exact rc_I2 | ((with_reducible apply rc_repr); walk_at "sc") | ((with_reducible apply rc_lenL); walk_at "sq")
  | ((with_reducible apply rc_isiInt); walk_at "pl") | ((with_reducible apply rc_isiBool); walk_at "pl"))
local macro_rules | `(tactic| walk_at "ea") => `(tactic| first
  | with_reducible exact ea_nil | ((with_reducible apply ea_cons); walk_at "ev"; walk_at "ea"))
local macro_rules | `(tactic| walk_at "pow") => `(tactic| first
  | with_reducible exact ev_pow (a := 10) (b := 9) (c := 1000000000) (by decide +kernel) (by decide +kernel)
  | with_reducible exact ev_pow (a := 10) (b := 10) (c := 10000000000) (by decide +kernel) (by decide +kernel)
  | with_reducible exact ev_pow (a := 10) (b := 12) (c := 1000000000000) (by decide +kernel) (by decide +kernel)
  | with_reducible exact ev_pow (a := 10) (b := 17) (c := 100000000000000000) (by decide +kernel) (by decide +kernel)
  | with_reducible exact ev_pow (a := 10) (b := 20) (c := 100000000000000000000) (by decide +kernel) (by decide +kernel)
  | with_reducible exact ev_pow (a := 10) (b := 29) (c := 100000000000000000000000000000) (by decide +kernel) (by decide +kernel)
  | with_reducible exact ev_pow (a := 10) (b := 30) (c := 1000000000000000000000000000000) (by decide +kernel) (by decide +kernel)
  | with_reducible exact ev_pow (a := 10) (b := 40) (c := 10000000000000000000000000000000000000000) (by decide +kernel) (by decide +kernel)
  | with_reducible exact ev_pow (a := 10) (b := 57) (c := 1000000000000000000000000000000000000000000000000000000000) (by decide +kernel) (by decide +kernel)
  | with_reducible exact ev_pow (a := 10) (b := 58) (c := 10000000000000000000000000000000000000000000000000000000000) (by decide +kernel) (by decide +kernel)
  | with_reducible exact ev_pow (a := 10) (b := 59) (c := 100000000000000000000000000000000000000000000000000000000000) (by decide +kernel) (by decide +kernel)
  | with_reducible exact ev_pow (a := 10) (b := 60) (c := 1000000000000000000000000000000000000000000000000000000000000) (by decide +kernel) (by decide +kernel))
local macro_rules | `(tactic| walk_at "call") => `(tactic| (intro H9 e9; first | exact ⟨_, rfl, rfl⟩ | exact ⟨_, _, rfl, rfl⟩ | exact ⟨_, _, _, rfl, rfl⟩ | exact ⟨_, rfl, by walk_at "pl", rfl⟩ | (refine ⟨_, _, _, rfl, ?_, rfl⟩; first | exact Plain.ex e9 (by assumption) | walk_at "pl") | (refine ⟨_, rfl, ?_, rfl⟩; first | exact Plain.ex e9 (by assumption) | walk_at "pl")))
local macro_rules | `(tactic| walk_at "ev") => `(tactic| first
  | with_reducible exact ev_c
  | exact ev_var rfl
  | walk_at "pow"
  | ((with_reducible apply ev_op); walk_at "ev"; walk_at "ev"; walk_at "rv")
  | ((with_reducible apply ev_un); walk_at "ev"; walk_at "rv")
  | ((with_reducible apply ev_cb); walk_at "ea"; walk_at "rc")
  | ((with_reducible apply ev_callP); walk_at "ea"; walk_at "call")
  | ((with_reducible apply ev_chain); walk_at "ev"; walk_at "ev"; walk_at "rv"; walk_at "ev"; walk_at "rv")
  | ((with_reducible apply ev_andV); walk_at "ev"; intro _; walk_at "ev")
  | ((with_reducible apply ev_orV); walk_at "ev"; intro _; walk_at "ev")
  | ((with_reducible apply ev_ite); walk_at "et"; intro _; walk_at "ev"; intro _; walk_at "ev")
  | ((with_reducible apply ev_notV); walk_at "ev"))
local macro_rules | `(tactic| walk_at "et") => `(tactic| first
  | ((with_reducible apply et_test); walk_at "ev")
  | ((with_reducible apply et_B); walk_at "ev")
  | ((with_reducible apply et_and); walk_at "et"; intro _; walk_at "et")
  | ((with_reducible apply et_or); walk_at "et"; intro _; walk_at "et")
  | ((with_reducible apply et_not); walk_at "et"))
/-! ### lucks as numbers -/
theorem stir_cast (n : Nat) : ((n : Int) ^ (5 : Int).toNat + 271829) % 999999937 = ((Pm.stirN n : Nat) : Int) := by
  unfold Pm.stirN
  rw [Int.natCast_emod, Int.natCast_add, Int.natCast_pow]
  rfl
theorem stir_lt (n : Nat) : Pm.stirN n < 999999937 := Nat.mod_lt _ (by decide)
def runN (l e t : Nat) : Nat := Pm.stirN ((Pm.stirN ((Pm.stirN l + e) % Pm.p) + t) % Pm.p)
def spotN (l e t n : Nat) : Nat := Pm.stirN ((runN l e t + n) % Pm.p)
def turnN (l e t v : Nat) : Nat := (Pm.unstirN v + (Pm.p - runN l e t)) % Pm.p
theorem run_lt (l e t : Nat) : runN l e t < 999999937 := Nat.mod_lt _ (by decide)
theorem spot_lt (l e t n : Nat) : spotN l e t n < 999999937 := Nat.mod_lt _ (by decide)
theorem unstir_lt (n : Nat) : Pm.unstirN n < 999999937 := Nat.mod_lt _ (by decide)
theorem unstir_cast {n : Nat} (h : n < 999999937) : (((n : Int) - 271829) % 999999937).toNat ^ 799999949 % Pm.p = Pm.unstirN n := by
  unfold Pm.unstirN
  have e : (((n : Int) - 271829) % 999999937).toNat = (n + (Pm.p - 271829)) % Pm.p := by
    show _ = (n + (999999937 - 271829)) % 999999937
    omega
  rw [e]
theorem turn_cast (l e t v : Nat) : ((Pm.unstirN v : Nat) - (runN l e t : Nat) : Int) % 999999937 = ((turnN l e t v : Nat) : Int) := by
  have h1 := run_lt l e t
  unfold turnN
  show _ = ((( _ + (999999937 - _)) % 999999937 : Nat) : Int)
  omega
section
variable {P : Program} {w : World} {K : PySem.W.Frag} {mg : Str → Option Value} {base : Heap}
def kIsLuck (K : PySem.W.Frag) (vs : List V) (H : Hp) (z : V) : Prop := ∃ x, vs = [x] ∧ Plain K H x ∧ z = .bl (isWithin 0 (999999937 - 1) x)
theorem ok_is_luck (T : Txt K mg w) : FnOk P w K mg base CX0 3 T.a_is_luck T.fd_is_luck ["value"] (Pure (kIsLuck K)) := by
  have G_is_within := ok_is_within (P := P) (w := w) (base := base) T
  refine T.F_is_luck.ok sc_is_luck (fun vs H Q E h => ?_) (fun cdv A outer s H vs Q E hr h => ?_)
  · obtain ⟨_, ⟨_, rfl, _⟩, _⟩ := h; rfl
  · obtain ⟨_, ⟨x, rfl, hp, rfl⟩, q⟩ := h
    refine ⟨_, (pss_one (ps_ret (pe_call G_is_within (hr.mono (by decide)) (by rfl) T.g_is_within T.F_is_within.kp T.b_is_within .nil pass0 (pa_cons (pv 0) (pa_cons pe_int (pa_cons (pe_op op_sub (pe_glob (v := .int (999999937)) rfl T.g_MODULUS ⟨_, rfl⟩) pe_int) pa_nil)))))), ?_⟩
    refine s_ret (v := .bl (isWithin 0 (999999937 - 1) x)) ?_ q
    walk_at "ev"
theorem luck_ok {n : Int} (h : 0 ≤ n ∧ n < 999999937) : isWithin 0 (999999937 - 1) (.int n) = true := by
  unfold isWithin isIntV
  simp only [Bool.and_eq_true, decide_eq_true_eq]
  omega
/-! ### powers by squares -/
theorem pow_step {r s b E : Nat} {e : Nat} (h : r * s ^ e % Pm.p = E) : (if e % 2 = 1 then r * s % Pm.p else r) * (s * s % Pm.p) ^ (e / 2) % Pm.p = E := by
  rw [← h, Nat.mul_mod, ← Nat.pow_mod, ← Nat.mul_mod]
  have e1 : s ^ e = (s * s) ^ (e / 2) * s ^ (e % 2) := by
    rw [show s * s = s ^ 2 from (Nat.pow_two s).symm, ← Nat.pow_mul, ← Nat.pow_add, Nat.div_add_mod]
  split
  · rename_i h1
    rw [e1, h1, Nat.pow_one, Nat.mod_mul_mod]
    congr 1
    rw [Nat.mul_assoc, Nat.mul_comm s]
  · rename_i h1
    have h0 : e % 2 = 0 := by omega
    rw [e1, h0, Nat.pow_zero, Nat.mul_one]
def kPower (vs : List V) (_ : Hp) (z : V) : Prop := ∃ (b : Int) (e : Nat), vs = [.int b, .int e] ∧ z = .int (((b % 999999937).toNat ^ e % Pm.p : Nat) : Int)
theorem ok_power (T : Txt K mg w) : FnOk P w K mg base CX0 1 T.a_power T.fd_power ["base", "exponent"] (Pure kPower) := by
  refine T.F_power.ok sc_power (fun vs H Q E h => ?_) (fun cdv A outer s H vs Q E hr h => ?_)
  · obtain ⟨_, ⟨_, _, rfl, _⟩, _⟩ := h; rfl
  · obtain ⟨_, ⟨b, e, rfl, rfl⟩, q⟩ := h
    refine ⟨_, (pss_cons (ps_set (i := 2) sc_power.nd rfl (.inl rfl) pe_int)
  (pss_cons (ps_set (i := 3) sc_power.nd rfl (.inl rfl) (pe_op op_mod (pv 0) (pe_glob (v := .int (999999937)) rfl T.g_MODULUS ⟨_, rfl⟩)))
  (pss_cons (ps_while PassesOwn.never (pt_cmpR op_gt (pv 1) pe_int (nomark _)) (pss_cut (ps_if (pt_truth (pe_op op_and (pv 1) pe_int) (by intro _; rfl)) (pss_one (ps_set (i := 2) sc_power.nd rfl (.inl rfl) (pe_op op_mod (pe_op op_mul (pv 2) (pv 3)) (pe_glob (v := .int (999999937)) rfl T.g_MODULUS ⟨_, rfl⟩)))) pss_nil)
  (pss_cons (ps_set (i := 3) sc_power.nd rfl (.inl rfl) (pe_op op_mod (pe_op op_mul (pv 3) (pv 3)) (pe_glob (v := .int (999999937)) rfl T.g_MODULUS ⟨_, rfl⟩)))
  (pss_one (ps_set (i := 1) sc_power.nd rfl (.inl rfl) (pe_op op_shr (pv 1) pe_int))))))
  (pss_one (ps_ret (pv 2)))))), ?_⟩
    apply q_asg
    case h => walk_at "ev"
    intro H1 e1
    apply q_asg
    case h => walk_at "ev"
    intro H2 e2
    generalize hE : (b % 999999937).toNat ^ e % Pm.p = Z at q
    have hb0 : 0 ≤ b % 999999937 := Int.emod_nonneg _ (by decide)
    have hb1 : b % 999999937 < 999999937 := Int.emod_lt_of_pos _ (by decide)
    obtain ⟨bn, hbn⟩ := Int.eq_ofNat_of_zero_le hb0
    rw [hbn] at hE hb1
    refine q_while (fun m σ H' => ∃ (r sq : Nat), σ = [some (.int b), some (.int m), some (.int r), some (.int sq)] ∧ r < 999999937 ∧ sq < 999999937 ∧ r * sq ^ m % Pm.p = Z ∧ Ex H H') e ⟨1, bn, ?_, by decide, by omega, by rw [Nat.one_mul]; exact hE, e1.trans e2⟩ ?_
    · rw [hbn]; rfl
    rintro m σ H3 ⟨r, sq, rfl, hr1, hs1, hz, e3⟩
    refine ⟨decide ((0 : Int) < m), by walk_at "et", fun hd H4 e4 => ?_, fun hd H4 e4 => ?_⟩
    · have hd := of_decide_eq_true hd
      refine ⟨_, fun _ _ h => h, ?_⟩
      have hm1 : CMul (r : Int) sq := .inl (by omega)
      have hm2 : CMul (sq : Int) sq := .inl (by omega)
      have hbit : Builtin.bitAnd (m : Int) 1 = ((m % 2 : Nat) : Int) := by
        have h1 := Bits.bitAnd_mask (x := (m : Int)) 1 (by omega)
        have h2 : ((2 : Int) ^ 1 - 1) = 1 := by decide
        rw [h2] at h1
        rw [h1]
        omega
      refine ⟨fun σ' H' => σ' = [some (.int b), some (.int m), some (.int ((if m % 2 = 1 then r * sq % Pm.p else r : Nat) : Int)), some (.int sq)] ∧ Ex H3 H', ?_, ?_⟩
      · refine go (v := .int ((m % 2 : Nat) : Int)) (ev_is (ev_op (ev_var rfl) ev_c rv_I0) (by rw [hbit])) fun H5 e5 => ?_
        refine ⟨((m % 2 : Nat) : Int) != 0, rfl, ?_⟩
        refine ite2 (fun hc => ?_) (fun hc => ?_)
        · apply s_asg
          case h => walk_at "ev"
          intro H6 e6
          have h1 : m % 2 = 1 := by simp at hc; omega
          rw [if_pos h1]
          exact ⟨by show [_, _, some (V.int ((r : Int) * sq % 999999937)), _] = _; rw [Int.natCast_emod, Int.natCast_mul]; rfl, (e4.trans e5).trans e6⟩
        · have h1 : ¬ m % 2 = 1 := by simp at hc; omega
          rw [if_neg h1]
          exact ⟨rfl, e4.trans e5⟩
      · rintro σ' H5 ⟨rfl, e5⟩
        apply q_asg
        case h => walk_at "ev"
        intro H6 e6
        apply s_asg
        case h => walk_at "ev"
        intro H7 e7
        refine ⟨m / 2, by omega, _, sq * sq % Pm.p, ?_, ?_, Nat.mod_lt _ (by decide), pow_step (b := 0) hz, ((e3.trans e5).trans e6).trans e7⟩
        · show [some (V.int b), some (V.int ((m : Int) / 2 ^ (1 : Int).toNat)), some (V.int _), some (V.int ((sq : Int) * sq % 999999937))] = _
          rw [Int.natCast_emod, Int.natCast_mul, Int.natCast_ediv]
          rfl
        · split
          · exact Nat.mod_lt _ (by decide)
          · exact hr1
    · have hd := of_decide_eq_false hd
      have hx : m = 0 := by omega
      subst hx
      rw [Nat.pow_zero, Nat.mul_one, Nat.mod_eq_of_lt hr1] at hz
      subst hz
      apply s_ret
      case h => walk_at "ev"
      exact fun H5 e5 => q H5 ((e3.trans e4).trans e5)
def kAlong (vs : List V) (_ : Hp) (z : V) : Prop := ∃ x m : Nat, vs = [.int x, .int m] ∧ x < 999999937 ∧ z = .int (Pg.al x m : Nat)
theorem ok_along (T : Txt K mg w) : FnOk P w K mg base CX0 2 T.a_along T.fd_along ["luck", "many"] (Pure kAlong) := by
  have G_power := ok_power (P := P) (w := w) (base := base) T
  refine T.F_along.ok sc_along (fun vs H Q E h => ?_) (fun cdv A outer s H vs Q E hr h => ?_)
  · obtain ⟨_, ⟨_, _, rfl, _⟩, _⟩ := h; rfl
  · obtain ⟨_, ⟨x, m, rfl, hx, rfl⟩, q⟩ := h
    refine ⟨_, (pss_one (ps_ret (pe_op op_mod (pe_op op_add (pe_op op_mul (pe_op op_sub (pv 0) (pe_glob (v := .int (949019055)) rfl T.g_STILL ⟨_, rfl⟩)) (pe_call G_power (hr.mono (by decide)) (by rfl) T.g_power T.F_power.kp T.b_power .nil pass0 (pa_cons (pe_glob (v := .int (48274)) rfl T.g_FACTOR ⟨_, rfl⟩) (pa_cons (pv 1) pa_nil)))) (pe_glob (v := .int (949019055)) rfl T.g_STILL ⟨_, rfl⟩)) (pe_glob (v := .int (999999937)) rfl T.g_MODULUS ⟨_, rfl⟩)))), ?_⟩
    refine s_ret (v := .int (Pg.al x m : Nat)) ?_ q
    refine ev_is (v := .int ((((x : Int) - 949019055) * ((48274 ^ m % Pm.p : Nat) : Int) + 949019055) % 999999937)) ?_ (by rw [Pg.al_int hx])
    refine ev_op (ev_op (ev_op (by walk_at "ev") (ev_callP (vs := [.int 48274, .int m]) (by walk_at "ea") fun H1 _ => ⟨48274, m, rfl, rfl⟩) (rv_I (.inl ⟨by omega, by omega⟩))) ev_c rv_I0) ev_c (rv_I (by walk_at "sc"))
def kL (f : Nat → Nat) (vs : List V) (_ : Hp) (z : V) : Prop := ∃ n : Nat, vs = [.int n] ∧ n < 999999937 ∧ z = .int (f n : Nat)
theorem ok_stir (T : Txt K mg w) : FnOk P w K mg base CX0 1 T.a_stir T.fd_stir ["luck"] (Pure (kL Pm.stirN)) := by
  refine T.F_stir.ok sc_stir (fun vs H Q E h => ?_) (fun cdv A outer s H vs Q E hr h => ?_)
  · obtain ⟨_, ⟨_, rfl, _⟩, _⟩ := h; rfl
  · obtain ⟨_, ⟨n, rfl, hn, rfl⟩, q⟩ := h
    refine ⟨_, (pss_one (ps_ret (pe_op op_mod (pe_op op_add (pe_op op_pow (pv 0) pe_int) (pe_glob (v := .int (271829)) rfl T.g_SUMMAND ⟨_, rfl⟩)) (pe_glob (v := .int (999999937)) rfl T.g_MODULUS ⟨_, rfl⟩)))), ?_⟩
    refine s_ret (v := .int (Pm.stirN n : Nat)) ?_ q
    have hp : CPow n 5 := ⟨by decide, by decide, by rw [Int.natAbs_natCast]; exact Nat.lt_trans hn (by decide)⟩
    apply ev_is
    walk_at "ev"
    rw [stir_cast]
theorem ok_unstir (T : Txt K mg w) : FnOk P w K mg base CX0 2 T.a_unstir T.fd_unstir ["luck"] (Pure (kL Pm.unstirN)) := by
  have G_power := ok_power (P := P) (w := w) (base := base) T
  refine T.F_unstir.ok sc_unstir (fun vs H Q E h => ?_) (fun cdv A outer s H vs Q E hr h => ?_)
  · obtain ⟨_, ⟨_, rfl, _⟩, _⟩ := h; rfl
  · obtain ⟨_, ⟨n, rfl, hn, rfl⟩, q⟩ := h
    refine ⟨_, (pss_one (ps_ret (pe_call G_power (hr.mono (by decide)) (by rfl) T.g_power T.F_power.kp T.b_power .nil pass0 (pa_cons (pe_op op_sub (pv 0) (pe_glob (v := .int (271829)) rfl T.g_SUMMAND ⟨_, rfl⟩)) (pa_cons (pe_glob (v := .int (799999949)) rfl T.g_FIFTH_ROOT ⟨_, rfl⟩) pa_nil))))), ?_⟩
    refine s_ret (v := .int (Pm.unstirN n : Nat)) ?_ q
    exact ev_callP (vs := [.int ((n : Int) - 271829), .int 799999949]) (by walk_at "ea") fun H1 _ => ⟨_, 799999949, rfl, by rw [unstir_cast hn]⟩
def kRun (vs : List V) (_ : Hp) (z : V) : Prop := ∃ l e t : Nat, vs = [.int l, .int e, .int t] ∧ l < 999999937 ∧ z = .int (runN l e t : Nat)
theorem add_cast (a b : Nat) : ((a : Int) + b) % 999999937 = (((a + b) % Pm.p : Nat) : Int) := by
  rw [Int.natCast_emod, Int.natCast_add]
  rfl
theorem ok_run_number (T : Txt K mg w) : FnOk P w K mg base CX0 2 T.a_run_number T.fd_run_number ["luck", "entry", "thing"] (Pure kRun) := by
  have G_stir := ok_stir (P := P) (w := w) (base := base) T
  refine T.F_run_number.ok sc_run_number (fun vs H Q E h => ?_) (fun cdv A outer s H vs Q E hr h => ?_)
  · obtain ⟨_, ⟨_, _, _, rfl, _⟩, _⟩ := h; rfl
  · obtain ⟨_, ⟨l, e, t, rfl, hl, rfl⟩, q⟩ := h
    refine ⟨_, (pss_cons (ps_set (i := 3) sc_run_number.nd rfl (.inl rfl) (pe_call G_stir (hr.mono (by decide)) (by rfl) T.g_stir T.F_stir.kp T.b_stir .nil pass0 (pa_cons (pv 0) pa_nil)))
  (pss_cons (ps_set (i := 3) sc_run_number.nd rfl (.inl rfl) (pe_call G_stir (hr.mono (by decide)) (by rfl) T.g_stir T.F_stir.kp T.b_stir .nil pass0 (pa_cons (pe_op op_mod (pe_op op_add (pv 3) (pv 1)) (pe_glob (v := .int (999999937)) rfl T.g_MODULUS ⟨_, rfl⟩)) pa_nil)))
  (pss_one (ps_ret (pe_call G_stir (hr.mono (by decide)) (by rfl) T.g_stir T.F_stir.kp T.b_stir .nil pass0 (pa_cons (pe_op op_mod (pe_op op_add (pv 3) (pv 2)) (pe_glob (v := .int (999999937)) rfl T.g_MODULUS ⟨_, rfl⟩)) pa_nil)))))), ?_⟩
    refine q_asg (v := .int (Pm.stirN l : Nat)) (ev_callP (by walk_at "ea") fun H1 _ => ⟨l, rfl, hl, rfl⟩) fun H1 e1 => ?_
    refine q_asg (v := .int (Pm.stirN ((Pm.stirN l + e) % Pm.p) : Nat)) (ev_callP (by walk_at "ea") fun H1 _ => ⟨(Pm.stirN l + e) % Pm.p, by rw [add_cast], Nat.mod_lt _ (by decide), rfl⟩) fun H2 e2 => ?_
    refine s_ret (v := .int (runN l e t : Nat)) (ev_callP (by walk_at "ea") fun H1 _ => ⟨(Pm.stirN ((Pm.stirN l + e) % Pm.p) + t) % Pm.p, by rw [add_cast], Nat.mod_lt _ (by decide), rfl⟩) fun H3 e3 => q H3 ((e1.trans e2).trans e3)
def kSpot0 (vs : List V) (_ : Hp) (z : V) : Prop := ∃ l e t n : Nat, vs = [.int l, .int e, .int t, .int n] ∧ l < 999999937 ∧ z = .int (spotN l e t n : Nat)
theorem ok_spot (T : Txt K mg w) : FnOk P w K mg base CX0 3 T.a_spot T.fd_spot ["luck", "entry", "thing", "turn"] (Pure kSpot0) := by
  have G_stir := ok_stir (P := P) (w := w) (base := base) T
  have G_run_number := ok_run_number (P := P) (w := w) (base := base) T
  refine T.F_spot.ok sc_spot (fun vs H Q E h => ?_) (fun cdv A outer s H vs Q E hr h => ?_)
  · obtain ⟨_, ⟨_, _, _, _, rfl, _⟩, _⟩ := h; rfl
  · obtain ⟨_, ⟨l, e, t, n, rfl, hl, rfl⟩, q⟩ := h
    refine ⟨_, (pss_one (ps_ret (pe_call G_stir (hr.mono (by decide)) (by rfl) T.g_stir T.F_stir.kp T.b_stir .nil pass0 (pa_cons (pe_op op_mod (pe_op op_add (pe_call G_run_number (hr.mono (by decide)) (by rfl) T.g_run_number T.F_run_number.kp T.b_run_number .nil pass0 (pa_cons (pv 0) (pa_cons (pv 1) (pa_cons (pv 2) pa_nil)))) (pv 3)) (pe_glob (v := .int (999999937)) rfl T.g_MODULUS ⟨_, rfl⟩)) pa_nil)))), ?_⟩
    have hrun : ∀ H1 : Hp, Ev (tCall (Pure kRun) [] E0 (tCons (tVar 0) (tCons (tVar 1) (tCons (tVar 2) tNil)))) (start ["luck", "entry", "thing", "turn"] [.int l, .int e, .int t, .int n]) H1 (.int (runN l e t : Nat)) := fun H1 => ev_callP (by walk_at "ea") fun H1 _ => ⟨l, e, t, rfl, hl, rfl⟩
    refine s_ret (v := .int (spotN l e t n : Nat)) (ev_callP (vs := [.int (((runN l e t + n) % Pm.p : Nat))]) (ea_cons (ev_is (ev_op (ev_op (hrun _) (ev_var rfl) rv_I0) ev_c (rv_I (by decide))) (by rw [add_cast])) ea_nil) fun H1 _ => ⟨_, rfl, Nat.mod_lt _ (by decide), rfl⟩) q
def drawN (l e t n s : Nat) : Nat := spotN l e t n * s / 999999937
def kDraw0 (vs : List V) (_ : Hp) (z : V) : Prop := ∃ l e t n s : Nat, vs = [.int l, .int e, .int t, .int n, .int s] ∧ l < 999999937 ∧ z = .int (drawN l e t n s : Nat)
theorem ok_draw (T : Txt K mg w) : FnOk P w K mg base CX0 4 T.a_draw T.fd_draw ["luck", "entry", "thing", "turn", "sides"] (Pure kDraw0) := by
  have G_spot := ok_spot (P := P) (w := w) (base := base) T
  refine T.F_draw.ok sc_draw (fun vs H Q E h => ?_) (fun cdv A outer s H vs Q E hr h => ?_)
  · obtain ⟨_, ⟨_, _, _, _, _, rfl, _⟩, _⟩ := h; rfl
  · obtain ⟨_, ⟨l, e, t, n, s, rfl, hl, rfl⟩, q⟩ := h
    refine ⟨_, (pss_one (ps_ret (pe_op op_fdivW (pe_op op_mul (pe_call G_spot (hr.mono (by decide)) (by rfl) T.g_spot T.F_spot.kp T.b_spot .nil pass0 (pa_cons (pv 0) (pa_cons (pv 1) (pa_cons (pv 2) (pa_cons (pv 3) pa_nil))))) (pv 4)) (pe_glob (v := .int (999999937)) rfl T.g_MODULUS ⟨_, rfl⟩)))), ?_⟩
    have h1 := spot_lt l e t n
    have hm : CMul (spotN l e t n : Nat) (s : Int) := .inl (by omega)
    refine s_ret (v := .int (drawN l e t n s : Nat)) (ev_is (ev_op (ev_op (x := .int (spotN l e t n : Nat)) (ev_callP (by walk_at "ea") fun H1 _ => ⟨l, e, t, n, rfl, hl, rfl⟩) (ev_var rfl) (rv_I hm)) ev_c (rv_I ⟨by decide, by decide⟩)) ?_) q
    unfold drawN
    rw [Int.natCast_ediv, Int.natCast_mul]
    rfl
end
end Kz
set_option Elab.async false
set_option linter.all false
set_option maxRecDepth 100000
set_option maxHeartbeats 4000000
set_option exponentiation.threshold 500
namespace Kz
open PySem PySem.Spec PyProof.Rows L2 Evl Vr
local macro_rules | `(tactic| walk_at "sc") => `(tactic| first | (with_reducible assumption) | (with_reducible exact sc_mul (by omega)) | (with_reducible exact sc_mulr (by omega)) | (with_reducible exact sc_div (by omega) (by decide)) | (show (0 : Int) < _; omega) | (show _ ≠ (0 : Int); omega) | (with_reducible rfl) | decide)
local macro_rules | `(tactic| walk_at "sq") => `(tactic| first | assumption | exact sq_of (by assumption) | exact st_of (by assumption))
local macro_rules | `(tactic| walk_at "pl") => `(tactic| first | assumption | exact pl_int | exact pl_bl | exact pl_str | exact pl_non | exact pl_lst (by assumption) | exact pl_tup (by assumption) | exact pl_dK (by assumption))
local macro_rules | `(tactic| walk_at "rv") => `(tactic| first
  | with_reducible exact rv_I0
  | with_reducible exact ru_neg
  | ((with_reducible apply rv_I); walk_at "sc")
  | ((with_reducible apply rv_ixL); walk_at "sq"; first | rfl | assumption)
  | ((with_reducible apply rv_ixT); walk_at "sq"; first | rfl | assumption)
  | ((with_reducible apply rv_eq); rfl) | ((with_reducible apply rv_ne); rfl))
local macro_rules | `(tactic| walk_at "rc") => `(tactic| first
  | with_reducible exact rc_I1 | with_reducible exact rc_B1 | with_reducible exact rc_I2 | ((with_reducible apply rc_repr); walk_at "sc") | ((with_reducible apply rc_lenL); walk_at "sq")
  | ((with_reducible apply rc_isiInt); walk_at "pl") | ((with_reducible apply rc_isiBool); walk_at "pl"))
local macro_rules | `(tactic| walk_at "ea") => `(tactic| first
  | with_reducible exact ea_nil | ((with_reducible apply ea_cons); walk_at "ev"; walk_at "ea"))
local macro_rules | `(tactic| walk_at "pow") => `(tactic| first
  | with_reducible exact ev_pow (a := 10) (b := 9) (c := 1000000000) (by decide +kernel) (by decide +kernel)
  | with_reducible exact ev_pow (a := 10) (b := 10) (c := 10000000000) (by decide +kernel) (by decide +kernel)
  | with_reducible exact ev_pow (a := 10) (b := 12) (c := 1000000000000) (by decide +kernel) (by decide +kernel)
  | with_reducible exact ev_pow (a := 10) (b := 17) (c := 100000000000000000) (by decide +kernel) (by decide +kernel)
  | with_reducible exact ev_pow (a := 10) (b := 20) (c := 100000000000000000000) (by decide +kernel) (by decide +kernel)
  | with_reducible exact ev_pow (a := 10) (b := 29) (c := 100000000000000000000000000000) (by decide +kernel) (by decide +kernel)
  | with_reducible exact ev_pow (a := 10) (b := 30) (c := 1000000000000000000000000000000) (by decide +kernel) (by decide +kernel)
  | with_reducible exact ev_pow (a := 10) (b := 40) (c := 10000000000000000000000000000000000000000) (by decide +kernel) (by decide +kernel)
  | with_reducible exact ev_pow (a := 10) (b := 57) (c := 1000000000000000000000000000000000000000000000000000000000) (by decide +kernel) (by decide +kernel)
  | with_reducible exact ev_pow (a := 10) (b := 58) (c := 10000000000000000000000000000000000000000000000000000000000) (by decide +kernel) (by decide +kernel)
  | with_reducible exact ev_pow (a := 10) (b := 59) (c := 100000000000000000000000000000000000000000000000000000000000) (by decide +kernel) (by decide +kernel)
  | with_reducible exact ev_pow (a := 10) (b := 60) (c := 1000000000000000000000000000000000000000000000000000000000000) (by decide +kernel) (by decide +kernel))
local macro_rules | `(tactic| walk_at "call") => `(tactic| (intro H9 e9; first | exact ⟨_, rfl, rfl⟩ | exact ⟨_, _, rfl, rfl⟩ | exact ⟨_, _, _, rfl, rfl⟩ | exact ⟨_, rfl, by walk_at "pl", rfl⟩ | (refine ⟨_, _, _, rfl, ?_, rfl⟩; first | exact Plain.ex e9 (by assumption) | walk_at "pl") | (refine ⟨_, rfl, ?_, rfl⟩; first | exact Plain.ex e9 (by assumption) | walk_at "pl")))
local macro_rules | `(tactic| walk_at "ev") => `(tactic| first
  | with_reducible exact ev_c
  | exact ev_var rfl
  | walk_at "pow"
  | ((with_reducible apply ev_op); walk_at "ev"; walk_at "ev"; walk_at "rv")
  | ((with_reducible apply ev_un); walk_at "ev"; walk_at "rv")
  | ((with_reducible apply ev_cb); walk_at "ea"; walk_at "rc")
  | ((with_reducible apply ev_callP); walk_at "ea"; walk_at "call")
  | ((with_reducible apply ev_chain); walk_at "ev"; walk_at "ev"; walk_at "rv"; walk_at "ev"; walk_at "rv")
  | ((with_reducible apply ev_andV); walk_at "ev"; intro _; walk_at "ev")
  | ((with_reducible apply ev_orV); walk_at "ev"; intro _; walk_at "ev")
  | ((with_reducible apply ev_ite); walk_at "et"; intro _; walk_at "ev"; intro _; walk_at "ev")
  | ((with_reducible apply ev_notV); walk_at "ev"))
local macro_rules | `(tactic| walk_at "et") => `(tactic| first
  | ((with_reducible apply et_test); walk_at "ev")
  | ((with_reducible apply et_B); walk_at "ev")
  | ((with_reducible apply et_and); walk_at "et"; intro _; walk_at "et")
  | ((with_reducible apply et_or); walk_at "et"; intro _; walk_at "et")
  | ((with_reducible apply et_not); walk_at "et"))
/-! ### checks, and what they raise -/
def isWholeV (v : V) : Bool := match v with
  | .int n => isIntV (.int n) && decide (0 ≤ n)
  | _ => false
inductive Ck where
  | luck | whole | sides
def Ck.ok : Ck → V → Bool
  | .luck, v => isWithin 0 (999999937 - 1) v
  | .whole, v => isWholeV v
  | .sides, v => isWithin 1 1000 v
/-- what a check that fails raises -/
def Fails (CL CN : Addr) (k : Ck) (v : V) (E : XK) (H : Hp) : Prop := match k with
  | .luck => ∀ H', Ex H H' → E (.ref CL) none H'
  | _ => ∀ d H', Ex H H' → H' d = some (.xd [("given", v)]) → E (.ref CN) (some d) H'
theorem Fails.ex {CL CN : Addr} {k : Ck} {v : V} {E : XK} {H H1 : Hp} (e : Ex H H1) (h : Fails CL CN k v E H) : Fails CL CN k v E H1 := by
  cases k
  · exact fun H' e' => h H' (e.trans e')
  · exact fun d H' e' hd => h d H' (e.trans e') hd
  · exact fun d H' e' hd => h d H' (e.trans e') hd
def spNeed (K : PySem.W.Frag) (CL CN : Addr) (k : Ck) (more : List V) : Sp := fun vs H Q E => ∃ v, vs = v :: more ∧ Plain K H v ∧ (k.ok v = true → ∀ H', Ex H H' → Q .non H') ∧ (k.ok v = false → Fails CL CN k v E H)
/-- a call that asks some checks first, one behind the other; fine: what it answers if none fails is not told -/
def spChk (K : PySem.W.Frag) (CL CN : Addr) (n : Nat) (f : List V → List (Ck × V)) (fine : Prop) : Sp := fun vs H Q E => vs.length = n ∧ (∀ v ∈ vs, Plain K H v) ∧ match (f vs).find? (fun p => !p.1.ok p.2) with
  | some p => Fails CL CN p.1 p.2 E H
  | none => fine ∧ ∀ z H', Ex H H' → Q z H'
theorem find_next {c : Ck} {v : V} {l : List (Ck × V)} (h : c.ok v = true) : ((c, v) :: l).find? (fun p => !p.1.ok p.2) = l.find? (fun p => !p.1.ok p.2) := by
  rw [List.find?_cons_of_neg]
  simp [h]
theorem find_this {c : Ck} {v : V} {l : List (Ck × V)} (h : c.ok v = false) : ((c, v) :: l).find? (fun p => !p.1.ok p.2) = some (c, v) := by
  rw [List.find?_cons_of_pos]
  simp [h]
section
variable {σ : L2.St} {H : Hp} {ts : TA} {tz : TS} {D : Ends} {K : PySem.W.Frag} {CL CN : Addr} {k : Ck} {more : List V} {v : V} {E : XK}
/-- need_..(v) -/
theorem q_need {l : List (Ck × V)} {F : Prop} {W : Hp → Prop} (ha : EvA ts σ H (v :: more)) (hp : Plain K H v)
    (h : match ((k, v) :: l).find? (fun p => !p.1.ok p.2) with | some p => Fails CL CN p.1 p.2 E H | none => F ∧ W H)
    (hw : ∀ {H1}, Ex H H1 → W H → W H1)
    (kk : ∀ H1, Ex H H1 → k.ok v = true → (match l.find? (fun p => !p.1.ok p.2) with | some p => Fails CL CN p.1 p.2 E H1 | none => F ∧ W H1) → tz D σ H1) : tSeq (tDrop (tCall (spNeed K CL CN k more) [] E ts)) tz D σ H :=
  ha H (Ex.refl H) _ fun H1 e1 => by
    show spNeed K CL CN k more ((v :: more) ++ []) H1 _ E
    rw [List.append_nil]
    refine ⟨v, rfl, hp.ex e1, fun ht H2 e2 => kk H2 (e1.trans e2) ht ?_, fun hf => ?_⟩
    · rw [find_next ht] at h
      revert h
      cases l.find? (fun p => !p.1.ok p.2) with
      | none => exact fun h => ⟨h.1, hw (e1.trans e2) h.2⟩
      | some p => exact fun h => h.ex (e1.trans e2)
    · rw [find_this hf] at h
      exact h.ex e1
theorem fn_false {P : Program} {w : World} {mg : Str → Option Value} {base : Heap} {CX : CXT} {n : Nat} {f : Addr} {fd : FuncData} {ps : List Str} : FnOk P w K mg base CX n f fd ps (fun _ _ _ _ => False) := ⟨fun _ _ _ _ h => h.elim, fun _ _ _ _ _ _ _ _ _ _ _ _ _ h => h.elim⟩
end
theorem isi_of {v : V} {lo hi : Int} (h : isWithin lo hi v = true) : ∃ n : Int, v = .int n ∧ lo ≤ n ∧ n ≤ hi := by
  cases v with
  | int n =>
    unfold isWithin at h
    simp only [Bool.and_eq_true, decide_eq_true_eq] at h
    exact ⟨n, rfl, h.2.1, h.2.2⟩
  | _ => cases h
theorem luck_of {v : V} (h : Ck.luck.ok v = true) : ∃ n : Nat, v = .int n ∧ n < 999999937 := by
  obtain ⟨n, rfl, h1, h2⟩ := isi_of h
  exact ⟨n.toNat, by rw [Int.toNat_of_nonneg h1], by omega⟩
theorem whole_of {v : V} (h : Ck.whole.ok v = true) : ∃ n : Nat, v = .int n ∧ n < 1000000000000000000000000000000000000000000000000000000000000 := by
  cases v with
  | int n =>
    have h : isWholeV (.int n) = true := h
    unfold isWholeV isIntV at h
    simp only [Bool.and_eq_true, decide_eq_true_eq] at h
    exact ⟨n.toNat, by rw [Int.toNat_of_nonneg h.2], by omega⟩
  | _ => cases h
theorem sides_of {v : V} (h : Ck.sides.ok v = true) : ∃ n : Nat, v = .int n ∧ 1 ≤ n ∧ n ≤ 1000 := by
  obtain ⟨n, rfl, h1, h2⟩ := isi_of h
  exact ⟨n.toNat, by rw [Int.toNat_of_nonneg (by omega)], by omega, by omega⟩
section
variable {P : Program} {w : World} {K : PySem.W.Frag} {mg : Str → Option Value} {base : Heap}
def kIsWholeV (K : PySem.W.Frag) (vs : List V) (H : Hp) (z : V) : Prop := ∃ x, vs = [x] ∧ Plain K H x ∧ z = .bl (isWholeV x)
theorem ok_is_whole (T : Txt K mg w) : FnOk P w K mg base CX0 2 T.a_is_whole T.fd_is_whole ["value"] (Pure (kIsWholeV K)) := by
  have G_is_integer := ok_is_integer (P := P) (w := w) (base := base) T
  refine T.F_is_whole.ok sc_is_whole (fun vs H Q E h => ?_) (fun cdv A outer s H vs Q E hr h => ?_)
  · obtain ⟨_, ⟨_, rfl, _⟩, _⟩ := h; rfl
  · obtain ⟨_, ⟨x, rfl, hp, rfl⟩, q⟩ := h
    refine ⟨_, (pss_one (ps_ret (pe_and (pe_call G_is_integer (hr.mono (by decide)) (by rfl) T.g_is_integer T.F_is_integer.kp T.b_is_integer .nil pass0 (pa_cons (pv 0) pa_nil)) (pe_one (pe_cmpR op_ge (pv 0) pe_int (nomark _)))))), ?_⟩
    refine s_ret (v := .bl (isWholeV x)) ?_ q
    cases x with
    | int n => apply ev_is; walk_at "ev"; rfl
    | bl b => exact ev_andV (a := false) (b := false) (by apply ev_is; walk_at "ev"; rfl) (fun h => by cases h)
    | non => exact ev_andV (a := false) (b := false) (by apply ev_is; walk_at "ev"; rfl) (fun h => by cases h)
    | str _ => exact ev_andV (a := false) (b := false) (by apply ev_is; walk_at "ev"; rfl) (fun h => by cases h)
    | byt _ => exact ev_andV (a := false) (b := false) (by apply ev_is; walk_at "ev"; rfl) (fun h => by cases h)
    | flt _ => exact ev_andV (a := false) (b := false) (by apply ev_is; walk_at "ev"; rfl) (fun h => by cases h)
    | ref _ => exact ev_andV (a := false) (b := false) (by apply ev_is; walk_at "ev"; rfl) (fun h => by cases h)
    | ty _ => exact ev_andV (a := false) (b := false) (by apply ev_is; walk_at "ev"; rfl) (fun h => by cases h)
/-- the making of an InvalidNumber -/
def spGiven (CN : Addr) : Sp := fun vs H Q _ => ∃ (a : Addr) (v : V), vs = [.ref a, v] ∧ H a = some (exo a CN none) ∧ ∀ d, H d = none → d ≠ a → Q .non (upd (upd H d (exd d [("given", v)])) a (exo a CN (some d)))
theorem ok_given (T : Txt K mg w) : FnOk P w K mg base CX0 1 T.a_InvalidNumber___init__ T.fd_InvalidNumber___init__ ["self", "given"] (spGiven T.C_IN) := by
  refine T.F_InvalidNumber___init__.ok sc_InvalidNumber___init__ (fun vs H Q E h => ?_) (fun cdv A outer s H vs Q E hr h => ?_)
  · obtain ⟨_, _, rfl, _⟩ := h; rfl
  · obtain ⟨a, v, rfl, ha, q⟩ := h
    refine ⟨_, (pss_one (ps_osG PySem.Xi.bsIndex (pv 0) (pv 1))), ?_⟩
    exact ⟨v, rfl, .ref a, rfl, a, T.C_IN, rfl, T.o_IN, T.f_IN, ha, fun d hd hne => q d hd hne⟩
/-- raise InvalidNumber(v): what is left of it -/
theorem mk_given {σ : L2.St} {H : Hp} {CN : Addr} {v : V} {i : Nat} {Q : XK} (hv : σ[i]? = some (some v)) (h : ∀ d H', Ex H H' → H' d = some (.xd [("given", v)]) → Q (.ref CN) (some d) H') : tMkO CN (spGiven CN) [] (tCons (tVar i) tNil) σ H Q := by
  refine ⟨v, hv, by show 1 ≤ 1000; decide, fun a ha => ⟨a, v, rfl, upd_same, fun d hd hne => ⟨rfl, d, [("given", v)], upd_same, by rw [upd_ne hne, upd_same], by rw [upd_ne hne] at hd; exact hd, ?_⟩⟩⟩
  rw [upd_ne hne] at hd
  refine h d _ (fun b o hb => ?_) upd_same
  have h1 : b ≠ d := fun z => by rw [z, hd] at hb; cases hb
  have h2 : b ≠ a := fun z => by rw [z, ha] at hb; cases hb
  rw [upd_ne h1, del_ne h2, upd_ne h2, upd_ne h1, upd_ne h2]
  exact hb
theorem ok_need_luck (T : Txt K mg w) : FnOk P w K mg base (L2.CX P w) 4 T.a_need_luck T.fd_need_luck ["value"] (spNeed K T.C_IL T.C_IN .luck []) := by
  have G_is_luck := ok_is_luck (P := P) (w := w) (base := base) T
  refine T.F_need_luck.okX sc_need_luck (fun vs H Q E h => ?_) (fun cdv A outer s H vs Q E hr h => ?_)
  · obtain ⟨_, rfl, _⟩ := h; rfl
  · obtain ⟨v, rfl, hp, q1, q2⟩ := h
    refine ⟨_, (pss_one (ps_if (pt_not (pt_val (pe_call G_is_luck (hr.mono (by decide)) (by rfl) T.g_is_luck T.F_is_luck.kp T.b_is_luck .nil pass0 (pa_cons (pv 0) pa_nil)))) (pss_one (ps_raise (W := fun cls d _ H => E cls d H) rfl (takes_of rfl rfl rfl rfl) (pmk_own PySem.F.excBase_ValueError T.x_IL T.g_InvalidLuck T.k_IL (raises_own T.e_IL T.y_IL) (by rfl)))) pss_nil)), ?_⟩
    refine s_when (b := !Ck.luck.ok v) (et_not (et_B (ev_callP (vs := [v]) (by walk_at "ea") fun H1 e1 => ⟨v, rfl, hp.ex e1, rfl⟩))) (fun hb H1 e1 => ?_) (fun hb H1 e1 => q1 (by simpa using hb) H1 e1)
    exact (q2 (by simpa using hb)) H1 e1
theorem ok_need_whole (T : Txt K mg w) : FnOk P w K mg base (L2.CX P w) 3 T.a_need_whole T.fd_need_whole ["value"] (spNeed K T.C_IL T.C_IN .whole []) := by
  have G_is_whole := ok_is_whole (P := P) (w := w) (base := base) T
  have G_InvalidNumber___init__ := ok_given (P := P) (w := w) (base := base) T
  refine T.F_need_whole.okX sc_need_whole (fun vs H Q E h => ?_) (fun cdv A outer s H vs Q E hr h => ?_)
  · obtain ⟨_, rfl, _⟩ := h; rfl
  · obtain ⟨v, rfl, hp, q1, q2⟩ := h
    refine ⟨_, (pss_one (ps_if (pt_not (pt_val (pe_call G_is_whole (hr.mono (by decide)) (by rfl) T.g_is_whole T.F_is_whole.kp T.b_is_whole .nil pass0 (pa_cons (pv 0) pa_nil)))) (pss_one (ps_raise (W := fun cls d _ H => E cls d H) rfl (takes_of rfl rfl rfl rfl) (pmk_oxG PySem.Xi.bsIndex T.o_IN T.i_IN T.t_IN G_InvalidNumber___init__ (hr.mono (by decide)) T.b_InvalidNumber___init__ .nil pass0 (by rfl) T.g_InvalidNumber (pa_cons (pv 0) pa_nil)))) pss_nil)), ?_⟩
    refine s_when (b := !Ck.whole.ok v) (et_not (et_B (ev_callP (vs := [v]) (by walk_at "ea") fun H1 e1 => ⟨v, rfl, hp.ex e1, rfl⟩))) (fun hb H1 e1 => ?_) (fun hb H1 e1 => q1 (by simpa using hb) H1 e1)
    exact mk_given rfl fun d H2 e2 hd => (q2 (by simpa using hb)) d H2 (e1.trans e2) hd
theorem ok_need_within (T : Txt K mg w) : FnOk P w K mg base (L2.CX P w) 3 T.a_need_within T.fd_need_within ["value", "low", "high"] (spNeed K T.C_IL T.C_IN .sides [.int 1, .int 1000]) := by
  have G_is_within := ok_is_within (P := P) (w := w) (base := base) T
  have G_InvalidNumber___init__ := ok_given (P := P) (w := w) (base := base) T
  refine T.F_need_within.okX sc_need_within (fun vs H Q E h => ?_) (fun cdv A outer s H vs Q E hr h => ?_)
  · obtain ⟨_, rfl, _⟩ := h; rfl
  · obtain ⟨v, rfl, hp, q1, q2⟩ := h
    refine ⟨_, (pss_one (ps_if (pt_not (pt_val (pe_call G_is_within (hr.mono (by decide)) (by rfl) T.g_is_within T.F_is_within.kp T.b_is_within .nil pass0 (pa_cons (pv 0) (pa_cons (pv 1) (pa_cons (pv 2) pa_nil)))))) (pss_one (ps_raise (W := fun cls d _ H => E cls d H) rfl (takes_of rfl rfl rfl rfl) (pmk_oxG PySem.Xi.bsIndex T.o_IN T.i_IN T.t_IN G_InvalidNumber___init__ (hr.mono (by decide)) T.b_InvalidNumber___init__ .nil pass0 (by rfl) T.g_InvalidNumber (pa_cons (pv 0) pa_nil)))) pss_nil)), ?_⟩
    refine s_when (b := !Ck.sides.ok v) (et_not (et_B (ev_callP (vs := [v, .int 1, .int 1000]) (by walk_at "ea") fun H1 e1 => ⟨v, 1, 1000, rfl, hp.ex e1, rfl⟩))) (fun hb H1 e1 => ?_) (fun hb H1 e1 => q1 (by simpa using hb) H1 e1)
    exact mk_given rfl fun d H2 e2 hd => (q2 (by simpa using hb)) d H2 (e1.trans e2) hd
end
end Kz
set_option Elab.async false
set_option linter.all false
set_option maxRecDepth 100000
set_option maxHeartbeats 4000000
set_option exponentiation.threshold 500
namespace Kz
open PySem PySem.Spec PyProof.Rows L2 Evl Vr
local macro_rules | `(tactic| walk_at "sc") => `(tactic| first | (with_reducible assumption) | (with_reducible exact sc_mul (by omega)) | (with_reducible exact sc_mulr (by omega)) | (with_reducible exact sc_div (by omega) (by decide)) | (show (0 : Int) < _; omega) | (show _ ≠ (0 : Int); omega) | (with_reducible rfl) | decide)
local macro_rules | `(tactic| walk_at "sq") => `(tactic| first | assumption | exact sq_of (by assumption) | exact st_of (by assumption))
local macro_rules | `(tactic| walk_at "pl") => `(tactic| first | assumption | exact pl_int | exact pl_bl | exact pl_str | exact pl_non | exact pl_lst (by assumption) | exact pl_tup (by assumption) | exact pl_dK (by assumption))
local macro_rules | `(tactic| walk_at "rv") => `(tactic| first
  | with_reducible exact rv_I0
  | with_reducible exact ru_neg
  | ((with_reducible apply rv_I); walk_at "sc")
  | ((with_reducible apply rv_ixL); walk_at "sq"; first | rfl | assumption)
  | ((with_reducible apply rv_ixT); walk_at "sq"; first | rfl | assumption)
  | ((with_reducible apply rv_eq); rfl) | ((with_reducible apply rv_ne); rfl))
local macro_rules | `(tactic| walk_at "rc") => `(tactic| first
  | with_reducible exact rc_I1 | with_reducible exact rc_B1 | with_reducible exact rc_I2 | ((with_reducible apply rc_repr); walk_at "sc") | ((with_reducible apply rc_lenL); walk_at "sq")
  | ((with_reducible apply rc_isiInt); walk_at "pl") | ((with_reducible apply rc_isiBool); walk_at "pl"))
local macro_rules | `(tactic| walk_at "ea") => `(tactic| first
  | with_reducible exact ea_nil | ((with_reducible apply ea_cons); walk_at "ev"; walk_at "ea"))
local macro_rules | `(tactic| walk_at "pow") => `(tactic| first
  | with_reducible exact ev_pow (a := 10) (b := 9) (c := 1000000000) (by decide +kernel) (by decide +kernel)
  | with_reducible exact ev_pow (a := 10) (b := 10) (c := 10000000000) (by decide +kernel) (by decide +kernel)
  | with_reducible exact ev_pow (a := 10) (b := 12) (c := 1000000000000) (by decide +kernel) (by decide +kernel)
  | with_reducible exact ev_pow (a := 10) (b := 17) (c := 100000000000000000) (by decide +kernel) (by decide +kernel)
  | with_reducible exact ev_pow (a := 10) (b := 20) (c := 100000000000000000000) (by decide +kernel) (by decide +kernel)
  | with_reducible exact ev_pow (a := 10) (b := 29) (c := 100000000000000000000000000000) (by decide +kernel) (by decide +kernel)
  | with_reducible exact ev_pow (a := 10) (b := 30) (c := 1000000000000000000000000000000) (by decide +kernel) (by decide +kernel)
  | with_reducible exact ev_pow (a := 10) (b := 40) (c := 10000000000000000000000000000000000000000) (by decide +kernel) (by decide +kernel)
  | with_reducible exact ev_pow (a := 10) (b := 57) (c := 1000000000000000000000000000000000000000000000000000000000) (by decide +kernel) (by decide +kernel)
  | with_reducible exact ev_pow (a := 10) (b := 58) (c := 10000000000000000000000000000000000000000000000000000000000) (by decide +kernel) (by decide +kernel)
  | with_reducible exact ev_pow (a := 10) (b := 59) (c := 100000000000000000000000000000000000000000000000000000000000) (by decide +kernel) (by decide +kernel)
  | with_reducible exact ev_pow (a := 10) (b := 60) (c := 1000000000000000000000000000000000000000000000000000000000000) (by decide +kernel) (by decide +kernel))
local macro_rules | `(tactic| walk_at "call") => `(tactic| (intro H9 e9; first | exact ⟨_, rfl, rfl⟩ | exact ⟨_, _, rfl, rfl⟩ | exact ⟨_, _, _, rfl, rfl⟩ | exact ⟨_, rfl, by walk_at "pl", rfl⟩ | (refine ⟨_, _, _, rfl, ?_, rfl⟩; first | exact Plain.ex e9 (by assumption) | walk_at "pl") | (refine ⟨_, rfl, ?_, rfl⟩; first | exact Plain.ex e9 (by assumption) | walk_at "pl")))
local macro_rules | `(tactic| walk_at "ev") => `(tactic| first
  | with_reducible exact ev_c
  | exact ev_var rfl
  | walk_at "pow"
  | ((with_reducible apply ev_op); walk_at "ev"; walk_at "ev"; walk_at "rv")
  | ((with_reducible apply ev_un); walk_at "ev"; walk_at "rv")
  | ((with_reducible apply ev_cb); walk_at "ea"; walk_at "rc")
  | ((with_reducible apply ev_callP); walk_at "ea"; walk_at "call")
  | ((with_reducible apply ev_chain); walk_at "ev"; walk_at "ev"; walk_at "rv"; walk_at "ev"; walk_at "rv")
  | ((with_reducible apply ev_andV); walk_at "ev"; intro _; walk_at "ev")
  | ((with_reducible apply ev_orV); walk_at "ev"; intro _; walk_at "ev")
  | ((with_reducible apply ev_ite); walk_at "et"; intro _; walk_at "ev"; intro _; walk_at "ev")
  | ((with_reducible apply ev_notV); walk_at "ev"))
local macro_rules | `(tactic| walk_at "et") => `(tactic| first
  | ((with_reducible apply et_test); walk_at "ev")
  | ((with_reducible apply et_B); walk_at "ev")
  | ((with_reducible apply et_and); walk_at "et"; intro _; walk_at "et")
  | ((with_reducible apply et_or); walk_at "et"; intro _; walk_at "et")
  | ((with_reducible apply et_not); walk_at "et"))
section
variable {P : Program} {w : World} {K : PySem.W.Frag} {mg : Str → Option Value} {base : Heap}
theorem ok_next_luck (T : Txt K mg w) : FnOk P w K mg base (L2.CX P w) 5 T.a_next_luck T.fd_next_luck ["luck"] (spChk K T.C_IL T.C_IN 1 (fun vs => [(.luck, vs.getD 0 .non)]) False) := by
  have G_need_luck := ok_need_luck (P := P) (w := w) (base := base) T
  have G_following := fn_false (P := P) (w := w) (K := K) (mg := mg) (base := base) (CX := CX0) (n := 1) (f := T.a_following) (fd := T.fd_following) (ps := ["luck"])
  refine T.F_next_luck.okX sc_next_luck (fun vs H Q E h => h.1) (fun cdv A outer s H vs Q E hr h => ?_)
  obtain ⟨hl, hp, h⟩ := h
  match vs, hl with
  | [v0], _ =>
    refine ⟨_, (pss_cons (ps_expr (pe_call G_need_luck (hr.mono (by decide)) (by rfl) T.g_need_luck T.F_need_luck.kp T.b_need_luck .nil (passes_call (W := fun cls d _ H => E cls d H) (takes_of rfl rfl rfl rfl) (fun _ _ _ _ h => h)) (pa_cons (pv 0) pa_nil)))
  (pss_one (ps_ret (pe_call G_following (hr.mono (by decide)) (by rfl) T.g_following T.F_following.kp T.b_following .nil pass0 (pa_cons (pv 0) pa_nil))))), ?_⟩
    refine q_need (W := fun H => ∀ z H', Ex H H' → Q z H') (ea_cons (ev_var rfl) ea_nil) (hp v0 (by simp)) h (fun e w z H' e' => w z H' (e.trans e')) fun H1 e1 c0 h => ?_
    exact h.1.elim
theorem ok_stirred (T : Txt K mg w) : FnOk P w K mg base (L2.CX P w) 5 T.a_stirred T.fd_stirred ["luck"] (spChk K T.C_IL T.C_IN 1 (fun vs => [(.luck, vs.getD 0 .non)]) False) := by
  have G_need_luck := ok_need_luck (P := P) (w := w) (base := base) T
  have G_stir := fn_false (P := P) (w := w) (K := K) (mg := mg) (base := base) (CX := CX0) (n := 1) (f := T.a_stir) (fd := T.fd_stir) (ps := ["luck"])
  refine T.F_stirred.okX sc_stirred (fun vs H Q E h => h.1) (fun cdv A outer s H vs Q E hr h => ?_)
  obtain ⟨hl, hp, h⟩ := h
  match vs, hl with
  | [v0], _ =>
    refine ⟨_, (pss_cons (ps_expr (pe_call G_need_luck (hr.mono (by decide)) (by rfl) T.g_need_luck T.F_need_luck.kp T.b_need_luck .nil (passes_call (W := fun cls d _ H => E cls d H) (takes_of rfl rfl rfl rfl) (fun _ _ _ _ h => h)) (pa_cons (pv 0) pa_nil)))
  (pss_one (ps_ret (pe_call G_stir (hr.mono (by decide)) (by rfl) T.g_stir T.F_stir.kp T.b_stir .nil pass0 (pa_cons (pv 0) pa_nil))))), ?_⟩
    refine q_need (W := fun H => ∀ z H', Ex H H' → Q z H') (ea_cons (ev_var rfl) ea_nil) (hp v0 (by simp)) h (fun e w z H' e' => w z H' (e.trans e')) fun H1 e1 c0 h => ?_
    exact h.1.elim
theorem ok_unstirred (T : Txt K mg w) : FnOk P w K mg base (L2.CX P w) 5 T.a_unstirred T.fd_unstirred ["luck"] (spChk K T.C_IL T.C_IN 1 (fun vs => [(.luck, vs.getD 0 .non)]) False) := by
  have G_need_luck := ok_need_luck (P := P) (w := w) (base := base) T
  have G_unstir := fn_false (P := P) (w := w) (K := K) (mg := mg) (base := base) (CX := CX0) (n := 1) (f := T.a_unstir) (fd := T.fd_unstir) (ps := ["luck"])
  refine T.F_unstirred.okX sc_unstirred (fun vs H Q E h => h.1) (fun cdv A outer s H vs Q E hr h => ?_)
  obtain ⟨hl, hp, h⟩ := h
  match vs, hl with
  | [v0], _ =>
    refine ⟨_, (pss_cons (ps_expr (pe_call G_need_luck (hr.mono (by decide)) (by rfl) T.g_need_luck T.F_need_luck.kp T.b_need_luck .nil (passes_call (W := fun cls d _ H => E cls d H) (takes_of rfl rfl rfl rfl) (fun _ _ _ _ h => h)) (pa_cons (pv 0) pa_nil)))
  (pss_one (ps_ret (pe_call G_unstir (hr.mono (by decide)) (by rfl) T.g_unstir T.F_unstir.kp T.b_unstir .nil pass0 (pa_cons (pv 0) pa_nil))))), ?_⟩
    refine q_need (W := fun H => ∀ z H', Ex H H' → Q z H') (ea_cons (ev_var rfl) ea_nil) (hp v0 (by simp)) h (fun e w z H' e' => w z H' (e.trans e')) fun H1 e1 c0 h => ?_
    exact h.1.elim
theorem ok_luck_before (T : Txt K mg w) : FnOk P w K mg base (L2.CX P w) 5 T.a_luck_before T.fd_luck_before ["luck", "many"] (spChk K T.C_IL T.C_IN 2 (fun vs => [(.luck, vs.getD 0 .non), (.whole, vs.getD 1 .non)]) False) := by
  have G_need_luck := ok_need_luck (P := P) (w := w) (base := base) T
  have G_need_whole := ok_need_whole (P := P) (w := w) (base := base) T
  have G_along := fn_false (P := P) (w := w) (K := K) (mg := mg) (base := base) (CX := CX0) (n := 1) (f := T.a_along) (fd := T.fd_along) (ps := ["luck", "many"])
  refine T.F_luck_before.okX sc_luck_before (fun vs H Q E h => h.1) (fun cdv A outer s H vs Q E hr h => ?_)
  obtain ⟨hl, hp, h⟩ := h
  match vs, hl with
  | [v0, v1], _ =>
    refine ⟨_, (pss_cons (ps_expr (pe_call G_need_luck (hr.mono (by decide)) (by rfl) T.g_need_luck T.F_need_luck.kp T.b_need_luck .nil (passes_call (W := fun cls d _ H => E cls d H) (takes_of rfl rfl rfl rfl) (fun _ _ _ _ h => h)) (pa_cons (pv 0) pa_nil)))
  (pss_cons (ps_expr (pe_call G_need_whole (hr.mono (by decide)) (by rfl) T.g_need_whole T.F_need_whole.kp T.b_need_whole .nil (passes_call (W := fun cls d _ H => E cls d H) (takes_of rfl rfl rfl rfl) (fun _ _ _ _ h => h)) (pa_cons (pv 1) pa_nil)))
  (pss_one (ps_ret (pe_call G_along (hr.mono (by decide)) (by rfl) T.g_along T.F_along.kp T.b_along .nil pass0 (pa_cons (pv 0) (pa_cons (pe_op op_mod (pe_un un_neg (pv 1)) (pe_op op_sub (pe_glob (v := .int (999999937)) rfl T.g_MODULUS ⟨_, rfl⟩) pe_int)) pa_nil))))))), ?_⟩
    refine q_need (W := fun H => ∀ z H', Ex H H' → Q z H') (ea_cons (ev_var rfl) ea_nil) (hp v0 (by simp)) h (fun e w z H' e' => w z H' (e.trans e')) fun H1 e1 c0 h => ?_
    refine q_need (W := fun H => ∀ z H', Ex H H' → Q z H') (ea_cons (ev_var rfl) ea_nil) (Plain.ex e1 (hp v1 (by simp))) h (fun e w z H' e' => w z H' (e.trans e')) fun H2 e2 c1 h => ?_
    exact h.1.elim
theorem ok_lucks_between (T : Txt K mg w) : FnOk P w K mg base (L2.CX P w) 5 T.a_lucks_between T.fd_lucks_between ["one", "other"] (spChk K T.C_IL T.C_IN 2 (fun vs => [(.luck, vs.getD 0 .non), (.luck, vs.getD 1 .non)]) False) := by
  have G_need_luck := ok_need_luck (P := P) (w := w) (base := base) T
  have G_logarithm := fn_false (P := P) (w := w) (K := K) (mg := mg) (base := base) (CX := CX0) (n := 1) (f := T.a_logarithm) (fd := T.fd_logarithm) (ps := ["result"])
  have G_power := fn_false (P := P) (w := w) (K := K) (mg := mg) (base := base) (CX := CX0) (n := 1) (f := T.a_power) (fd := T.fd_power) (ps := ["base", "exponent"])
  refine T.F_lucks_between.okX sc_lucks_between (fun vs H Q E h => h.1) (fun cdv A outer s H vs Q E hr h => ?_)
  obtain ⟨hl, hp, h⟩ := h
  match vs, hl with
  | [v0, v1], _ =>
    refine ⟨_, (pss_cons (ps_expr (pe_call G_need_luck (hr.mono (by decide)) (by rfl) T.g_need_luck T.F_need_luck.kp T.b_need_luck .nil (passes_call (W := fun cls d _ H => E cls d H) (takes_of rfl rfl rfl rfl) (fun _ _ _ _ h => h)) (pa_cons (pv 0) pa_nil)))
  (pss_cons (ps_expr (pe_call G_need_luck (hr.mono (by decide)) (by rfl) T.g_need_luck T.F_need_luck.kp T.b_need_luck .nil (passes_call (W := fun cls d _ H => E cls d H) (takes_of rfl rfl rfl rfl) (fun _ _ _ _ h => h)) (pa_cons (pv 1) pa_nil)))
  (pss_cons (ps_if (pt_cmpR op_eq (pv 0) (pv 1) (nomark _)) (pss_one (ps_ret pe_int)) pss_nil)
  (pss_cons (ps_if (pt_cmpR op_in_seq (pe_glob (v := .int (949019055)) rfl T.g_STILL ⟨_, rfl⟩) (pe_tup (pa_cons (pv 0) (pa_cons (pv 1) pa_nil))) (by rfl)) (pss_one (ps_ret pe_non)) pss_nil)
  (pss_one (ps_ret (pe_call G_logarithm (hr.mono (by decide)) (by rfl) T.g_logarithm T.F_logarithm.kp T.b_logarithm .nil pass0 (pa_cons (pe_op op_mod (pe_op op_mul (pe_op op_sub (pv 1) (pe_glob (v := .int (949019055)) rfl T.g_STILL ⟨_, rfl⟩)) (pe_call G_power (hr.mono (by decide)) (by rfl) T.g_power T.F_power.kp T.b_power .nil pass0 (pa_cons (pe_op op_sub (pv 0) (pe_glob (v := .int (949019055)) rfl T.g_STILL ⟨_, rfl⟩)) (pa_cons (pe_op op_sub (pe_glob (v := .int (999999937)) rfl T.g_MODULUS ⟨_, rfl⟩) pe_int) pa_nil)))) (pe_glob (v := .int (999999937)) rfl T.g_MODULUS ⟨_, rfl⟩)) pa_nil)))))))), ?_⟩
    refine q_need (W := fun H => ∀ z H', Ex H H' → Q z H') (ea_cons (ev_var rfl) ea_nil) (hp v0 (by simp)) h (fun e w z H' e' => w z H' (e.trans e')) fun H1 e1 c0 h => ?_
    refine q_need (W := fun H => ∀ z H', Ex H H' → Q z H') (ea_cons (ev_var rfl) ea_nil) (Plain.ex e1 (hp v1 (by simp))) h (fun e w z H' e' => w z H' (e.trans e')) fun H2 e2 c1 h => ?_
    exact h.1.elim
theorem ok_spot_number (T : Txt K mg w) : FnOk P w K mg base (L2.CX P w) 5 T.a_spot_number T.fd_spot_number ["luck", "entry", "thing", "turn"] (spChk K T.C_IL T.C_IN 4 (fun vs => [(.luck, vs.getD 0 .non), (.whole, vs.getD 1 .non), (.whole, vs.getD 2 .non), (.whole, vs.getD 3 .non)]) False) := by
  have G_need_luck := ok_need_luck (P := P) (w := w) (base := base) T
  have G_need_whole := ok_need_whole (P := P) (w := w) (base := base) T
  have G_spot := fn_false (P := P) (w := w) (K := K) (mg := mg) (base := base) (CX := CX0) (n := 1) (f := T.a_spot) (fd := T.fd_spot) (ps := ["luck", "entry", "thing", "turn"])
  refine T.F_spot_number.okX sc_spot_number (fun vs H Q E h => h.1) (fun cdv A outer s H vs Q E hr h => ?_)
  obtain ⟨hl, hp, h⟩ := h
  match vs, hl with
  | [v0, v1, v2, v3], _ =>
    refine ⟨_, (pss_cons (ps_expr (pe_call G_need_luck (hr.mono (by decide)) (by rfl) T.g_need_luck T.F_need_luck.kp T.b_need_luck .nil (passes_call (W := fun cls d _ H => E cls d H) (takes_of rfl rfl rfl rfl) (fun _ _ _ _ h => h)) (pa_cons (pv 0) pa_nil)))
  (pss_cons (ps_expr (pe_call G_need_whole (hr.mono (by decide)) (by rfl) T.g_need_whole T.F_need_whole.kp T.b_need_whole .nil (passes_call (W := fun cls d _ H => E cls d H) (takes_of rfl rfl rfl rfl) (fun _ _ _ _ h => h)) (pa_cons (pv 1) pa_nil)))
  (pss_cons (ps_expr (pe_call G_need_whole (hr.mono (by decide)) (by rfl) T.g_need_whole T.F_need_whole.kp T.b_need_whole .nil (passes_call (W := fun cls d _ H => E cls d H) (takes_of rfl rfl rfl rfl) (fun _ _ _ _ h => h)) (pa_cons (pv 2) pa_nil)))
  (pss_cons (ps_expr (pe_call G_need_whole (hr.mono (by decide)) (by rfl) T.g_need_whole T.F_need_whole.kp T.b_need_whole .nil (passes_call (W := fun cls d _ H => E cls d H) (takes_of rfl rfl rfl rfl) (fun _ _ _ _ h => h)) (pa_cons (pv 3) pa_nil)))
  (pss_one (ps_ret (pe_call G_spot (hr.mono (by decide)) (by rfl) T.g_spot T.F_spot.kp T.b_spot .nil pass0 (pa_cons (pv 0) (pa_cons (pv 1) (pa_cons (pv 2) (pa_cons (pv 3) pa_nil))))))))))), ?_⟩
    refine q_need (W := fun H => ∀ z H', Ex H H' → Q z H') (ea_cons (ev_var rfl) ea_nil) (hp v0 (by simp)) h (fun e w z H' e' => w z H' (e.trans e')) fun H1 e1 c0 h => ?_
    refine q_need (W := fun H => ∀ z H', Ex H H' → Q z H') (ea_cons (ev_var rfl) ea_nil) (Plain.ex e1 (hp v1 (by simp))) h (fun e w z H' e' => w z H' (e.trans e')) fun H2 e2 c1 h => ?_
    refine q_need (W := fun H => ∀ z H', Ex H H' → Q z H') (ea_cons (ev_var rfl) ea_nil) (Plain.ex (e1.trans e2) (hp v2 (by simp))) h (fun e w z H' e' => w z H' (e.trans e')) fun H3 e3 c2 h => ?_
    refine q_need (W := fun H => ∀ z H', Ex H H' → Q z H') (ea_cons (ev_var rfl) ea_nil) (Plain.ex ((e1.trans e2).trans e3) (hp v3 (by simp))) h (fun e w z H' e' => w z H' (e.trans e')) fun H4 e4 c3 h => ?_
    exact h.1.elim
theorem ok_luck_after (T : Txt K mg w) : FnOk P w K mg base (L2.CX P w) 5 T.a_luck_after T.fd_luck_after ["luck", "many"] (spChk K T.C_IL T.C_IN 2 (fun vs => [(.luck, vs.getD 0 .non), (.whole, vs.getD 1 .non)]) True) := by
  have G_need_luck := ok_need_luck (P := P) (w := w) (base := base) T
  have G_need_whole := ok_need_whole (P := P) (w := w) (base := base) T
  have G_along := ok_along (P := P) (w := w) (base := base) T
  refine T.F_luck_after.okX sc_luck_after (fun vs H Q E h => h.1) (fun cdv A outer s H vs Q E hr h => ?_)
  obtain ⟨hl, hp, h⟩ := h
  match vs, hl with
  | [v0, v1], _ =>
    refine ⟨_, (pss_cons (ps_expr (pe_call G_need_luck (hr.mono (by decide)) (by rfl) T.g_need_luck T.F_need_luck.kp T.b_need_luck .nil (passes_call (W := fun cls d _ H => E cls d H) (takes_of rfl rfl rfl rfl) (fun _ _ _ _ h => h)) (pa_cons (pv 0) pa_nil)))
  (pss_cons (ps_expr (pe_call G_need_whole (hr.mono (by decide)) (by rfl) T.g_need_whole T.F_need_whole.kp T.b_need_whole .nil (passes_call (W := fun cls d _ H => E cls d H) (takes_of rfl rfl rfl rfl) (fun _ _ _ _ h => h)) (pa_cons (pv 1) pa_nil)))
  (pss_one (ps_ret (pe_call G_along (hr.mono (by decide)) (by rfl) T.g_along T.F_along.kp T.b_along .nil pass0 (pa_cons (pv 0) (pa_cons (pv 1) pa_nil))))))), ?_⟩
    refine q_need (W := fun H => ∀ z H', Ex H H' → Q z H') (ea_cons (ev_var rfl) ea_nil) (hp v0 (by simp)) h (fun e w z H' e' => w z H' (e.trans e')) fun H1 e1 c0 h => ?_
    refine q_need (W := fun H => ∀ z H', Ex H H' → Q z H') (ea_cons (ev_var rfl) ea_nil) (Plain.ex e1 (hp v1 (by simp))) h (fun e w z H' e' => w z H' (e.trans e')) fun H2 e2 c1 h => ?_
    obtain ⟨_, w⟩ := (show True ∧ (∀ z H', Ex H2 H' → Q z H') from h)
    obtain ⟨x, rfl, hx⟩ := luck_of c0
    obtain ⟨m, rfl, hm⟩ := whole_of c1
    exact s_ret (v := .int (Pg.al x m : Nat)) (ev_callP (vs := [.int x, .int m]) (by walk_at "ea") fun H3 _ => ⟨x, m, rfl, hx, rfl⟩) fun H3 e3 => w _ H3 e3
theorem ok_turn_of (T : Txt K mg w) : FnOk P w K mg base (L2.CX P w) 5 T.a_turn_of T.fd_turn_of ["luck", "entry", "thing", "number"] (spChk K T.C_IL T.C_IN 4 (fun vs => [(.luck, vs.getD 0 .non), (.whole, vs.getD 1 .non), (.whole, vs.getD 2 .non), (.luck, vs.getD 3 .non)]) True) := by
  have G_need_luck := ok_need_luck (P := P) (w := w) (base := base) T
  have G_need_whole := ok_need_whole (P := P) (w := w) (base := base) T
  have G_unstir := ok_unstir (P := P) (w := w) (base := base) T
  have G_run_number := ok_run_number (P := P) (w := w) (base := base) T
  refine T.F_turn_of.okX sc_turn_of (fun vs H Q E h => h.1) (fun cdv A outer s H vs Q E hr h => ?_)
  obtain ⟨hl, hp, h⟩ := h
  match vs, hl with
  | [v0, v1, v2, v3], _ =>
    refine ⟨_, (pss_cons (ps_expr (pe_call G_need_luck (hr.mono (by decide)) (by rfl) T.g_need_luck T.F_need_luck.kp T.b_need_luck .nil (passes_call (W := fun cls d _ H => E cls d H) (takes_of rfl rfl rfl rfl) (fun _ _ _ _ h => h)) (pa_cons (pv 0) pa_nil)))
  (pss_cons (ps_expr (pe_call G_need_whole (hr.mono (by decide)) (by rfl) T.g_need_whole T.F_need_whole.kp T.b_need_whole .nil (passes_call (W := fun cls d _ H => E cls d H) (takes_of rfl rfl rfl rfl) (fun _ _ _ _ h => h)) (pa_cons (pv 1) pa_nil)))
  (pss_cons (ps_expr (pe_call G_need_whole (hr.mono (by decide)) (by rfl) T.g_need_whole T.F_need_whole.kp T.b_need_whole .nil (passes_call (W := fun cls d _ H => E cls d H) (takes_of rfl rfl rfl rfl) (fun _ _ _ _ h => h)) (pa_cons (pv 2) pa_nil)))
  (pss_cons (ps_expr (pe_call G_need_luck (hr.mono (by decide)) (by rfl) T.g_need_luck T.F_need_luck.kp T.b_need_luck .nil (passes_call (W := fun cls d _ H => E cls d H) (takes_of rfl rfl rfl rfl) (fun _ _ _ _ h => h)) (pa_cons (pv 3) pa_nil)))
  (pss_one (ps_ret (pe_op op_mod (pe_op op_sub (pe_call G_unstir (hr.mono (by decide)) (by rfl) T.g_unstir T.F_unstir.kp T.b_unstir .nil pass0 (pa_cons (pv 3) pa_nil)) (pe_call G_run_number (hr.mono (by decide)) (by rfl) T.g_run_number T.F_run_number.kp T.b_run_number .nil pass0 (pa_cons (pv 0) (pa_cons (pv 1) (pa_cons (pv 2) pa_nil))))) (pe_glob (v := .int (999999937)) rfl T.g_MODULUS ⟨_, rfl⟩)))))))), ?_⟩
    refine q_need (W := fun H => ∀ z H', Ex H H' → Q z H') (ea_cons (ev_var rfl) ea_nil) (hp v0 (by simp)) h (fun e w z H' e' => w z H' (e.trans e')) fun H1 e1 c0 h => ?_
    refine q_need (W := fun H => ∀ z H', Ex H H' → Q z H') (ea_cons (ev_var rfl) ea_nil) (Plain.ex e1 (hp v1 (by simp))) h (fun e w z H' e' => w z H' (e.trans e')) fun H2 e2 c1 h => ?_
    refine q_need (W := fun H => ∀ z H', Ex H H' → Q z H') (ea_cons (ev_var rfl) ea_nil) (Plain.ex (e1.trans e2) (hp v2 (by simp))) h (fun e w z H' e' => w z H' (e.trans e')) fun H3 e3 c2 h => ?_
    refine q_need (W := fun H => ∀ z H', Ex H H' → Q z H') (ea_cons (ev_var rfl) ea_nil) (Plain.ex ((e1.trans e2).trans e3) (hp v3 (by simp))) h (fun e w z H' e' => w z H' (e.trans e')) fun H4 e4 c3 h => ?_
    obtain ⟨_, w⟩ := (show True ∧ (∀ z H', Ex H4 H' → Q z H') from h)
    obtain ⟨l, rfl, hl⟩ := luck_of c0
    obtain ⟨e, rfl, he⟩ := whole_of c1
    obtain ⟨t, rfl, ht⟩ := whole_of c2
    obtain ⟨v, rfl, hv⟩ := luck_of c3
    refine s_ret (v := .int (turnN l e t v : Nat)) ?_ fun H5 e5 => w _ H5 e5
    refine ev_is (ev_op (ev_op (x := .int (Pm.unstirN v : Nat)) (y := .int (runN l e t : Nat)) (ev_callP (by walk_at "ea") fun H1 _ => ⟨v, rfl, hv, rfl⟩) (ev_callP (by walk_at "ea") fun H1 _ => ⟨l, e, t, rfl, hl, rfl⟩) rv_I0) ev_c (rv_I (by decide))) ?_
    rw [turn_cast]
theorem ok_drawn (T : Txt K mg w) : FnOk P w K mg base (L2.CX P w) 5 T.a_drawn T.fd_drawn ["luck", "entry", "thing", "turn", "sides"] (spChk K T.C_IL T.C_IN 5 (fun vs => [(.luck, vs.getD 0 .non), (.whole, vs.getD 1 .non), (.whole, vs.getD 2 .non), (.whole, vs.getD 3 .non), (.sides, vs.getD 4 .non)]) True) := by
  have G_need_luck := ok_need_luck (P := P) (w := w) (base := base) T
  have G_need_whole := ok_need_whole (P := P) (w := w) (base := base) T
  have G_need_within := ok_need_within (P := P) (w := w) (base := base) T
  have G_draw := ok_draw (P := P) (w := w) (base := base) T
  refine T.F_drawn.okX sc_drawn (fun vs H Q E h => h.1) (fun cdv A outer s H vs Q E hr h => ?_)
  obtain ⟨hl, hp, h⟩ := h
  match vs, hl with
  | [v0, v1, v2, v3, v4], _ =>
    refine ⟨_, (pss_cons (ps_expr (pe_call G_need_luck (hr.mono (by decide)) (by rfl) T.g_need_luck T.F_need_luck.kp T.b_need_luck .nil (passes_call (W := fun cls d _ H => E cls d H) (takes_of rfl rfl rfl rfl) (fun _ _ _ _ h => h)) (pa_cons (pv 0) pa_nil)))
  (pss_cons (ps_expr (pe_call G_need_whole (hr.mono (by decide)) (by rfl) T.g_need_whole T.F_need_whole.kp T.b_need_whole .nil (passes_call (W := fun cls d _ H => E cls d H) (takes_of rfl rfl rfl rfl) (fun _ _ _ _ h => h)) (pa_cons (pv 1) pa_nil)))
  (pss_cons (ps_expr (pe_call G_need_whole (hr.mono (by decide)) (by rfl) T.g_need_whole T.F_need_whole.kp T.b_need_whole .nil (passes_call (W := fun cls d _ H => E cls d H) (takes_of rfl rfl rfl rfl) (fun _ _ _ _ h => h)) (pa_cons (pv 2) pa_nil)))
  (pss_cons (ps_expr (pe_call G_need_whole (hr.mono (by decide)) (by rfl) T.g_need_whole T.F_need_whole.kp T.b_need_whole .nil (passes_call (W := fun cls d _ H => E cls d H) (takes_of rfl rfl rfl rfl) (fun _ _ _ _ h => h)) (pa_cons (pv 3) pa_nil)))
  (pss_cons (ps_expr (pe_call G_need_within (hr.mono (by decide)) (by rfl) T.g_need_within T.F_need_within.kp T.b_need_within .nil (passes_call (W := fun cls d _ H => E cls d H) (takes_of rfl rfl rfl rfl) (fun _ _ _ _ h => h)) (pa_cons (pv 4) (pa_cons pe_int (pa_cons (pe_glob (v := .int (1000)) rfl T.g_MAX_SIDES ⟨_, rfl⟩) pa_nil)))))
  (pss_one (ps_ret (pe_call G_draw (hr.mono (by decide)) (by rfl) T.g_draw T.F_draw.kp T.b_draw .nil pass0 (pa_cons (pv 0) (pa_cons (pv 1) (pa_cons (pv 2) (pa_cons (pv 3) (pa_cons (pv 4) pa_nil))))))))))))), ?_⟩
    refine q_need (W := fun H => ∀ z H', Ex H H' → Q z H') (ea_cons (ev_var rfl) ea_nil) (hp v0 (by simp)) h (fun e w z H' e' => w z H' (e.trans e')) fun H1 e1 c0 h => ?_
    refine q_need (W := fun H => ∀ z H', Ex H H' → Q z H') (ea_cons (ev_var rfl) ea_nil) (Plain.ex e1 (hp v1 (by simp))) h (fun e w z H' e' => w z H' (e.trans e')) fun H2 e2 c1 h => ?_
    refine q_need (W := fun H => ∀ z H', Ex H H' → Q z H') (ea_cons (ev_var rfl) ea_nil) (Plain.ex (e1.trans e2) (hp v2 (by simp))) h (fun e w z H' e' => w z H' (e.trans e')) fun H3 e3 c2 h => ?_
    refine q_need (W := fun H => ∀ z H', Ex H H' → Q z H') (ea_cons (ev_var rfl) ea_nil) (Plain.ex ((e1.trans e2).trans e3) (hp v3 (by simp))) h (fun e w z H' e' => w z H' (e.trans e')) fun H4 e4 c3 h => ?_
    refine q_need (W := fun H => ∀ z H', Ex H H' → Q z H') (ea_cons (ev_var rfl) (ea_cons ev_c (ea_cons ev_c ea_nil))) (Plain.ex (((e1.trans e2).trans e3).trans e4) (hp v4 (by simp))) h (fun e w z H' e' => w z H' (e.trans e')) fun H5 e5 c4 h => ?_
    obtain ⟨_, w⟩ := (show True ∧ (∀ z H', Ex H5 H' → Q z H') from h)
    obtain ⟨l, rfl, hl⟩ := luck_of c0
    obtain ⟨e, rfl, he⟩ := whole_of c1
    obtain ⟨t, rfl, ht⟩ := whole_of c2
    obtain ⟨n, rfl, hn⟩ := whole_of c3
    obtain ⟨s', rfl, hs1, hs2⟩ := sides_of c4
    exact s_ret (v := .int (drawN l e t n s' : Nat)) (ev_callP (by walk_at "ea") fun H1 _ => ⟨l, e, t, n, s', rfl, hl, rfl⟩) fun H6 e6 => w _ H6 e6
theorem ok_luck_ahead (T : Txt K mg w) : FnOk P w K mg base (L2.CX P w) 6 T.a_luck_ahead T.fd_luck_ahead ["luck"] (spChk K T.C_IL T.C_IN 1 (fun vs => [(.luck, vs.getD 0 .non)]) False) := by
  have G_luck_before := ok_luck_before (P := P) (w := w) (base := base) T
  refine T.F_luck_ahead.okX sc_luck_ahead (fun vs H Q E h => h.1) (fun cdv A outer s H vs Q E hr h => ?_)
  obtain ⟨hl, hp, h⟩ := h
  match vs, hl with
  | [v], _ =>
    refine ⟨_, (pss_one (ps_ret (pe_call G_luck_before (hr.mono (by decide)) (by rfl) T.g_luck_before T.F_luck_before.kp T.b_luck_before .nil (passes_call (W := fun cls d _ H => E cls d H) (takes_of rfl rfl rfl rfl) (fun _ _ _ _ h => h)) (pa_cons (pv 0) (pa_cons pe_int pa_nil))))), ?_⟩
    have ha : EvA (tCons (tVar 0) (tCons (tC (.int 1)) tNil)) (start ["luck"] [v]) H [v, .int 1] := ea_cons (ev_var rfl) (ea_cons ev_c ea_nil)
    show (tCons (tVar 0) (tCons (tC (.int 1)) tNil)) (start ["luck"] [v]) H (fun vs H1 => spChk K T.C_IL T.C_IN 2 (fun vs => [(Ck.luck, vs.getD 0 V.non), (Ck.whole, vs.getD 1 V.non)]) False (vs ++ []) H1 (fun x H' => Q x H') E)
    refine ha H (Ex.refl H) _ fun H1 e1 => ⟨rfl, fun u hu => ?_, ?_⟩
    · rcases List.mem_cons.mp hu with rfl | hu
      · exact (hp _ (by simp)).ex e1
      · rw [List.mem_singleton.mp hu]; exact pl_int
    · cases hk : Ck.luck.ok v with
      | false =>
        have h : match [(Ck.luck, v)].find? (fun p => !p.1.ok p.2) with | some p => Fails T.C_IL T.C_IN p.1 p.2 E H | none => False ∧ _ := h
        rw [find_this hk] at h
        show match [(Ck.luck, v), (Ck.whole, .int 1)].find? (fun p => !p.1.ok p.2) with | some p => Fails T.C_IL T.C_IN p.1 p.2 E H1 | none => _
        rw [find_this hk]
        exact h.ex e1
      | true =>
        have h : match [(Ck.luck, v)].find? (fun p => !p.1.ok p.2) with | some p => Fails T.C_IL T.C_IN p.1 p.2 E H | none => False ∧ _ := h
        rw [find_next hk] at h
        exact h.1.elim
end
end Kz
set_option Elab.async false
set_option linter.all false
set_option maxRecDepth 100000
set_option maxHeartbeats 4000000
set_option exponentiation.threshold 500
namespace Kz
open PySem PySem.Spec PyProof.Rows L2 Evl Vr
local macro_rules | `(tactic| walk_at "sc") => `(tactic| first | (with_reducible assumption) | (with_reducible exact sc_mul (by omega)) | (with_reducible exact sc_mulr (by omega)) | (with_reducible exact sc_div (by omega) (by decide)) | (show (0 : Int) < _; omega) | (show _ ≠ (0 : Int); omega) | (with_reducible rfl) | decide)
local macro_rules | `(tactic| walk_at "sq") => `(tactic| first | assumption | exact sq_of (by assumption) | exact st_of (by assumption))
local macro_rules | `(tactic| walk_at "pl") => `(tactic| first | assumption | exact pl_int | exact pl_bl | exact pl_str | exact pl_non | exact pl_lst (by assumption) | exact pl_tup (by assumption) | exact pl_dK (by assumption))
local macro_rules | `(tactic| walk_at "rv") => `(tactic| first
  | with_reducible exact rv_I0
  | with_reducible exact ru_neg
  | ((with_reducible apply rv_I); walk_at "sc")
  | ((with_reducible apply rv_ixL); walk_at "sq"; first | rfl | assumption)
  | ((with_reducible apply rv_ixT); walk_at "sq"; first | rfl | assumption)
  | ((with_reducible apply rv_eq); rfl) | ((with_reducible apply rv_ne); rfl))
local macro_rules | `(tactic| walk_at "rc") => `(tactic| first
  | with_reducible exact rc_I1 | with_reducible exact rc_B1 | with_reducible exact rc_I2 | ((with_reducible apply rc_repr); walk_at "sc") | ((with_reducible apply rc_lenL); walk_at "sq")
  | ((with_reducible apply rc_isiInt); walk_at "pl") | ((with_reducible apply rc_isiBool); walk_at "pl"))
local macro_rules | `(tactic| walk_at "ea") => `(tactic| first
  | with_reducible exact ea_nil | ((with_reducible apply ea_cons); walk_at "ev"; walk_at "ea"))
local macro_rules | `(tactic| walk_at "pow") => `(tactic| first
  | with_reducible exact ev_pow (a := 10) (b := 9) (c := 1000000000) (by decide +kernel) (by decide +kernel)
  | with_reducible exact ev_pow (a := 10) (b := 10) (c := 10000000000) (by decide +kernel) (by decide +kernel)
  | with_reducible exact ev_pow (a := 10) (b := 12) (c := 1000000000000) (by decide +kernel) (by decide +kernel)
  | with_reducible exact ev_pow (a := 10) (b := 17) (c := 100000000000000000) (by decide +kernel) (by decide +kernel)
  | with_reducible exact ev_pow (a := 10) (b := 20) (c := 100000000000000000000) (by decide +kernel) (by decide +kernel)
  | with_reducible exact ev_pow (a := 10) (b := 29) (c := 100000000000000000000000000000) (by decide +kernel) (by decide +kernel)
  | with_reducible exact ev_pow (a := 10) (b := 30) (c := 1000000000000000000000000000000) (by decide +kernel) (by decide +kernel)
  | with_reducible exact ev_pow (a := 10) (b := 40) (c := 10000000000000000000000000000000000000000) (by decide +kernel) (by decide +kernel)
  | with_reducible exact ev_pow (a := 10) (b := 57) (c := 1000000000000000000000000000000000000000000000000000000000) (by decide +kernel) (by decide +kernel)
  | with_reducible exact ev_pow (a := 10) (b := 58) (c := 10000000000000000000000000000000000000000000000000000000000) (by decide +kernel) (by decide +kernel)
  | with_reducible exact ev_pow (a := 10) (b := 59) (c := 100000000000000000000000000000000000000000000000000000000000) (by decide +kernel) (by decide +kernel)
  | with_reducible exact ev_pow (a := 10) (b := 60) (c := 1000000000000000000000000000000000000000000000000000000000000) (by decide +kernel) (by decide +kernel))
local macro_rules | `(tactic| walk_at "call") => `(tactic| (intro H9 e9; first | exact ⟨_, rfl, rfl⟩ | exact ⟨_, _, rfl, rfl⟩ | exact ⟨_, _, _, rfl, rfl⟩ | exact ⟨_, rfl, by walk_at "pl", rfl⟩ | (refine ⟨_, _, _, rfl, ?_, rfl⟩; first | exact Plain.ex e9 (by assumption) | walk_at "pl") | (refine ⟨_, rfl, ?_, rfl⟩; first | exact Plain.ex e9 (by assumption) | walk_at "pl")))
local macro_rules | `(tactic| walk_at "ev") => `(tactic| first
  | with_reducible exact ev_c
  | exact ev_var rfl
  | walk_at "pow"
  | ((with_reducible apply ev_op); walk_at "ev"; walk_at "ev"; walk_at "rv")
  | ((with_reducible apply ev_un); walk_at "ev"; walk_at "rv")
  | ((with_reducible apply ev_cb); walk_at "ea"; walk_at "rc")
  | ((with_reducible apply ev_callP); walk_at "ea"; walk_at "call")
  | ((with_reducible apply ev_chain); walk_at "ev"; walk_at "ev"; walk_at "rv"; walk_at "ev"; walk_at "rv")
  | ((with_reducible apply ev_andV); walk_at "ev"; intro _; walk_at "ev")
  | ((with_reducible apply ev_orV); walk_at "ev"; intro _; walk_at "ev")
  | ((with_reducible apply ev_ite); walk_at "et"; intro _; walk_at "ev"; intro _; walk_at "ev")
  | ((with_reducible apply ev_notV); walk_at "ev"))
local macro_rules | `(tactic| walk_at "et") => `(tactic| first
  | ((with_reducible apply et_test); walk_at "ev")
  | ((with_reducible apply et_B); walk_at "ev")
  | ((with_reducible apply et_and); walk_at "et"; intro _; walk_at "et")
  | ((with_reducible apply et_or); walk_at "et"; intro _; walk_at "et")
  | ((with_reducible apply et_not); walk_at "et"))
open LamX
/-- what a call that is met makes: a tuple that tells how it ended -/
def TTmet (K : PySem.W.Frag) (CL CN : Addr) : (XK → Hp → VK → Prop) → Hp → VK → Prop := fun tl H Q =>
  tl (fun cls d H' => (cls = .ref CL ∧ ∀ t, H' t = none → Q (.ref t) (upd H' t (.tup [.str "refused", .str "luck"]))) ∨
      (cls = .ref CN ∧ ∃ dd v y, d = some dd ∧ H' dd = some (.xd [("given", v)]) ∧ Rp K H' v y ∧ ∀ t, H' t = none → Q (.ref t) (upd H' t (.tup [.str "refused", .str y.shown])))) H
    (fun _ H' => [V.str "fine"].length ≤ sizeLine ∧ ∀ t, H' t = none → Q (.ref t) (upd H' t (.tup [.str "fine"])))
theorem met_gives {X : Cx} (T : Txt X.K X.mg X.w) (gd : X.A.guards = some []) (hu : X.A.units + 100 < cLine) {cdg : Value} {q : Str} :
    GivesTo X ["call", "error"] "_law_met" (defScope s_law_met) T.a_law_met cdg (defBody s_law_met) "call" q (TTmet X.K T.C_IL T.C_IN) := by
  intro f c' s H Q tl act hc h
  have cr : ∀ (a : Addr) (oe : Obj) (pn : List (Addr × Obj)), CallR ((cxOf C8.CX0 X.prog X.w X.K X.mg X.base ["call", "error"] "_law_met" (defScope s_law_met) T.a_law_met cdg X.A X.stack s H C8.E0).nox.suite a ((a, oe) :: pn)) (.builtin "repr") (rReprD X.K) := fun a oe pn => c_reprD (X := (cxOf C8.CX0 X.prog X.w X.K X.mg X.base ["call", "error"] "_law_met" (defScope s_law_met) T.a_law_met cdg X.A X.stack s H C8.E0).nox.suite a ((a, oe) :: pn)) gd (by show X.A.units + 3 + 64 < cLine; omega)
  refine ⟨_, pss_cons (ps_try_cls (X := (cxOf C8.CX0 X.prog X.w X.K X.mg X.base ["call", "error"] "_law_met" (defScope s_law_met) T.a_law_met cdg X.A X.stack s H C8.E0).nox)
    (tb := fun W D σ H => ∃ Ech : XK, (∀ cls d σ' H', Ech cls d H' → W cls d σ' H') ∧ σ[0]? = some (some (.ref f)) ∧ H c' = some (CodeO c' q) ∧ tl Ech H (fun _ H' => D.nx σ H'))
    rfl rfl L2.takes0 (fun W pn xe tk _ => ?b)
    (.plain ⟨rfl, by decide, .inl T.g_InvalidLuck⟩ (fun a oe cls d pn _ _ => pss_one (ps_ret (pe_tup (pa_cons pe_str (pa_cons pe_str pa_nil)))))
      (.named (i := 1) ⟨rfl, by decide, .inl T.g_InvalidNumber⟩ sc_law_met.nd rfl rfl (fun a oe cls d pn hz hf => pss_one (ps_ret (pe_tup (pa_cons pe_str (pa_cons (pe_callB (cr a oe pn) (by rfl) T.z_repr (by decide +kernel) (pa_cons (pe_xf T.x_IN T.f_IN hz hf (pv 1)) pa_nil)) pa_nil))))) .nil)))
    (pss_one (ps_ret (pe_tup (pa_cons pe_str pa_nil)))), ?_⟩
  case b =>
    refine ⟨fun pins s' σ H' D I h' => ?_⟩
    obtain ⟨Ech, hW, h1, h2, h3⟩ := h'
    exact (pss_one (ps_expr (act W pn xe Ech _ _ tk hW))).run pins s' σ H' D I ⟨h1, h2, h3⟩
  · refine ⟨_, fun cls d σ' H' hE => ?_, rfl, hc, h⟩
    rcases hE with ⟨rfl, k⟩ | ⟨rfl, dd, v, y, rfl, hd, hr, k⟩
    · refine ⟨true, T.m_LL, fun _ a ha hl => ?_, fun z => by cases z⟩
      exact ⟨sz_of (by show 2 ≤ 100000; decide), k⟩
    · refine ⟨false, T.m_NL, fun z => (by cases z), fun _ => ⟨true, T.m_NN, fun _ a ha hl => ?_, fun z => by cases z⟩⟩
      have hs : (σ'.set 1 (some (V.ref a)))[1]? = some (some (.ref a)) := List.getElem?_set_self (by rw [hl]; show 1 < 2; decide)
      exact ⟨.ref a, hs, rfl, rfl, dd, _, v, rfl, hd, rfl, v, y, rfl, hr.1, hr.2.1, hr.2.2.1, hr.2.2.2, sz_of (by show 2 ≤ 100000; decide), k⟩
theorem met_gives' {K : PySem.W.Frag} {mg : Str → Option Value} {w : World} (T : Txt K mg w) {A0 : Around} (gd : A0.guards = some []) (hu : A0.units + 100 < cLine) {X : Cx} (hX : X.K = K ∧ X.mg = mg ∧ X.w = w ∧ X.A = A0) {cdg : Value} {q : Str} :
    GivesTo X ["call", "error"] "_law_met" (defScope s_law_met) T.a_law_met cdg (defBody s_law_met) "call" q (TTmet K T.C_IL T.C_IN) := by
  obtain ⟨rfl, rfl, rfl, rfl⟩ := hX
  exact met_gives T gd hu
end Kz
set_option Elab.async false
set_option linter.all false
set_option maxRecDepth 100000
set_option maxHeartbeats 4000000
set_option exponentiation.threshold 500
namespace Kz
open PySem PySem.Spec PyProof.Rows L2 Evl Vr
local macro_rules | `(tactic| walk_at "sc") => `(tactic| first | (with_reducible assumption) | (with_reducible exact sc_mul (by omega)) | (with_reducible exact sc_mulr (by omega)) | (with_reducible exact sc_div (by omega) (by decide)) | (show (0 : Int) < _; omega) | (show _ ≠ (0 : Int); omega) | (with_reducible rfl) | decide)
local macro_rules | `(tactic| walk_at "sq") => `(tactic| first | assumption | exact sq_of (by assumption) | exact st_of (by assumption))
local macro_rules | `(tactic| walk_at "pl") => `(tactic| first | assumption | exact pl_int | exact pl_bl | exact pl_str | exact pl_non | exact pl_lst (by assumption) | exact pl_tup (by assumption) | exact pl_dK (by assumption))
local macro_rules | `(tactic| walk_at "rv") => `(tactic| first
  | with_reducible exact rv_I0
  | with_reducible exact ru_neg
  | ((with_reducible apply rv_I); walk_at "sc")
  | ((with_reducible apply rv_ixL); walk_at "sq"; first | rfl | assumption)
  | ((with_reducible apply rv_ixT); walk_at "sq"; first | rfl | assumption)
  | ((with_reducible apply rv_eq); rfl) | ((with_reducible apply rv_ne); rfl))
local macro_rules | `(tactic| walk_at "rc") => `(tactic| first
  | with_reducible exact rc_I1 | with_reducible exact rc_B1 | with_reducible exact rc_I2 | ((with_reducible apply rc_repr); walk_at "sc") | ((with_reducible apply rc_lenL); walk_at "sq")
  | ((with_reducible apply rc_isiInt); walk_at "pl") | ((with_reducible apply rc_isiBool); walk_at "pl"))
local macro_rules | `(tactic| walk_at "ea") => `(tactic| first
  | with_reducible exact ea_nil | ((with_reducible apply ea_cons); walk_at "ev"; walk_at "ea"))
local macro_rules | `(tactic| walk_at "pow") => `(tactic| first
  | with_reducible exact ev_pow (a := 10) (b := 9) (c := 1000000000) (by decide +kernel) (by decide +kernel)
  | with_reducible exact ev_pow (a := 10) (b := 10) (c := 10000000000) (by decide +kernel) (by decide +kernel)
  | with_reducible exact ev_pow (a := 10) (b := 12) (c := 1000000000000) (by decide +kernel) (by decide +kernel)
  | with_reducible exact ev_pow (a := 10) (b := 17) (c := 100000000000000000) (by decide +kernel) (by decide +kernel)
  | with_reducible exact ev_pow (a := 10) (b := 20) (c := 100000000000000000000) (by decide +kernel) (by decide +kernel)
  | with_reducible exact ev_pow (a := 10) (b := 29) (c := 100000000000000000000000000000) (by decide +kernel) (by decide +kernel)
  | with_reducible exact ev_pow (a := 10) (b := 30) (c := 1000000000000000000000000000000) (by decide +kernel) (by decide +kernel)
  | with_reducible exact ev_pow (a := 10) (b := 40) (c := 10000000000000000000000000000000000000000) (by decide +kernel) (by decide +kernel)
  | with_reducible exact ev_pow (a := 10) (b := 57) (c := 1000000000000000000000000000000000000000000000000000000000) (by decide +kernel) (by decide +kernel)
  | with_reducible exact ev_pow (a := 10) (b := 58) (c := 10000000000000000000000000000000000000000000000000000000000) (by decide +kernel) (by decide +kernel)
  | with_reducible exact ev_pow (a := 10) (b := 59) (c := 100000000000000000000000000000000000000000000000000000000000) (by decide +kernel) (by decide +kernel)
  | with_reducible exact ev_pow (a := 10) (b := 60) (c := 1000000000000000000000000000000000000000000000000000000000000) (by decide +kernel) (by decide +kernel))
local macro_rules | `(tactic| walk_at "call") => `(tactic| (intro H9 e9; first | exact ⟨_, rfl, rfl⟩ | exact ⟨_, _, rfl, rfl⟩ | exact ⟨_, _, _, rfl, rfl⟩ | exact ⟨_, rfl, by walk_at "pl", rfl⟩ | (refine ⟨_, _, _, rfl, ?_, rfl⟩; first | exact Plain.ex e9 (by assumption) | walk_at "pl") | (refine ⟨_, rfl, ?_, rfl⟩; first | exact Plain.ex e9 (by assumption) | walk_at "pl")))
local macro_rules | `(tactic| walk_at "ev") => `(tactic| first
  | with_reducible exact ev_c
  | exact ev_var rfl
  | walk_at "pow"
  | ((with_reducible apply ev_op); walk_at "ev"; walk_at "ev"; walk_at "rv")
  | ((with_reducible apply ev_un); walk_at "ev"; walk_at "rv")
  | ((with_reducible apply ev_cb); walk_at "ea"; walk_at "rc")
  | ((with_reducible apply ev_callP); walk_at "ea"; walk_at "call")
  | ((with_reducible apply ev_chain); walk_at "ev"; walk_at "ev"; walk_at "rv"; walk_at "ev"; walk_at "rv")
  | ((with_reducible apply ev_andV); walk_at "ev"; intro _; walk_at "ev")
  | ((with_reducible apply ev_orV); walk_at "ev"; intro _; walk_at "ev")
  | ((with_reducible apply ev_ite); walk_at "et"; intro _; walk_at "ev"; intro _; walk_at "ev")
  | ((with_reducible apply ev_notV); walk_at "ev"))
local macro_rules | `(tactic| walk_at "et") => `(tactic| first
  | ((with_reducible apply et_test); walk_at "ev")
  | ((with_reducible apply et_B); walk_at "ev")
  | ((with_reducible apply et_and); walk_at "et"; intro _; walk_at "et")
  | ((with_reducible apply et_or); walk_at "et"; intro _; walk_at "et")
  | ((with_reducible apply et_not); walk_at "et"))
open LamX
/-- how a call that fails is told -/
def outS (k : Ck) (y : PyData) : Str := match k with
  | .luck => "luck"
  | _ => y.shown
section
variable {σ : L2.St} {H : Hp} {TL : List (Addr × Str)} {K : PySem.W.Frag} {CL CN : Addr} {k : Ck} {v : V} {y : PyData} {Q : VK}
theorem em_of {t : XK → TE} (hT : Tabs TL H) (h : ∀ (E : XK) H1 (Q' : VK), ExtN H H1 → (∀ H2, Ex H1 H2 → Fails CL CN k v E H2) → t E σ H1 Q') (hy : k = .luck ∨ Rp K H v y) (q : ∀ t H', ExtN H H' → Tabs TL H' → SqT K H' t [.str "refused", .str (outS k y)] → Q (.ref t) H') : tLam TL (TTmet K CL CN) t σ H Q := by
  refine ⟨hT, fun H1 e1 t1 => ?_⟩
  refine h _ H1 _ e1 fun H2 e2 => ?_
  have fin : ∀ H3, Ex H2 H3 → ∀ z t, H3 t = none → Tabs TL (upd H3 t (.tup [.str "refused", .str z])) ∧ ExtN H (upd H3 t (.tup [.str "refused", .str z])) ∧ SqT K (upd H3 t (.tup [.str "refused", .str z])) t [.str "refused", .str z] := fun H3 e3 z t ht => by
    have e5 : Ex H1 (upd H3 t (.tup [.str "refused", .str z])) := (e2.trans e3).trans (Ex.new ht)
    exact ⟨t1.ext e5, e1.trans (xn_ex e5), st_of upd_same⟩
  cases k with
  | luck => exact fun H3 e3 => .inl ⟨rfl, fun t ht => by obtain ⟨a, b, c⟩ := fin H3 e3 "luck" t ht; exact q t _ b a c⟩
  | whole =>
    have hr := hy.resolve_left (fun z => by cases z)
    exact fun d H3 e3 hd => .inr ⟨rfl, d, v, y, rfl, hd, (hr.xn e1).xn (xn_ex (e2.trans e3)), fun t ht => by obtain ⟨a, b, c⟩ := fin H3 e3 y.shown t ht; exact q t _ b a c⟩
  | sides =>
    have hr := hy.resolve_left (fun z => by cases z)
    exact fun d H3 e3 hd => .inr ⟨rfl, d, v, y, rfl, hd, (hr.xn e1).xn (xn_ex (e2.trans e3)), fun t ht => by obtain ⟨a, b, c⟩ := fin H3 e3 y.shown t ht; exact q t _ b a c⟩
/-- a call that fails at its first check that fails -/
theorem chk_of {n : Nat} {f : List V → List (Ck × V)} {fine : Prop} {vs : List V} {E : XK} {H2 : Hp} (hn : vs.length = n) (hp : ∀ u ∈ vs, Plain K H u) (hf : (f vs).find? (fun p => !p.1.ok p.2) = some (k, v)) (e : ExtN H H2) (hF : Fails CL CN k v E H2) : spChk K CL CN n f fine vs H2 Q E := by
  refine ⟨hn, fun u hu => L2.Plain.xn e (hp u hu), ?_⟩
  rw [hf]
  exact hF
theorem em_chk {n : Nat} {f : List V → List (Ck × V)} {fine : Prop} {vs : List V} {ts : TA} (hT : Tabs TL H) (ha : ∀ H1, ExtN H H1 → EvA ts σ H1 vs) (hn : vs.length = n) (hp : ∀ u ∈ vs, Plain K H u) (hf : (f vs).find? (fun p => !p.1.ok p.2) = some (k, v)) (hy : k = .luck ∨ Rp K H v y)
    (q : ∀ t H', ExtN H H' → Tabs TL H' → SqT K H' t [.str "refused", .str (outS k y)] → Q (.ref t) H') : tLam TL (TTmet K CL CN) (fun E => tCall (spChk K CL CN n f fine) [] E ts) σ H Q :=
  em_of hT (fun E H1 Q' e1 hF => ha H1 e1 H1 (Ex.refl H1) _ fun H2 e2 => by
    show spChk K CL CN n f fine (vs ++ []) H2 Q' E
    rw [List.append_nil]
    exact chk_of hn hp hf (e1.trans (xn_ex e2)) (hF H2 e2)) hy q
theorem em_chkX {n i : Nat} {f : List V → List (Ck × V)} {fine : Prop} {vs : List V} {ts : TA} {S : Addr → Sp → Prop} {g : Addr} (hg : σ[i]? = some (some (.ref g))) (hS : S g (spChk K CL CN n f fine)) (hT : Tabs TL H) (ha : ∀ H1, ExtN H H1 → EvA ts σ H1 vs) (hn : vs.length = n) (hp : ∀ u ∈ vs, Plain K H u)
    (hf : (f vs).find? (fun p => !p.1.ok p.2) = some (k, v)) (hy : k = .luck ∨ Rp K H v y) (q : ∀ t H', ExtN H H' → Tabs TL H' → SqT K H' t [.str "refused", .str (outS k y)] → Q (.ref t) H') : tLam TL (TTmet K CL CN) (fun E => tCallX i S E ts) σ H Q :=
  em_of hT (fun E H1 Q' e1 hF => ⟨g, _, hg, hS, ha H1 e1 H1 (Ex.refl H1) _ fun H2 e2 => chk_of hn hp hf (e1.trans (xn_ex e2)) (hF H2 e2)⟩) hy q
end
end Kz
set_option Elab.async false
set_option linter.all false
set_option maxRecDepth 100000
set_option maxHeartbeats 4000000
set_option exponentiation.threshold 500
namespace Kz
open PySem PySem.Spec PyProof.Rows L2 Evl Vr
local macro_rules | `(tactic| walk_at "sc") => `(tactic| first | (with_reducible assumption) | (with_reducible exact sc_mul (by omega)) | (with_reducible exact sc_mulr (by omega)) | (with_reducible exact sc_div (by omega) (by decide)) | (show (0 : Int) < _; omega) | (show _ ≠ (0 : Int); omega) | (with_reducible rfl) | decide)
local macro_rules | `(tactic| walk_at "sq") => `(tactic| first | assumption | exact sq_of (by assumption) | exact st_of (by assumption))
local macro_rules | `(tactic| walk_at "pl") => `(tactic| first | assumption | exact pl_int | exact pl_bl | exact pl_str | exact pl_non | exact pl_lst (by assumption) | exact pl_tup (by assumption) | exact pl_dK (by assumption))
local macro_rules | `(tactic| walk_at "rv") => `(tactic| first
  | with_reducible exact rv_I0
  | with_reducible exact ru_neg
  | ((with_reducible apply rv_I); walk_at "sc")
  | ((with_reducible apply rv_ixL); walk_at "sq"; first | rfl | assumption)
  | ((with_reducible apply rv_ixT); walk_at "sq"; first | rfl | assumption)
  | ((with_reducible apply rv_eq); rfl) | ((with_reducible apply rv_ne); rfl))
local macro_rules | `(tactic| walk_at "rc") => `(tactic| first
  | with_reducible exact rc_I1 | with_reducible exact rc_B1 | with_reducible exact rc_I2 | ((with_reducible apply rc_repr); walk_at "sc") | ((with_reducible apply rc_lenL); walk_at "sq")
  | ((with_reducible apply rc_isiInt); walk_at "pl") | ((with_reducible apply rc_isiBool); walk_at "pl"))
local macro_rules | `(tactic| walk_at "ea") => `(tactic| first
  | with_reducible exact ea_nil | ((with_reducible apply ea_cons); walk_at "ev"; walk_at "ea"))
local macro_rules | `(tactic| walk_at "pow") => `(tactic| first
  | with_reducible exact ev_pow (a := 10) (b := 9) (c := 1000000000) (by decide +kernel) (by decide +kernel)
  | with_reducible exact ev_pow (a := 10) (b := 10) (c := 10000000000) (by decide +kernel) (by decide +kernel)
  | with_reducible exact ev_pow (a := 10) (b := 12) (c := 1000000000000) (by decide +kernel) (by decide +kernel)
  | with_reducible exact ev_pow (a := 10) (b := 17) (c := 100000000000000000) (by decide +kernel) (by decide +kernel)
  | with_reducible exact ev_pow (a := 10) (b := 20) (c := 100000000000000000000) (by decide +kernel) (by decide +kernel)
  | with_reducible exact ev_pow (a := 10) (b := 29) (c := 100000000000000000000000000000) (by decide +kernel) (by decide +kernel)
  | with_reducible exact ev_pow (a := 10) (b := 30) (c := 1000000000000000000000000000000) (by decide +kernel) (by decide +kernel)
  | with_reducible exact ev_pow (a := 10) (b := 40) (c := 10000000000000000000000000000000000000000) (by decide +kernel) (by decide +kernel)
  | with_reducible exact ev_pow (a := 10) (b := 57) (c := 1000000000000000000000000000000000000000000000000000000000) (by decide +kernel) (by decide +kernel)
  | with_reducible exact ev_pow (a := 10) (b := 58) (c := 10000000000000000000000000000000000000000000000000000000000) (by decide +kernel) (by decide +kernel)
  | with_reducible exact ev_pow (a := 10) (b := 59) (c := 100000000000000000000000000000000000000000000000000000000000) (by decide +kernel) (by decide +kernel)
  | with_reducible exact ev_pow (a := 10) (b := 60) (c := 1000000000000000000000000000000000000000000000000000000000000) (by decide +kernel) (by decide +kernel))
local macro_rules | `(tactic| walk_at "call") => `(tactic| (intro H9 e9; first | exact ⟨_, rfl, rfl⟩ | exact ⟨_, _, rfl, rfl⟩ | exact ⟨_, _, _, rfl, rfl⟩ | exact ⟨_, rfl, by walk_at "pl", rfl⟩ | (refine ⟨_, _, _, rfl, ?_, rfl⟩; first | exact Plain.ex e9 (by assumption) | walk_at "pl") | (refine ⟨_, rfl, ?_, rfl⟩; first | exact Plain.ex e9 (by assumption) | walk_at "pl")))
local macro_rules | `(tactic| walk_at "ev") => `(tactic| first
  | with_reducible exact ev_c
  | exact ev_var rfl
  | walk_at "pow"
  | ((with_reducible apply ev_op); walk_at "ev"; walk_at "ev"; walk_at "rv")
  | ((with_reducible apply ev_un); walk_at "ev"; walk_at "rv")
  | ((with_reducible apply ev_cb); walk_at "ea"; walk_at "rc")
  | ((with_reducible apply ev_callP); walk_at "ea"; walk_at "call")
  | ((with_reducible apply ev_chain); walk_at "ev"; walk_at "ev"; walk_at "rv"; walk_at "ev"; walk_at "rv")
  | ((with_reducible apply ev_andV); walk_at "ev"; intro _; walk_at "ev")
  | ((with_reducible apply ev_orV); walk_at "ev"; intro _; walk_at "ev")
  | ((with_reducible apply ev_ite); walk_at "et"; intro _; walk_at "ev"; intro _; walk_at "ev")
  | ((with_reducible apply ev_notV); walk_at "ev"))
local macro_rules | `(tactic| walk_at "et") => `(tactic| first
  | ((with_reducible apply et_test); walk_at "ev")
  | ((with_reducible apply et_B); walk_at "ev")
  | ((with_reducible apply et_and); walk_at "et"; intro _; walk_at "et")
  | ((with_reducible apply et_or); walk_at "et"; intro _; walk_at "et")
  | ((with_reducible apply et_not); walk_at "et"))
open LamX Wo
def lkF : List V := [.non, .int (-1), .int 999999937, .bl true, .str "7", .int 1000000000000000000000000000000000000000000000000000000000000, .int (-100000000000000000000000000000000000000000000000000000000000000000000000000000000), .int 10000000000000000000000000000000000000000]
def idxF : List V := [.non, .int (-1), .bl false, .str "7", .int 1000000000000000000000000000000000000000000000000000000000000, .int (-100000000000000000000000000000000000000000000000000000000000000000000000000000000)]
def sdF : List V := [.non, .int 0, .int 1001, .bl true, .str "6", .int (-6), .int 1000000000000000000000000000000000000000000000000000000000000]
def NoL (v : V) (H : Hp) : Prop := v ∈ lkF ∨ ∃ t, v = .ref t ∧ (H t = some (.tup [.int 7]) ∨ H t = some (.dK []))
def NoI (v : V) (H : Hp) : Prop := v ∈ idxF ∨ ∃ t, v = .ref t ∧ (H t = some (.tup [.int 7]) ∨ H t = some (.lst [.int 1]))
section
variable {σ : L2.St} {H H' : Hp} {K : PySem.W.Frag} {v : V} {p : Addr} {tr : TA}
theorem ap_consD {P : List V → Hp → Prop} (hr : EvAP tr σ H P) : EvAP (tCons tDNewK tr) σ H (fun vs H' => ∃ t ws, vs = .ref t :: ws ∧ H' t = some (.dK []) ∧ P ws H') := fun H1 e Q q => fun t ht =>
  hr _ (e.trans (Ex.new ht)) _ fun ws H3 e3 pw => q (.ref t :: ws) H3 ((Ex.new ht).trans e3) ⟨t, ws, rfl, e3 _ _ upd_same, pw⟩
theorem go1L {ts : TA} {P : List V → Hp → Prop} {Q : List V → Hp → Prop} (h : EvAP ts σ H P) (hl : ∀ vs H1, P vs H1 → vs.length ≤ 100000) (k : ∀ vs H1 l, Ex H H1 → P vs H1 → H1 l = none → Q [.ref l] (upd H1 l (.lst vs))) : (tCons (tLst ts) tNil) σ H Q :=
  h H (Ex.refl H) _ fun vs H1 e1 hp => ⟨sz_of (hl vs H1 hp), fun l hl' => k vs H1 l e1 hp hl'⟩
theorem NoL.xn (e : ExtN H H') (h : NoL v H) : NoL v H' := by
  rcases h with h | ⟨t, rfl, h | h⟩
  · exact .inl h
  · exact .inr ⟨t, rfl, .inl (e _ _ h fun _ z => by cases z)⟩
  · exact .inr ⟨t, rfl, .inr (e _ _ h fun _ z => by cases z)⟩
theorem NoI.xn (e : ExtN H H') (h : NoI v H) : NoI v H' := by
  rcases h with h | ⟨t, rfl, h | h⟩
  · exact .inl h
  · exact .inr ⟨t, rfl, .inl (e _ _ h fun _ z => by cases z)⟩
  · exact .inr ⟨t, rfl, .inr (e _ _ h fun _ z => by cases z)⟩
theorem NoL.dc (e : Exd p H H') (d : Dice p H) (h : NoL v H) : NoL v H' := by
  obtain ⟨a, b, c, hd⟩ := d
  rcases h with h | ⟨t, rfl, h | h⟩
  · exact .inl h
  · exact .inr ⟨t, rfl, .inl (e _ _ (fun z => by subst z; rw [hd] at h; cases h) h)⟩
  · exact .inr ⟨t, rfl, .inr (e _ _ (fun z => by subst z; rw [hd] at h; cases h) h)⟩
theorem NoI.dc (e : Exd p H H') (d : Dice p H) (h : NoI v H) : NoI v H' := by
  obtain ⟨a, b, c, hd⟩ := d
  rcases h with h | ⟨t, rfl, h | h⟩
  · exact .inl h
  · exact .inr ⟨t, rfl, .inl (e _ _ (fun z => by subst z; rw [hd] at h; cases h) h)⟩
  · exact .inr ⟨t, rfl, .inr (e _ _ (fun z => by subst z; rw [hd] at h; cases h) h)⟩
theorem flat_pl {l : List V} (hl : l.all (fun v => match v with | .non | .bl _ | .int _ | .str _ => true | _ => false) = true) (h : v ∈ l) : Plain K H v := by
  have := List.all_eq_true.mp hl v h
  cases v with
  | non => exact pl_non
  | bl _ => exact pl_bl
  | int _ => exact pl_int
  | str _ => exact pl_str
  | _ => cases this
theorem NoL.pl (h : NoL v H) : Plain K H v := by
  rcases h with h | ⟨t, rfl, h | h⟩
  · exact flat_pl (l := lkF) (by decide +kernel) h
  · exact pl_tup h
  · exact pl_dK h
theorem NoI.pl (h : NoI v H) : Plain K H v := by
  rcases h with h | ⟨t, rfl, h | h⟩
  · exact flat_pl (l := idxF) (by decide +kernel) h
  · exact pl_tup h
  · exact pl_lst h
theorem NoL.no (h : NoL v H) : Ck.luck.ok v = false := by
  rcases h with h | ⟨t, rfl, _⟩
  · have : lkF.all (fun v => !Ck.luck.ok v) = true := by decide +kernel
    simpa using List.all_eq_true.mp this v h
  · rfl
theorem NoI.no (h : NoI v H) : Ck.whole.ok v = false := by
  rcases h with h | ⟨t, rfl, _⟩
  · have : idxF.all (fun v => !Ck.whole.ok v) = true := by decide +kernel
    simpa using List.all_eq_true.mp this v h
  · rfl
theorem sd_no (h : v ∈ sdF) : Ck.sides.ok v = false := by
  have : sdF.all (fun v => !Ck.sides.ok v) = true := by decide +kernel
  simpa using List.all_eq_true.mp this v h
def flatD : V → PyData
  | .bl b => .bool b
  | .int i => .int i
  | .str z => .str z
  | _ => .none
def flatOk (v : V) : Bool := (match v with | .non | .bl _ | .int _ | .str _ => true | _ => false) && (flatD v).showable && decide ((flatD v).shown.length ≤ 4000) && PyData.strOk (flatD v).shown
theorem flat_rp {l : List V} (hl : l.all flatOk = true) (h : v ∈ l) : ∃ y, Rp K H v y ∧ PyData.strOk y.shown = true := by
  have := List.all_eq_true.mp hl v h
  unfold flatOk at this
  simp only [Bool.and_eq_true, decide_eq_true_eq] at this
  obtain ⟨⟨⟨h1, h2⟩, h3⟩, h4⟩ := this
  refine ⟨flatD v, ⟨?_, h2, ?_, Nat.le_trans h3 (by decide)⟩, h4⟩
  · cases v with
    | non => exact .non
    | bl b => exact .bl b
    | int i => exact .int i
    | str z => exact .str z
    | _ => cases h1
  · cases v <;> exact Nat.zero_le _
theorem NoI.rp (h : NoI v H) : ∃ y, Rp K H v y ∧ PyData.strOk y.shown = true := by
  rcases h with h | ⟨t, rfl, h | h⟩
  · exact flat_rp (l := idxF) (by decide +kernel) h
  · exact ⟨.tuple [.int 7], ⟨.tup (st_of h) (.cons (.int 7) .nil), by decide +kernel, by decide +kernel, by decide +kernel⟩, by decide +kernel⟩
  · exact ⟨.list [.int 1], ⟨.lst (sq_of h) (.cons (.int 1) .nil), by decide +kernel, by decide +kernel, by decide +kernel⟩, by decide +kernel⟩
theorem sd_rp (h : v ∈ sdF) : ∃ y, Rp K H v y ∧ PyData.strOk y.shown = true := flat_rp (l := sdF) (by decide +kernel) h
end
section
variable {P : Program} {w : World} {K : PySem.W.Frag} {mg : Str → Option Value} {base : Heap}
def spNo (ok : V → Hp → Prop) : Sp := fun vs H Q _ => ∃ p, vs = [.ref p] ∧ Dice p H ∧ ∀ v H', Exd p H H' → Dice p H' → ok v H' → Q v H'
theorem ok_no_luck (T : Txt K mg w) : FnOk P w K mg base CX0 3 T.a_law_no_luck T.fd_law_no_luck ["dice"] (spNo NoL) := by
  have G_law_pick := ok_pick (P := P) (w := w) (base := base) T
  refine T.F_law_no_luck.ok sc_law_no_luck (fun vs H Q E h => ?_) (fun cdv A outer s H vs Q E hr h => ?_)
  · obtain ⟨_, rfl, _⟩ := h; rfl
  · obtain ⟨p, rfl, hd, q⟩ := h
    refine ⟨_, (pss_one (ps_ret (pe_call G_law_pick (hr.mono (by decide)) (by rfl) T.g_law_pick T.F_law_pick.kp T.b_law_pick .nil pass0 (pa_cons (pv 0) (pa_cons (pe_lst (pa_cons pe_non (pa_cons (pe_un un_neg pe_int) (pa_cons pe_int (pa_cons pe_bl (pa_cons pe_str (pa_cons (pe_tup (pa_cons pe_int pa_nil)) (pa_cons (pe_op op_pow pe_int pe_int) (pa_cons (pe_op op_mulW (pe_un un_neg (pe_op op_pow pe_int pe_int)) (pe_op op_pow pe_int pe_int)) (pa_cons pe_dnewK (pa_cons (pe_op op_pow pe_int pe_int) pa_nil))))))))))) pa_nil))))), ?_⟩
    refine ⟨.ref p, rfl, go1L (ap_cons (x := .non) ev_c (ap_cons (x := .int (-1)) (by walk_at "ev") (ap_cons (x := .int 999999937) ev_c (ap_cons (x := .bl true) ev_c (ap_cons (x := .str "7") ev_c (ap_consU (xs := [.int 7]) (eu_tup (ea_cons ev_c ea_nil) (by show 1 ≤ 100000; decide)) (ap_cons (x := .int 1000000000000000000000000000000000000000000000000000000000000) (by walk_at "pow") (ap_cons (x := .int (-100000000000000000000000000000000000000000000000000000000000000000000000000000000)) (ev_is (ev_op (x := .int (-1000000000000000000000000000000000000000000000000000000000000)) (y := .int 100000000000000000000) (ev_un (x := .int 1000000000000000000000000000000000000000000000000000000000000) (by walk_at "pow") ru_neg) (by walk_at "pow") (rv_I (wide_mul (a := 220) (b := 100) (by decide) (by decide) (by decide) (by decide) (by decide)))) (by decide +kernel)) (ap_consD (ap_cons (x := .int 10000000000000000000000000000000000000000) (by walk_at "pow") ap_nil)))))))))) ?z fun vs H1 l e1 hv hl => ?_⟩
    case z => rintro vs H1 ⟨_, rfl, _, rfl, _, rfl, _, rfl, _, rfl, t, _, rfl, ht, _, rfl, _, rfl, d, _, rfl, hdd, _, rfl, rfl⟩; show 10 ≤ 100000; decide
    obtain ⟨_, rfl, _, rfl, _, rfl, _, rfl, _, rfl, t, _, rfl, ht, _, rfl, _, rfl, d, _, rfl, hdd, _, rfl, rfl⟩ := hv
    refine ⟨p, _, ⟨l, _, rfl, (hd.ex e1).ne hl, sq_of upd_same, by show 0 < 10; decide, by show 10 < 1000000; decide, rfl⟩, (hd.ex e1).ex (Ex.new hl), fun v H2 hv e2 d2 => q v H2 ((Exd.of (e1.trans (Ex.new hl))).trans e2) d2 (NoL.dc e2 ((hd.ex e1).ex (Ex.new hl)) ?_)⟩
    simp only [List.mem_cons, List.not_mem_nil, or_false] at hv
    rcases hv with rfl | rfl | rfl | rfl | rfl | rfl | rfl | rfl | rfl | rfl
    all_goals first | exact .inl (by decide +kernel) | exact .inr ⟨t, rfl, .inl (Ex.new hl _ _ ht)⟩ | exact .inr ⟨d, rfl, .inr (Ex.new hl _ _ hdd)⟩
theorem ok_no_index (T : Txt K mg w) : FnOk P w K mg base CX0 3 T.a_law_no_index T.fd_law_no_index ["dice"] (spNo NoI) := by
  have G_law_pick := ok_pick (P := P) (w := w) (base := base) T
  refine T.F_law_no_index.ok sc_law_no_index (fun vs H Q E h => ?_) (fun cdv A outer s H vs Q E hr h => ?_)
  · obtain ⟨_, rfl, _⟩ := h; rfl
  · obtain ⟨p, rfl, hd, q⟩ := h
    refine ⟨_, (pss_one (ps_ret (pe_call G_law_pick (hr.mono (by decide)) (by rfl) T.g_law_pick T.F_law_pick.kp T.b_law_pick .nil pass0 (pa_cons (pv 0) (pa_cons (pe_lst (pa_cons pe_non (pa_cons (pe_un un_neg pe_int) (pa_cons pe_bl (pa_cons pe_str (pa_cons (pe_tup (pa_cons pe_int pa_nil)) (pa_cons (pe_op op_pow pe_int pe_int) (pa_cons (pe_op op_mulW (pe_un un_neg (pe_op op_pow pe_int pe_int)) (pe_op op_pow pe_int pe_int)) (pa_cons (pe_lst (pa_cons pe_int pa_nil)) pa_nil))))))))) pa_nil))))), ?_⟩
    refine ⟨.ref p, rfl, go1L (ap_cons (x := .non) ev_c (ap_cons (x := .int (-1)) (by walk_at "ev") (ap_cons (x := .bl false) ev_c (ap_cons (x := .str "7") ev_c (ap_consU (xs := [.int 7]) (eu_tup (ea_cons ev_c ea_nil) (by show 1 ≤ 100000; decide)) (ap_cons (x := .int 1000000000000000000000000000000000000000000000000000000000000) (by walk_at "pow") (ap_cons (x := .int (-100000000000000000000000000000000000000000000000000000000000000000000000000000000)) (ev_is (ev_op (x := .int (-1000000000000000000000000000000000000000000000000000000000000)) (y := .int 100000000000000000000) (ev_un (x := .int 1000000000000000000000000000000000000000000000000000000000000) (by walk_at "pow") ru_neg) (by walk_at "pow") (rv_I (wide_mul (a := 220) (b := 100) (by decide) (by decide) (by decide) (by decide) (by decide)))) (by decide +kernel)) (ap_consL (xs := [.int 1]) (el_lst (ea_cons ev_c ea_nil) (by show 1 ≤ 100000; decide)) ap_nil)))))))) ?z fun vs H1 l e1 hv hl => ?_⟩
    case z => rintro vs H1 ⟨_, rfl, _, rfl, _, rfl, _, rfl, t, _, rfl, ht, _, rfl, _, rfl, d, _, rfl, hdd, rfl⟩; show 8 ≤ 100000; decide
    obtain ⟨_, rfl, _, rfl, _, rfl, _, rfl, t, _, rfl, ht, _, rfl, _, rfl, d, _, rfl, hdd, rfl⟩ := hv
    refine ⟨p, _, ⟨l, _, rfl, (hd.ex e1).ne hl, sq_of upd_same, by show 0 < 8; decide, by show 8 < 1000000; decide, rfl⟩, (hd.ex e1).ex (Ex.new hl), fun v H2 hv e2 d2 => q v H2 ((Exd.of (e1.trans (Ex.new hl))).trans e2) d2 (NoI.dc e2 ((hd.ex e1).ex (Ex.new hl)) ?_)⟩
    simp only [List.mem_cons, List.not_mem_nil, or_false] at hv
    rcases hv with rfl | rfl | rfl | rfl | rfl | rfl | rfl | rfl
    all_goals first | exact .inl (by decide +kernel) | exact .inr ⟨t, rfl, .inl (Ex.new hl _ _ ht)⟩ | exact .inr ⟨d, rfl, .inr (Ex.new hl _ _ hdd)⟩
end
end Kz
set_option Elab.async false
set_option linter.all false
set_option maxRecDepth 100000
set_option maxHeartbeats 4000000
set_option exponentiation.threshold 500
namespace Kz
open PySem PySem.Spec PyProof.Rows L2 Evl Vr
local macro_rules | `(tactic| walk_at "sc") => `(tactic| first | (with_reducible assumption) | (with_reducible exact sc_mul (by omega)) | (with_reducible exact sc_mulr (by omega)) | (with_reducible exact sc_div (by omega) (by decide)) | (show (0 : Int) < _; omega) | (show _ ≠ (0 : Int); omega) | (with_reducible rfl) | decide)
local macro_rules | `(tactic| walk_at "sq") => `(tactic| first | assumption | exact sq_of (by assumption) | exact st_of (by assumption))
local macro_rules | `(tactic| walk_at "pl") => `(tactic| first | assumption | exact pl_int | exact pl_bl | exact pl_str | exact pl_non | exact pl_lst (by assumption) | exact pl_tup (by assumption) | exact pl_dK (by assumption))
local macro_rules | `(tactic| walk_at "rv") => `(tactic| first
  | with_reducible exact rv_I0
  | with_reducible exact ru_neg
  | ((with_reducible apply rv_I); walk_at "sc")
  | ((with_reducible apply rv_ixL); walk_at "sq"; first | rfl | assumption)
  | ((with_reducible apply rv_ixT); walk_at "sq"; first | rfl | assumption)
  | ((with_reducible apply rv_eq); rfl) | ((with_reducible apply rv_ne); rfl))
local macro_rules | `(tactic| walk_at "rc") => `(tactic| first
  | with_reducible exact rc_I1 | with_reducible exact rc_B1 | with_reducible exact rc_I2 | ((with_reducible apply rc_repr); walk_at "sc") | ((with_reducible apply rc_lenL); walk_at "sq")
  | ((with_reducible apply rc_isiInt); walk_at "pl") | ((with_reducible apply rc_isiBool); walk_at "pl"))
local macro_rules | `(tactic| walk_at "ea") => `(tactic| first
  | with_reducible exact ea_nil | ((with_reducible apply ea_cons); walk_at "ev"; walk_at "ea"))
local macro_rules | `(tactic| walk_at "pow") => `(tactic| first
  | with_reducible exact ev_pow (a := 10) (b := 9) (c := 1000000000) (by decide +kernel) (by decide +kernel)
  | with_reducible exact ev_pow (a := 10) (b := 10) (c := 10000000000) (by decide +kernel) (by decide +kernel)
  | with_reducible exact ev_pow (a := 10) (b := 12) (c := 1000000000000) (by decide +kernel) (by decide +kernel)
  | with_reducible exact ev_pow (a := 10) (b := 17) (c := 100000000000000000) (by decide +kernel) (by decide +kernel)
  | with_reducible exact ev_pow (a := 10) (b := 20) (c := 100000000000000000000) (by decide +kernel) (by decide +kernel)
  | with_reducible exact ev_pow (a := 10) (b := 29) (c := 100000000000000000000000000000) (by decide +kernel) (by decide +kernel)
  | with_reducible exact ev_pow (a := 10) (b := 30) (c := 1000000000000000000000000000000) (by decide +kernel) (by decide +kernel)
  | with_reducible exact ev_pow (a := 10) (b := 40) (c := 10000000000000000000000000000000000000000) (by decide +kernel) (by decide +kernel)
  | with_reducible exact ev_pow (a := 10) (b := 57) (c := 1000000000000000000000000000000000000000000000000000000000) (by decide +kernel) (by decide +kernel)
  | with_reducible exact ev_pow (a := 10) (b := 58) (c := 10000000000000000000000000000000000000000000000000000000000) (by decide +kernel) (by decide +kernel)
  | with_reducible exact ev_pow (a := 10) (b := 59) (c := 100000000000000000000000000000000000000000000000000000000000) (by decide +kernel) (by decide +kernel)
  | with_reducible exact ev_pow (a := 10) (b := 60) (c := 1000000000000000000000000000000000000000000000000000000000000) (by decide +kernel) (by decide +kernel))
local macro_rules | `(tactic| walk_at "call") => `(tactic| (intro H9 e9; first | exact ⟨_, rfl, rfl⟩ | exact ⟨_, _, rfl, rfl⟩ | exact ⟨_, _, _, rfl, rfl⟩ | exact ⟨_, rfl, by walk_at "pl", rfl⟩ | (refine ⟨_, _, _, rfl, ?_, rfl⟩; first | exact Plain.ex e9 (by assumption) | walk_at "pl") | (refine ⟨_, rfl, ?_, rfl⟩; first | exact Plain.ex e9 (by assumption) | walk_at "pl")))
local macro_rules | `(tactic| walk_at "ev") => `(tactic| first
  | with_reducible exact ev_c
  | exact ev_var rfl
  | walk_at "pow"
  | ((with_reducible apply ev_op); walk_at "ev"; walk_at "ev"; walk_at "rv")
  | ((with_reducible apply ev_un); walk_at "ev"; walk_at "rv")
  | ((with_reducible apply ev_cb); walk_at "ea"; walk_at "rc")
  | ((with_reducible apply ev_callP); walk_at "ea"; walk_at "call")
  | ((with_reducible apply ev_chain); walk_at "ev"; walk_at "ev"; walk_at "rv"; walk_at "ev"; walk_at "rv")
  | ((with_reducible apply ev_andV); walk_at "ev"; intro _; walk_at "ev")
  | ((with_reducible apply ev_orV); walk_at "ev"; intro _; walk_at "ev")
  | ((with_reducible apply ev_ite); walk_at "et"; intro _; walk_at "ev"; intro _; walk_at "ev")
  | ((with_reducible apply ev_notV); walk_at "ev"))
local macro_rules | `(tactic| walk_at "et") => `(tactic| first
  | ((with_reducible apply et_test); walk_at "ev")
  | ((with_reducible apply et_B); walk_at "ev")
  | ((with_reducible apply et_and); walk_at "et"; intro _; walk_at "et")
  | ((with_reducible apply et_or); walk_at "et"; intro _; walk_at "et")
  | ((with_reducible apply et_not); walk_at "et"))
open LamX Wo
/-- told tuples, one for each text -/
inductive Tds (K : PySem.W.Frag) (H : Hp) : List V → List Str → Prop
  | nil : Tds K H [] []
  | cons {t : Addr} {z : Str} {vs : List V} {zs : List Str} : SqT K H t [.str "refused", .str z] → Tds K H vs zs → Tds K H (.ref t :: vs) (z :: zs)
def tdD (z : Str) : PyData := .tuple [.str "refused", .str z]
section
variable {K : PySem.W.Frag} {H H' : Hp} {vs us : List V} {zs ys : List Str}
theorem Tds.st (hs : ∀ b xs, SqT K H b xs → SqT K H' b xs) (h : Tds K H vs zs) : Tds K H' vs zs := by
  induction h with
  | nil => exact .nil
  | cons h _ ih => exact .cons (hs _ _ h) ih
theorem Tds.xn (e : ExtN H H') (h : Tds K H vs zs) : Tds K H' vs zs := h.st fun _ _ => xn_t e
theorem Tds.app (h : Tds K H vs zs) (g : Tds K H us ys) : Tds K H (vs ++ us) (zs ++ ys) := by
  induction h with
  | nil => exact g
  | cons h _ ih => exact .cons h ih
theorem Tds.dpa (h : Tds K H vs zs) : DpAll K H vs (zs.map tdD) := by
  induction h with
  | nil => exact .nil
  | cons h _ ih => exact .cons (.tup h (.cons (.str _) (.cons (.str _) .nil))) ih
theorem Tds.len (h : Tds K H vs zs) : vs.length = zs.length := by
  induction h with
  | nil => rfl
  | cons _ _ ih => rw [List.length_cons, List.length_cons, ih]
theorem sqt_up {b L : Addr} {xs ys : List V} {o : HO} (hL : H L = some (.lst ys)) (h : SqT K H b xs) : SqT K (upd H L o) b xs := by
  by_cases z : b = L
  · subst z
    rcases h with (h | ⟨o, h⟩) | h
    · rw [hL] at h; cases h
    · rw [hL] at h; cases h
    · exact .inr h
  · rcases h with (h | ⟨o, h⟩) | h
    · exact .inl (.inl (by rw [upd_ne z]; exact h))
    · exact .inl (.inr ⟨o, by rw [upd_ne z]; exact h⟩)
    · exact .inr h
end
theorem eqvAll_tds : ∀ zs : List Str, PyData.eqvAll (zs.map tdD) (zs.map tdD) = true
  | [] => rfl
  | z :: zs => by
    show (((("refused" : Str) == "refused") && ((z == z) && true)) && PyData.eqvAll (zs.map tdD) (zs.map tdD)) = true
    rw [eqvAll_tds zs]
    simp
theorem shaped_tds {zs : List Str} (h : ∀ z ∈ zs, PyData.strOk z = true) : SeqAt.shaped (.list (zs.map tdD)) = true := by
  have l : ∀ zs : List Str, (∀ z ∈ zs, PyData.strOk z = true) → PyData.canLayAll0 (zs.map tdD) = true ∧ PyData.depthAll (zs.map tdD) ≤ 1 := by
    intro zs
    induction zs with
    | nil => exact fun _ => ⟨rfl, Nat.zero_le _⟩
    | cons z zs ih =>
      intro h
      obtain ⟨h1, h2⟩ := ih fun x hx => h x (List.mem_cons_of_mem _ hx)
      refine ⟨?_, ?_⟩
      · show ((PyData.strOk "refused" && (PyData.strOk z && true)) && PyData.canLayAll0 (zs.map tdD)) = true
        rw [h1, h z (List.mem_cons_self ..)]
        decide +kernel
      · show max 1 (PyData.depthAll (zs.map tdD)) ≤ 1
        omega
  obtain ⟨h1, h2⟩ := l zs h
  unfold SeqAt.shaped
  have h3 : PyData.canLay0 (.list (zs.map tdD)) = true := h1
  have h4 : PyData.depth (.list (zs.map tdD)) ≤ 2 := by show PyData.depthAll (zs.map tdD) + 1 ≤ 2; omega
  rw [h3, decide_eq_true (by omega)]
  rfl
section
variable {σ : L2.St} {H : Hp} {TL : List (Addr × Str)} {K : PySem.W.Frag} {p : Addr} {D : Ends} {tz : TS} {zs : List Str} {xs : List V}
/-- nothing but a table stood there -/
def Nw (H : Hp) (l : Addr) : Prop := ∀ o, H l = some o → ∃ ps, o = .tbl ps
theorem nw_ex {l : Addr} {H1 : Hp} (e : Ex H H1) (h : H1 l = none) : Nw H l := fun o ho => by rw [e _ _ ho] at h; cases h
theorem nw_xn {l : Addr} {H1 : Hp} (e : ExtN H H1) (h : H1 l = none) : Nw H l := fun o ho => by
  by_cases z : ∃ ps, o = .tbl ps
  · exact z
  · rw [e _ _ ho fun ps w => z ⟨ps, w⟩] at h
    cases h
/-- te makes a new list of told tuples -/
def EvM (K : PySem.W.Frag) (TL : List (Addr × Str)) (te : TE) (σ : L2.St) (H : Hp) (zs : List Str) : Prop := ∀ Q : VK, (∀ l H2 vs, Nw H l → ExtN H H2 → Tabs TL H2 → H2 l = some (.lst vs) → Tds K H2 vs zs → Q (.ref l) H2) → te σ H Q
/-- tm meets a call that is told so -/
def Em (K : PySem.W.Frag) (TL : List (Addr × Str)) (tm : TE) (σ : L2.St) (H : Hp) (z : Str) : Prop := ∀ Q : VK, (∀ t H2, ExtN H H2 → Tabs TL H2 → SqT K H2 t [.str "refused", .str z] → Q (.ref t) H2) → tm σ H Q
theorem em_turn {tm : TE} {H1 H' : Hp} {Dl : Addr} {k : Nat} {σ2 : L2.St} {z : Str} (hz : zs[k]? = some z) (hk : zs.length ≤ 1000) (hD : H1 Dl = none) (p : ExtN H1 H' ∧ Tabs TL H' ∧ ∃ vs, H' Dl = some (.lst vs) ∧ Tds K H' vs (zs.take k)) (h : Em K TL tm σ2 H' z) :
    tm σ2 H' fun y H4 => ∃ acc, H4 Dl = some (.lst acc) ∧ acc.length < sizeLine ∧ (fun i H' => ExtN H1 H' ∧ Tabs TL H' ∧ ∃ vs, H' Dl = some (.lst vs) ∧ Tds K H' vs (zs.take i)) (k + 1) (upd H4 Dl (.lst (acc ++ [y]))) := by
  obtain ⟨e, t, vs, hv, hd⟩ := p
  refine h _ fun t' H4 e4 t4 h4 => ⟨vs, (e4 _ _ hv fun _ z => by cases z), ?_, ?_⟩
  · have := hd.len
    rw [List.length_take] at this
    exact sz_lt (by omega)
  · have hv4 : H4 Dl = some (.lst vs) := e4 _ _ hv fun _ z => by cases z
    refine ⟨fun b o hb ho => ?_, fun q hq => ?_, vs ++ [.ref t'], upd_same, ?_⟩
    · rw [upd_ne (ne_of_none hb hD)]
      exact e4 _ _ (e _ _ hb ho) ho
    · obtain ⟨ps, h1, h2, h3⟩ := t4 q hq
      have hn : q.1 ≠ Dl := fun z => by rw [z, hv4] at h1; cases h1
      refine ⟨ps, by rw [upd_ne hn]; exact h1, h2, fun pos cv hc => ?_⟩
      obtain ⟨c, h4, h5⟩ := h3 pos cv hc
      exact ⟨c, h4, by rw [upd_ne (fun z => by rw [z, hv4] at h5; cases h5)]; exact h5⟩
    · have e1 : zs.take (k + 1) = zs.take k ++ [z] := by
        obtain ⟨h1, h2⟩ := List.getElem?_eq_some_iff.mp hz
        rw [← List.take_append_getElem h1, h2]
      rw [e1]
      exact ((hd.xn e4).app (.cons h4 .nil)).st fun b xs h => sqt_up hv4 h
theorem em_lcT {tl tm : TE} {j : Nat} {vs : List Nat} (hT : Tabs TL H) (h : EvU tl σ H xs) (hl : zs.length = xs.length) (hx : xs.length ≤ 1000) (hw : ∀ x, wipe ((wipe σ vs).set j (some x)) vs = wipe σ vs)
    (he : ∀ (i : Nat) x z H', xs[i]? = some x → zs[i]? = some z → ExtN H H' → Tabs TL H' → Em K TL tm ((wipe σ vs).set j (some x)) H' z) : EvM K TL (tLc (iTup K tl) (gName j) tYes tm vs) σ H zs := fun Q q =>
  h H (Ex.refl H) _ fun a H1 ha e1 h1 => ⟨a, rfl, ⟨xs, st_of h1⟩, fun Dl hD =>
    lc_tup (K := K) (xs := xs) (fun i H' => ExtN H1 H' ∧ Tabs TL H' ∧ ∃ vs, H' Dl = some (.lst vs) ∧ Tds K H' vs (zs.take i)) ⟨xn_ex (Ex.new hD), (hT.ext e1).ext (Ex.new hD), [], upd_same, .nil⟩ (fun i H' _ p => xn_t p.1 (st_of h1))
      (fun i x H' hi p => ⟨hw x, by
        unfold tYes
        dsimp only
        rw [if_pos rfl]
        have hi2 := (List.getElem?_eq_some_iff.mp hi).1
        have hz : zs[i]? = some (zs[i]'(by omega)) := List.getElem?_eq_getElem (by omega)
        exact em_turn hz (by omega) hD p (he i x _ H' hi hz ((xn_ex e1).trans p.1) p.2.1)⟩)
      (fun H' ⟨e, t, vs, hv, hd⟩ => q Dl H' vs (nw_ex e1 hD) ((xn_ex e1).trans e) t hv (by rw [← hl, List.take_length] at hd; exact hd))⟩
/-- any list, new or not -/
def EvV (K : PySem.W.Frag) (te : TE) (σ : L2.St) (H : Hp) (xs : List V) : Prop := ∀ H1, Ex H H1 → ∀ Q : VK, (∀ a H2, Ex H1 H2 → SqL K H2 a xs → Q (.ref a) H2) → te σ H1 Q
theorem evv_of {te : TE} {a : Addr} (h : Ev te σ H (.ref a)) (hl : SqL K H a xs) : EvV K te σ H xs := fun H1 e Q q => h H1 e Q fun H2 e2 => q a H2 e2 (ex_l (e.trans e2) hl)
theorem evv_l {te : TE} (h : EvL te σ H xs) : EvV K te σ H xs := fun H1 e Q q => h H1 e Q fun a H2 _ e2 h2 => q a H2 e2 (sq_of h2)
theorem em_lcL {tl tm : TE} {j : Nat} {vs : List Nat} (hT : Tabs TL H) (h : EvV K tl σ H xs) (hl : zs.length = xs.length) (hx : xs.length ≤ 1000) (hw : ∀ x, wipe ((wipe σ vs).set j (some x)) vs = wipe σ vs)
    (he : ∀ (i : Nat) x z H', xs[i]? = some x → zs[i]? = some z → ExtN H H' → Tabs TL H' → Em K TL tm ((wipe σ vs).set j (some x)) H' z) : EvM K TL (tLc (iList K tl) (gName j) tYes tm vs) σ H zs := fun Q q =>
  h H (Ex.refl H) _ fun a H1 e1 h1 => ⟨a, rfl, ⟨xs, h1⟩, fun Dl hD =>
    lc_it (walk_list (K := K) (xs := xs)) (fun i H' => ExtN H1 H' ∧ Tabs TL H' ∧ ∃ vs, H' Dl = some (.lst vs) ∧ Tds K H' vs (zs.take i)) ⟨xn_ex (Ex.new hD), (hT.ext e1).ext (Ex.new hD), [], upd_same, .nil⟩ (fun i H' _ p => xn_l p.1 h1)
      (fun i x H' H'' hi p y => ⟨hw x, by
        obtain ⟨rfl, y⟩ := y
        unfold tYes
        dsimp only
        rw [if_pos rfl]
        have hz : zs[i]? = some (zs[i]'(by omega)) := List.getElem?_eq_getElem (by omega)
        exact em_turn hz (by omega) hD p (he i x _ _ y hz ((xn_ex e1).trans p.1) p.2.1)⟩)
      (fun H' ⟨e, t, vs, hv, hd⟩ => q Dl H' vs (nw_ex e1 hD) ((xn_ex e1).trans e) t hv (by rw [← hl, List.take_length] at hd; exact hd))⟩
theorem q_asgM {te : TE} {i : Nat} (h : EvM K TL te σ H zs) (k : ∀ l H2 vs, Nw H l → ExtN H H2 → Tabs TL H2 → H2 l = some (.lst vs) → Tds K H2 vs zs → tz D (σ.set i (some (.ref l))) H2) : tSeq (tAsg te (gName i)) tz D σ H := h _ k
/-- told = told + [..] -/
theorem em_cat {te tm : TE} {l : Addr} {vs : List V} {ys : List Str} (h : Ev te σ H (.ref l)) (hl : H l = some (.lst vs)) (hv : Tds K H vs zs) (hz : zs.length ≤ 1000) (hy : ys.length ≤ 1000) (hm : ∀ H1, Ex H H1 → EvM K TL tm σ H1 ys) : EvM K TL (tOp rCat te tm) σ H (zs ++ ys) := fun Q q =>
  h H (Ex.refl H) _ fun H1 e1 => hm H1 e1 _ fun r H2 us _ e2 t2 h2 hu => by
    have e := (xn_ex e1).trans e2
    have hl2 : H2 l = some (.lst vs) := e _ _ hl fun _ z => by cases z
    have l1 := hv.len
    have l2 := hu.len
    exact ⟨l, r, vs, us, rfl, rfl, hl2, h2, sz_of (by omega), fun x hx => q x _ (vs ++ us) (nw_xn e hx) (e.trans (xn_ex (Ex.new hx))) (t2.ext (Ex.new hx)) upd_same (((hv.xn e).app hu).xn (xn_ex (Ex.new hx)))⟩
/-- told.append(..) -/
theorem q_app {te tm : TE} {l : Addr} {vs : List V} {z : Str} (h : Ev te σ H (.ref l)) (hl : H l = some (.lst vs)) (hv : Tds K H vs zs) (hz : zs.length ≤ 1000) (hm : ∀ H1, Ex H H1 → Em K TL tm σ H1 z)
    (k : ∀ H2 us, (∀ b o, H b = some o → b ≠ l → (∀ ps, o ≠ .tbl ps) → H2 b = some o) → (∀ b xs, SqT K H b xs → SqT K H2 b xs) → Tabs TL H2 → H2 l = some (.lst us) → Tds K H2 us (zs ++ [z]) → tz D σ H2) : tSeq (tDrop (tBM K "list" rAppend te (tCons tm tNil))) tz D σ H :=
  h H (Ex.refl H) _ fun H1 e1 => ⟨.inl ⟨rfl, _, sq_of (e1 _ _ hl)⟩, hm H1 e1 _ fun t H2 e2 t2 h2 => by
    have e := (xn_ex e1).trans e2
    have hl2 : H2 l = some (.lst vs) := e _ _ hl fun _ z => by cases z
    have l1 := hv.len
    refine ⟨l, vs, .ref t, rfl, rfl, hl2, sz_lt (by omega), k _ _ (fun b o hb hn ho => by rw [upd_ne hn]; exact e _ _ hb ho) (fun b xs h => sqt_up hl2 (xn_t e h)) (fun q hq => ?_) upd_same (((hv.xn e).app (.cons h2 .nil)).st fun b xs h => sqt_up hl2 h)⟩
    obtain ⟨ps, h1, h3, h4⟩ := t2 q hq
    refine ⟨ps, by rw [upd_ne (fun z => by rw [z, hl2] at h1; cases h1)]; exact h1, h3, fun pos cv hc => ?_⟩
    obtain ⟨c, h5, h6⟩ := h4 pos cv hc
    exact ⟨c, h5, by rw [upd_ne (fun z => by rw [z, hl2] at h6; cases h6)]; exact h6⟩⟩
theorem s_app {te tm : TE} {l : Addr} {vs : List V} {z : Str} (h : Ev te σ H (.ref l)) (hl : H l = some (.lst vs)) (hv : Tds K H vs zs) (hz : zs.length ≤ 1000) (hm : ∀ H1, Ex H H1 → Em K TL tm σ H1 z)
    (k : ∀ H2 us, (∀ b o, H b = some o → b ≠ l → (∀ ps, o ≠ .tbl ps) → H2 b = some o) → (∀ b xs, SqT K H b xs → SqT K H2 b xs) → Tabs TL H2 → H2 l = some (.lst us) → Tds K H2 us (zs ++ [z]) → D.nx σ H2) : tDrop (tBM K "list" rAppend te (tCons tm tNil)) D σ H := q_app (tz := tNext) h hl hv hz hm k
theorem Nw.back {l : Addr} {H1 : Hp} (e : ExtN H H1) (h : Nw H1 l) : Nw H l := fun o ho => by
  by_cases z : ∃ ps, o = .tbl ps
  · exact z
  · exact h o (e _ _ ho fun ps w => z ⟨ps, w⟩)
theorem keep_l {l : Addr} {H0 H1 : Hp} (nw : Nw H0 l) (e : ExtN H0 H) (k : ∀ b o, H b = some o → b ≠ l → (∀ ps, o ≠ .tbl ps) → H1 b = some o) : ExtN H0 H1 := fun b o hb ho => k b o (e b o hb ho) (fun z => by subst z; obtain ⟨ps, w⟩ := nw o hb; exact ho ps w) ho
theorem Tabs.xd {p : Addr} {H1 : Hp} (e : Exd p H H1) (d : Dice p H) (h : Tabs TL H) : Tabs TL H1 := fun q hq => by
  obtain ⟨a, b, c, hd⟩ := d
  obtain ⟨ps, h1, h2, h3⟩ := h q hq
  refine ⟨ps, e _ _ (fun z => by rw [z, hd] at h1; cases h1) h1, h2, fun pos cv hc => ?_⟩
  obtain ⟨x, h4, h5⟩ := h3 pos cv hc
  exact ⟨x, h4, e _ _ (fun z => by rw [z, hd] at h5; cases h5) h5⟩
theorem ea_ix4 {i : Nat} {a : Addr} {v0 v1 v2 v3 : V} (hs : σ[i]? = some (some (.ref a))) (h : SqT K H a [v0, v1, v2, v3]) (tr : TA) (ys : List V) (hr : EvA tr σ H ys) :
    EvA (tCons (tOp (rIxT K) (tVar i) (tC (.int 0))) (tCons (tOp (rIxT K) (tVar i) (tC (.int 1))) (tCons (tOp (rIxT K) (tVar i) (tC (.int 2))) (tCons (tOp (rIxT K) (tVar i) (tC (.int 3))) tr)))) σ H (v0 :: v1 :: v2 :: v3 :: ys) :=
  ea_cons (ev_op (ev_var hs) ev_c (rv_ixT h rfl)) (ea_cons (ev_op (ev_var hs) ev_c (rv_ixT h rfl)) (ea_cons (ev_op (ev_var hs) ev_c (rv_ixT h rfl)) (ea_cons (ev_op (ev_var hs) ev_c (rv_ixT h rfl)) hr)))
theorem ea_ix3 {i : Nat} {a : Addr} {v0 v1 v2 v3 : V} (hs : σ[i]? = some (some (.ref a))) (h : SqT K H a [v0, v1, v2, v3]) (tr : TA) (ys : List V) (hr : EvA tr σ H ys) :
    EvA (tCons (tOp (rIxT K) (tVar i) (tC (.int 0))) (tCons (tOp (rIxT K) (tVar i) (tC (.int 1))) (tCons (tOp (rIxT K) (tVar i) (tC (.int 2))) tr))) σ H (v0 :: v1 :: v2 :: ys) :=
  ea_cons (ev_op (ev_var hs) ev_c (rv_ixT h rfl)) (ea_cons (ev_op (ev_var hs) ev_c (rv_ixT h rfl)) (ea_cons (ev_op (ev_var hs) ev_c (rv_ixT h rfl)) hr))
theorem evd_catV {te tt : TE} {l : Addr} {z : Str} (h : Ev te σ H (.ref l)) (hl : H l = some (.lst xs)) (hv : Tds K H xs zs) (hz : zs.length ≤ 1000) (ht : EvU tt σ H [.str "refused", .str z]) : EvD K (tOp rCat te (tLst (tCons tt tNil))) σ H (.list ((zs ++ [z]).map tdD)) := fun H1 e Q q =>
  h H1 e _ fun H2 e2 => ht H2 (e.trans e2) _ fun t H3 _ e3 h3 => ⟨sz_of (by show 1 ≤ 100000; decide), fun r hr => by
    have e4 : Ex H (upd H3 r (.lst [.ref t])) := ((e.trans e2).trans e3).trans (Ex.new hr)
    have l1 := hv.len
    refine ⟨l, r, xs, [.ref t], rfl, rfl, e4 _ _ hl, upd_same, sz_of (by show xs.length + 1 ≤ 100000; omega), fun x hx => q _ _ (((e2.trans e3).trans (Ex.new hr)).trans (Ex.new hx)) (.lst (sq_of upd_same) (Tds.dpa ?_))⟩
    exact (((hv.xn (xn_ex e4)).app (.cons (st_of (Ex.new hr _ _ h3)) .nil))).xn (xn_ex (Ex.new hx))⟩
theorem q_parUU {ta tb : TE} {i j : Nat} {ys : List V} (h1 : EvU ta σ H xs) (h2 : EvU tb σ H ys) (k : ∀ p r H1, Ex H H1 → H1 p = some (.tup xs) → H1 r = some (.tup ys) → tz D ((σ.set i (some (.ref p))).set j (some (.ref r))) H1) : tSeq (tPar i j (tCons ta (tCons tb tNil))) tz D σ H :=
  h1 H (Ex.refl H) _ fun p H1 _ e1 hp => h2 H1 e1 _ fun r H2 _ e2 hr => ⟨.ref p, .ref r, rfl, k p r H2 (e1.trans e2) (e2 _ _ hp) hr⟩
theorem q_asgLP {ts : TA} {i : Nat} {P : List V → Hp → Prop} (h : EvAP ts σ H P) (hl : ∀ vs H1, P vs H1 → vs.length ≤ 100000) (k : ∀ vs H1 H2 l, Ex H H1 → P vs H1 → H1 l = none → Ex H1 H2 → H2 l = some (.lst vs) → tz D (σ.set i (some (.ref l))) H2) : tSeq (tAsg (tLst ts) (gName i)) tz D σ H :=
  h H (Ex.refl H) _ fun vs H1 e1 hp => ⟨sz_of (hl vs H1 hp), fun l hn => k vs H1 _ l e1 hp hn (Ex.new hn) upd_same⟩
theorem rc_reprD {v : V} {y : PyData} (h : Rp K H v y) : RC (rReprD K) [v] H (.str y.shown) := fun H1 e Q q => ⟨v, y, rfl, dp_ex e h.1, h.2.1, h.2.2.1, h.2.2.2, q H1 (Ex.refl H1)⟩
theorem el_rep {te tn : TE} {n : Nat} (h : EvL te σ H xs) (hn : Ev tn σ H (.int (n : Int))) (hz : xs.length * n ≤ 100000) (hk : n ≤ 1000) : EvL (tOp rRep te tn) σ H (List.replicate n xs).flatten := fun H1 e Q q =>
  h H1 e _ fun p H2 hp e2 h2 => hn H2 (e.trans e2) _ fun H3 e3 => ⟨p, (n : Int), xs, rfl, rfl, e3 _ _ h2, by omega, by omega, by rw [Int.toNat_natCast]; exact sz_of hz, fun l hl => q l _ (fresh_back (e2.trans e3) hl) ((e2.trans e3).trans (Ex.new hl)) (by rw [Int.toNat_natCast]; exact upd_same)⟩
theorem cut_3 (xs : List V) (k : Nat) : cutV xs none (some (k : Int)) = xs.take k := by
  unfold cutV
  rw [HT.sIx_nat]
  have h0 : HT.sIx xs.length 0 none = 0 := rfl
  rw [h0, List.drop_zero, Nat.sub_zero]
  by_cases h : k ≤ xs.length
  · rw [Nat.min_eq_left h]
  · rw [Nat.min_eq_right (by omega), List.take_of_length_le (Nat.le_refl _), List.take_of_length_le (by omega)]
/-- for x in a new tuple -/
theorem q_forU {ta : TE} {j : Nat} {tb : TS} (h : EvU ta σ H xs) (Pv : Nat → L2.St → Hp → Prop) (h0 : ∀ H1, Ex H H1 → Pv 0 σ H1) (hs : ∀ (a : Addr) (i : Nat) x σ' H', xs[i]? = some x → SqT K H' a xs → Pv i σ' H' → tb { D with nx := fun σ2 H2 => SqT K H2 a xs ∧ Pv (i + 1) σ2 H2, ct := fun σ2 H2 => SqT K H2 a xs ∧ Pv (i + 1) σ2 H2, bk := tz D } (σ'.set j (some x)) H')
    (hd : ∀ σ' H', Pv xs.length σ' H' → tz D σ' H') : tSeq (tFor (iTup K ta) (gName j) tb) tz D σ H := h H (Ex.refl H) _ fun a H1 ha e1 h1 => ⟨a, rfl, ⟨xs, st_of h1⟩,
  for_it (D := { D with nx := tz D }) (walk_tup (K := K) (xs := xs)) (fun i σ' H' => SqT K H' a xs ∧ Pv i σ' H') ⟨st_of h1, h0 H1 e1⟩ (fun i σ' H' _ p => p.1) (fun i x σ' H' H'' hi p y => by
    obtain ⟨rfl, y⟩ := y
    exact hs a i x σ' _ y p.1 p.2) fun σ' H' p => hd σ' H' p.2⟩
end
end Kz
set_option Elab.async false
set_option linter.all false
set_option maxRecDepth 100000
set_option maxHeartbeats 4000000
set_option exponentiation.threshold 500
namespace Kz
open PySem PySem.Spec PyProof.Rows L2 Evl Vr
local macro_rules | `(tactic| walk_at "sc") => `(tactic| first | (with_reducible assumption) | (with_reducible exact sc_mul (by omega)) | (with_reducible exact sc_mulr (by omega)) | (with_reducible exact sc_div (by omega) (by decide)) | (show (0 : Int) < _; omega) | (show _ ≠ (0 : Int); omega) | (with_reducible rfl) | decide)
local macro_rules | `(tactic| walk_at "sq") => `(tactic| first | assumption | exact sq_of (by assumption) | exact st_of (by assumption))
local macro_rules | `(tactic| walk_at "pl") => `(tactic| first | assumption | exact pl_int | exact pl_bl | exact pl_str | exact pl_non | exact pl_lst (by assumption) | exact pl_tup (by assumption) | exact pl_dK (by assumption))
local macro_rules | `(tactic| walk_at "rv") => `(tactic| first
  | with_reducible exact rv_I0
  | with_reducible exact ru_neg
  | ((with_reducible apply rv_I); walk_at "sc")
  | ((with_reducible apply rv_ixL); walk_at "sq"; first | rfl | assumption)
  | ((with_reducible apply rv_ixT); walk_at "sq"; first | rfl | assumption)
  | ((with_reducible apply rv_eq); rfl) | ((with_reducible apply rv_ne); rfl))
local macro_rules | `(tactic| walk_at "rc") => `(tactic| first
  | with_reducible exact rc_I1 | with_reducible exact rc_B1 | with_reducible exact rc_I2 | ((with_reducible apply rc_repr); walk_at "sc") | ((with_reducible apply rc_lenL); walk_at "sq")
  | ((with_reducible apply rc_isiInt); walk_at "pl") | ((with_reducible apply rc_isiBool); walk_at "pl"))
local macro_rules | `(tactic| walk_at "ea") => `(tactic| first
  | with_reducible exact ea_nil | ((with_reducible apply ea_cons); walk_at "ev"; walk_at "ea"))
local macro_rules | `(tactic| walk_at "pow") => `(tactic| first
  | with_reducible exact ev_pow (a := 10) (b := 9) (c := 1000000000) (by decide +kernel) (by decide +kernel)
  | with_reducible exact ev_pow (a := 10) (b := 10) (c := 10000000000) (by decide +kernel) (by decide +kernel)
  | with_reducible exact ev_pow (a := 10) (b := 12) (c := 1000000000000) (by decide +kernel) (by decide +kernel)
  | with_reducible exact ev_pow (a := 10) (b := 17) (c := 100000000000000000) (by decide +kernel) (by decide +kernel)
  | with_reducible exact ev_pow (a := 10) (b := 20) (c := 100000000000000000000) (by decide +kernel) (by decide +kernel)
  | with_reducible exact ev_pow (a := 10) (b := 29) (c := 100000000000000000000000000000) (by decide +kernel) (by decide +kernel)
  | with_reducible exact ev_pow (a := 10) (b := 30) (c := 1000000000000000000000000000000) (by decide +kernel) (by decide +kernel)
  | with_reducible exact ev_pow (a := 10) (b := 40) (c := 10000000000000000000000000000000000000000) (by decide +kernel) (by decide +kernel)
  | with_reducible exact ev_pow (a := 10) (b := 57) (c := 1000000000000000000000000000000000000000000000000000000000) (by decide +kernel) (by decide +kernel)
  | with_reducible exact ev_pow (a := 10) (b := 58) (c := 10000000000000000000000000000000000000000000000000000000000) (by decide +kernel) (by decide +kernel)
  | with_reducible exact ev_pow (a := 10) (b := 59) (c := 100000000000000000000000000000000000000000000000000000000000) (by decide +kernel) (by decide +kernel)
  | with_reducible exact ev_pow (a := 10) (b := 60) (c := 1000000000000000000000000000000000000000000000000000000000000) (by decide +kernel) (by decide +kernel))
local macro_rules | `(tactic| walk_at "call") => `(tactic| (intro H9 e9; first | exact ⟨_, rfl, rfl⟩ | exact ⟨_, _, rfl, rfl⟩ | exact ⟨_, _, _, rfl, rfl⟩ | exact ⟨_, rfl, by walk_at "pl", rfl⟩ | (refine ⟨_, _, _, rfl, ?_, rfl⟩; first | exact Plain.ex e9 (by assumption) | walk_at "pl") | (refine ⟨_, rfl, ?_, rfl⟩; first | exact Plain.ex e9 (by assumption) | walk_at "pl")))
local macro_rules | `(tactic| walk_at "ev") => `(tactic| first
  | with_reducible exact ev_c
  | exact ev_var rfl
  | walk_at "pow"
  | ((with_reducible apply ev_op); walk_at "ev"; walk_at "ev"; walk_at "rv")
  | ((with_reducible apply ev_un); walk_at "ev"; walk_at "rv")
  | ((with_reducible apply ev_cb); walk_at "ea"; walk_at "rc")
  | ((with_reducible apply ev_callP); walk_at "ea"; walk_at "call")
  | ((with_reducible apply ev_chain); walk_at "ev"; walk_at "ev"; walk_at "rv"; walk_at "ev"; walk_at "rv")
  | ((with_reducible apply ev_andV); walk_at "ev"; intro _; walk_at "ev")
  | ((with_reducible apply ev_orV); walk_at "ev"; intro _; walk_at "ev")
  | ((with_reducible apply ev_ite); walk_at "et"; intro _; walk_at "ev"; intro _; walk_at "ev")
  | ((with_reducible apply ev_notV); walk_at "ev"))
local macro_rules | `(tactic| walk_at "et") => `(tactic| first
  | ((with_reducible apply et_test); walk_at "ev")
  | ((with_reducible apply et_B); walk_at "ev")
  | ((with_reducible apply et_and); walk_at "et"; intro _; walk_at "et")
  | ((with_reducible apply et_or); walk_at "et"; intro _; walk_at "et")
  | ((with_reducible apply et_not); walk_at "et"))
open LamX Wo
section
variable {P : Program} {w : World} {K : PySem.W.Frag} {mg : Str → Option Value} {base : Heap}
def SXr (T : Txt K mg w) : Addr → Sp → Prop := fun f sp => (f = T.a_next_luck ∨ f = T.a_luck_ahead ∨ f = T.a_stirred ∨ f = T.a_unstirred) ∧ sp = spChk K T.C_IL T.C_IN 1 (fun vs => [(.luck, vs.getD 0 .non)]) False ∨ f = T.a_luck_after ∧ sp = spChk K T.C_IL T.C_IN 2 (fun vs => [(.luck, vs.getD 0 .non), (.whole, vs.getD 1 .non)]) True ∨ f = T.a_luck_before ∧ sp = spChk K T.C_IL T.C_IN 2 (fun vs => [(.luck, vs.getD 0 .non), (.whole, vs.getD 1 .non)]) False
theorem held_r (T : Txt K mg w) : ∀ f sp, SXr T f sp → HeldX P w K mg base 6 f sp := fun f sp h => by
  rcases h with ⟨rfl | rfl | rfl | rfl, rfl⟩ | ⟨rfl, rfl⟩ | ⟨rfl, rfl⟩
  · exact ⟨_, _, (ok_next_luck (P := P) (w := w) (base := base) T).mono (by decide), T.F_next_luck.kp, T.b_next_luck⟩
  · exact ⟨_, _, (ok_luck_ahead (P := P) (w := w) (base := base) T).mono (by decide), T.F_luck_ahead.kp, T.b_luck_ahead⟩
  · exact ⟨_, _, (ok_stirred (P := P) (w := w) (base := base) T).mono (by decide), T.F_stirred.kp, T.b_stirred⟩
  · exact ⟨_, _, (ok_unstirred (P := P) (w := w) (base := base) T).mono (by decide), T.F_unstirred.kp, T.b_unstirred⟩
  · exact ⟨_, _, (ok_luck_after (P := P) (w := w) (base := base) T).mono (by decide), T.F_luck_after.kp, T.b_luck_after⟩
  · exact ⟨_, _, (ok_luck_before (P := P) (w := w) (base := base) T).mono (by decide), T.F_luck_before.kp, T.b_luck_before⟩
def qR : Str := ("_law_right" ++ ".<locals>.") ++ "<lambda>"
def qL : Str := ("law" ++ ".<locals>.") ++ "<lambda>"
abbrev TLs (PR PL : Addr) : List (Addr × Str) := [(PR, qR), (PL, qL)]
def spRight (K : PySem.W.Frag) (PR PL : Addr) : Sp := fun vs H Q _ => ∃ p, vs = [.ref p] ∧ Dice p H ∧ Tabs (TLs PR PL) H ∧ ∀ H', (∀ b o, H b = some o → b ≠ p → (∀ ps, o ≠ .tbl ps) → H' b = some o) → Dice p H' → Tabs (TLs PR PL) H' → Q (.bl true) H'
def zA : List Str := ["luck", "luck", "luck", "luck"]
def zB (y : Str) (i : Nat) : List Str := zA ++ (List.replicate i (["luck", y] : List Str)).flatten
theorem zB_s (y : Str) {i : Nat} (h : i < 2) : zB y (i + 1) = (zB y i ++ (["luck"] : List Str)) ++ ([y] : List Str) := by
  have : i = 0 ∨ i = 1 := by omega
  rcases this with rfl | rfl <;> rfl
theorem zB_l (y : Str) {i : Nat} (h : i ≤ 2) : (zB y i).length ≤ 900 := by
  have : i = 0 ∨ i = 1 ∨ i = 2 := by omega
  rcases this with rfl | rfl | rfl
  · show 4 ≤ 900; decide
  · show 6 ≤ 900; decide
  · show 8 ≤ 900; decide
theorem ok_right (T : Txt K mg w) {c PR PL : Addr} (TB : TabB base mg c PR) (hne : PR ≠ PL) (FR : FunL K "_law_right" "_law_right" s_law_right c T.a_law_right T.fd_law_right) : FnG P w K mg base CX0 11 T.a_law_right T.fd_law_right ["dice"] (spRight K PR PL) := by
  have G_law_no_luck := ok_no_luck (P := P) (w := w) (base := base) T
  have G_law_no_index := ok_no_index (P := P) (w := w) (base := base) T
  have G_law_pick := ok_pick (P := P) (w := w) (base := base) T
  have G_lucks_between := ok_lucks_between (P := P) (w := w) (base := base) T
  have G_spot_number := ok_spot_number (P := P) (w := w) (base := base) T
  have G_turn_of := ok_turn_of (P := P) (w := w) (base := base) T
  have G_drawn := ok_drawn (P := P) (w := w) (base := base) T
  have G_is_luck := ok_is_luck (P := P) (w := w) (base := base) T
  have hSX := held_r (P := P) (w := w) (base := base) T
  obtain ⟨ocM, odM, kVM, docM, pmM, anM, cdM, ctM, oslM, hfM, lkM, hcM⟩ := T.F_law_met.ex
  rw [hfM] at lkM
  have hbM := T.b_law_met
  rw [hfM] at hbM
  have hmT : (PR, qR) ∈ TLs PR PL := List.mem_cons_self ..
  have huT : ∀ p ∈ TLs PR PL, p.1 = PR → p.2 = qR := fun p hp e => by
    rcases List.mem_cons.mp hp with rfl | hp
    · rfl
    · rw [List.mem_singleton.mp hp] at e
      exact absurd e.symm hne
  refine FR.okG sc_law_right (fun vs H Q E h => ?_) (fun A outer s H vs Q E hr hg h => ?_)
  · obtain ⟨_, rfl, _⟩ := h; rfl
  obtain ⟨p, rfl, hd, hT, q⟩ := h
  have gd0 : (A.deeper (envOfC "_law_right" (defScope s_law_right) s.heap.objs.size T.a_law_right (.ref c))).guards = some [] := hg
  have hu1 : (A.deeper (envOfC "_law_right" (defScope s_law_right) s.heap.objs.size T.a_law_right (.ref c))).units + 100 < cLine := by have := hr.un; omega
  have hu64 : (A.deeper (envOfC "_law_right" (defScope s_law_right) s.heap.objs.size T.a_law_right (.ref c))).units + 64 < cLine := by omega
  refine ⟨_, (pss_cons (ps_asg (pe_tup (pa_cons (pe_call G_law_no_luck (hr.mono (by decide)) (by rfl) T.g_law_no_luck T.F_law_no_luck.kp T.b_law_no_luck .nil pass0 (pa_cons (pv 0) pa_nil)) (pa_cons (pe_call G_law_no_index (hr.mono (by decide)) (by rfl) T.g_law_no_index T.F_law_no_index.kp T.b_law_no_index .nil pass0 (pa_cons (pv 0) pa_nil)) pa_nil))) (pg_tup rfl (pgs_cons (pg_name (i := 8) sc_law_right.nd rfl (.inr rfl)) (pgs_cons (pg_name (i := 7) sc_law_right.nd rfl (.inr rfl)) pgs_nil))))
  (pss_cons (ps_set (i := 9) sc_law_right.nd rfl (.inr rfl) (pe_call G_law_pick (hr.mono (by decide)) (by rfl) T.g_law_pick T.F_law_pick.kp T.b_law_pick .nil pass0 (pa_cons (pv 0) (pa_cons (pe_lst (pa_cons pe_non (pa_cons pe_int (pa_cons pe_int (pa_cons pe_bl (pa_cons pe_str (pa_cons (pe_un un_neg pe_int) (pa_cons (pe_op op_pow pe_int pe_int) pa_nil)))))))) pa_nil))))
  (pss_cons (ps_setLc (i := 2) (own := [("call", 1)]) (g := gName 1) (by rfl) sc_law_right.nd rfl rfl (sw_true rfl rfl rfl (by decide +kernel)) (pi_tup (pe_tup (pa_cons (pe_glob (v := .ref _) rfl T.g_next_luck rfl) (pa_cons (pe_glob (v := .ref _) rfl T.g_luck_ahead rfl) (pa_cons (pe_glob (v := .ref _) rfl T.g_stirred rfl) (pa_cons (pe_glob (v := .ref _) rfl T.g_unstirred rfl) pa_nil)))))) (blkOk_by (own := [("call", 1)]) (N := ["dice", "call", "told", "bad", "no", "some", "due", "index", "luck", "sides", "one"]) (sc := defScope s_law_right) (by decide +kernel)) (fun _ _ _ _ _ => pg_name (i := 1) sc_law_right.nd rfl (by first | exact Or.inl rfl | exact Or.inr rfl)) (fun _ _ _ _ _ => pts_nil) (fun _ _ _ _ _ => (pe_lamcall (T := TLs PR PL) (TT := TTmet K T.C_IL T.C_IN) rfl T.g_law_met T.F_law_met.kp lkM hcM hbM sc_law_met rfl (Or.inl rfl) (met_gives' T gd0 hu1 ⟨rfl, rfl, rfl, rfl⟩) TB rfl hmT huT (k := 8) (hr.mono (by decide)) (lamS_by (by kernel_rfl)) rfl (fun _ _ _ _ _ => rfl) (fun _ _ _ _ E _ _ hr => (pe_callX (i := 1) (S := SXr T) hSX (hr.mono (by decide)) rfl (by first | exact Or.inl rfl | exact Or.inr (Or.inl rfl) | exact Or.inr (Or.inr rfl)) (passes_call (W := fun cls d _ H => E cls d H) (takes_of rfl rfl rfl rfl) (fun _ _ _ _ h => h)) (pa_cons (pv 8) pa_nil))))))
  (pss_cons (ps_par (i := 3) (j := 4) (by rfl) sc_law_right.nd rfl rfl (by decide) rfl rfl (pa_cons (pe_tup (pa_cons pe_str (pa_cons pe_str pa_nil))) (pa_cons (pe_tup (pa_cons pe_str (pa_cons (pe_callB (c_reprD gd0 hu64) (by rfl) T.z_repr (by decide +kernel) (pa_cons (pv 7) pa_nil)) pa_nil))) pa_nil)) (by rfl))
  (pss_cons (ps_for PassesOwn.never rfl (pi_tup (pe_tup (pa_cons (pe_glob (v := .ref _) rfl T.g_luck_after rfl) (pa_cons (pe_glob (v := .ref _) rfl T.g_luck_before rfl) pa_nil)))) (pg_name (i := 1) sc_law_right.nd rfl (.inr rfl)) (pss_cons (ps_expr (pe_bm PySem.F.plainAttrs_list PySem.F.slot_list_append PySem.F.type_list_append mt_append (pv 2) (pa_cons (pe_lamcall (T := TLs PR PL) (TT := TTmet K T.C_IL T.C_IN) rfl T.g_law_met T.F_law_met.kp lkM hcM hbM sc_law_met rfl (Or.inl rfl) (met_gives' T gd0 hu1 ⟨rfl, rfl, rfl, rfl⟩) TB rfl hmT huT (k := 8) (hr.mono (by decide)) (lamS_by (by kernel_rfl)) rfl (fun _ _ _ _ _ => rfl) (fun _ _ _ _ E _ _ hr => (pe_callX (i := 1) (S := SXr T) hSX (hr.mono (by decide)) rfl (by first | exact Or.inl rfl | exact Or.inr (Or.inl rfl) | exact Or.inr (Or.inr rfl)) (passes_call (W := fun cls d _ H => E cls d H) (takes_of rfl rfl rfl rfl) (fun _ _ _ _ h => h)) (pa_cons (pv 8) (pa_cons (pv 7) pa_nil))))) pa_nil)))
  (pss_one (ps_expr (pe_bm PySem.F.plainAttrs_list PySem.F.slot_list_append PySem.F.type_list_append mt_append (pv 2) (pa_cons (pe_lamcall (T := TLs PR PL) (TT := TTmet K T.C_IL T.C_IN) rfl T.g_law_met T.F_law_met.kp lkM hcM hbM sc_law_met rfl (Or.inl rfl) (met_gives' T gd0 hu1 ⟨rfl, rfl, rfl, rfl⟩) TB rfl hmT huT (k := 8) (hr.mono (by decide)) (lamS_by (by kernel_rfl)) rfl (fun _ _ _ _ _ => rfl) (fun _ _ _ _ E _ _ hr => (pe_callX (i := 1) (S := SXr T) hSX (hr.mono (by decide)) rfl (by first | exact Or.inl rfl | exact Or.inr (Or.inl rfl) | exact Or.inr (Or.inr rfl)) (passes_call (W := fun cls d _ H => E cls d H) (takes_of rfl rfl rfl rfl) (fun _ _ _ _ h => h)) (pa_cons pe_int (pa_cons (pv 7) pa_nil))))) pa_nil))))))
  (pss_cons (ps_expr (pe_bm PySem.F.plainAttrs_list PySem.F.slot_list_append PySem.F.type_list_append mt_append (pv 2) (pa_cons (pe_lamcall (T := TLs PR PL) (TT := TTmet K T.C_IL T.C_IN) rfl T.g_law_met T.F_law_met.kp lkM hcM hbM sc_law_met rfl (Or.inl rfl) (met_gives' T gd0 hu1 ⟨rfl, rfl, rfl, rfl⟩) TB rfl hmT huT (k := 8) (hr.mono (by decide)) (lamS_by (by kernel_rfl)) rfl (fun _ _ _ _ _ => rfl) (fun _ _ _ _ E _ _ hr => (pe_call G_lucks_between (hr.mono (by decide)) (by rfl) T.g_lucks_between T.F_lucks_between.kp T.b_lucks_between .nil (passes_call (W := fun cls d _ H => E cls d H) (takes_of rfl rfl rfl rfl) (fun _ _ _ _ h => h)) (pa_cons (pv 8) (pa_cons (pv 7) pa_nil))))) pa_nil)))
  (pss_cons (ps_expr (pe_bm PySem.F.plainAttrs_list PySem.F.slot_list_append PySem.F.type_list_append mt_append (pv 2) (pa_cons (pe_lamcall (T := TLs PR PL) (TT := TTmet K T.C_IL T.C_IN) rfl T.g_law_met T.F_law_met.kp lkM hcM hbM sc_law_met rfl (Or.inl rfl) (met_gives' T gd0 hu1 ⟨rfl, rfl, rfl, rfl⟩) TB rfl hmT huT (k := 8) (hr.mono (by decide)) (lamS_by (by kernel_rfl)) rfl (fun _ _ _ _ _ => rfl) (fun _ _ _ _ E _ _ hr => (pe_call G_lucks_between (hr.mono (by decide)) (by rfl) T.g_lucks_between T.F_lucks_between.kp T.b_lucks_between .nil (passes_call (W := fun cls d _ H => E cls d H) (takes_of rfl rfl rfl rfl) (fun _ _ _ _ h => h)) (pa_cons pe_int (pa_cons (pv 8) pa_nil))))) pa_nil)))
  (pss_cons (ps_set (i := 5) sc_law_right.nd rfl (.inl rfl) (pe_lst (pa_cons (pe_tup (pa_cons (pv 8) (pa_cons (pv 7) (pa_cons pe_int (pa_cons pe_int pa_nil))))) (pa_cons (pe_tup (pa_cons pe_int (pa_cons (pv 7) (pa_cons (pv 8) (pa_cons pe_int pa_nil))))) (pa_cons (pe_tup (pa_cons pe_int (pa_cons pe_int (pa_cons (pv 7) (pa_cons pe_non pa_nil))))) (pa_cons (pe_tup (pa_cons pe_int (pa_cons pe_int (pa_cons pe_int (pa_cons (pv 7) pa_nil))))) pa_nil))))))
  (pss_cons (ps_set (i := 2) sc_law_right.nd rfl (.inl rfl) (pe_op op_cat (pv 2) (pe_lc (own := [("one", 10)]) (g := gName 10) (by rfl) sc_law_right.nd (pi_list (pv 5)) (blkOk_by (own := [("one", 10)]) (N := ["dice", "call", "told", "bad", "no", "some", "due", "index", "luck", "sides", "one"]) (sc := defScope s_law_right) (by decide +kernel)) (fun _ _ _ _ _ => pg_name (i := 10) sc_law_right.nd rfl (by first | exact Or.inl rfl | exact Or.inr rfl)) (fun _ _ _ _ _ => pts_nil) (fun _ _ _ _ _ => (pe_lamcall (T := TLs PR PL) (TT := TTmet K T.C_IL T.C_IN) rfl T.g_law_met T.F_law_met.kp lkM hcM hbM sc_law_met rfl (Or.inl rfl) (met_gives' T gd0 hu1 ⟨rfl, rfl, rfl, rfl⟩) TB rfl hmT huT (k := 8) (hr.mono (by decide)) (lamS_by (by kernel_rfl)) rfl (fun _ _ _ _ _ => rfl) (fun _ _ _ _ E _ _ hr => (pe_call G_spot_number (hr.mono (by decide)) (by rfl) T.g_spot_number T.F_spot_number.kp T.b_spot_number .nil (passes_call (W := fun cls d _ H => E cls d H) (takes_of rfl rfl rfl rfl) (fun _ _ _ _ h => h)) (pa_cons (pe_ix (ix_tupK (K := K) rfl) (pv 10) pe_int (fun _ _ => rfl)) (pa_cons (pe_ix (ix_tupK (K := K) rfl) (pv 10) pe_int (fun _ _ => rfl)) (pa_cons (pe_ix (ix_tupK (K := K) rfl) (pv 10) pe_int (fun _ _ => rfl)) (pa_cons (pe_ix (ix_tupK (K := K) rfl) (pv 10) pe_int (fun _ _ => rfl)) pa_nil)))))))))))
  (pss_cons (ps_set (i := 2) sc_law_right.nd rfl (.inl rfl) (pe_op op_cat (pv 2) (pe_lc (own := [("one", 10)]) (g := gName 10) (by rfl) sc_law_right.nd (pi_list (pe_slice sl_list (pv 5) po_none (po_some pe_int))) (blkOk_by (own := [("one", 10)]) (N := ["dice", "call", "told", "bad", "no", "some", "due", "index", "luck", "sides", "one"]) (sc := defScope s_law_right) (by decide +kernel)) (fun _ _ _ _ _ => pg_name (i := 10) sc_law_right.nd rfl (by first | exact Or.inl rfl | exact Or.inr rfl)) (fun _ _ _ _ _ => pts_nil) (fun _ _ _ _ _ => (pe_lamcall (T := TLs PR PL) (TT := TTmet K T.C_IL T.C_IN) rfl T.g_law_met T.F_law_met.kp lkM hcM hbM sc_law_met rfl (Or.inl rfl) (met_gives' T gd0 hu1 ⟨rfl, rfl, rfl, rfl⟩) TB rfl hmT huT (k := 8) (hr.mono (by decide)) (lamS_by (by kernel_rfl)) rfl (fun _ _ _ _ _ => rfl) (fun _ _ _ _ E _ _ hr => (pe_call G_turn_of (hr.mono (by decide)) (by rfl) T.g_turn_of T.F_turn_of.kp T.b_turn_of .nil (passes_call (W := fun cls d _ H => E cls d H) (takes_of rfl rfl rfl rfl) (fun _ _ _ _ h => h)) (pa_cons (pe_ix (ix_tupK (K := K) rfl) (pv 10) pe_int (fun _ _ => rfl)) (pa_cons (pe_ix (ix_tupK (K := K) rfl) (pv 10) pe_int (fun _ _ => rfl)) (pa_cons (pe_ix (ix_tupK (K := K) rfl) (pv 10) pe_int (fun _ _ => rfl)) (pa_cons (pv 8) pa_nil)))))))))))
  (pss_cons (ps_expr (pe_bm PySem.F.plainAttrs_list PySem.F.slot_list_append PySem.F.type_list_append mt_append (pv 2) (pa_cons (pe_lamcall (T := TLs PR PL) (TT := TTmet K T.C_IL T.C_IN) rfl T.g_law_met T.F_law_met.kp lkM hcM hbM sc_law_met rfl (Or.inl rfl) (met_gives' T gd0 hu1 ⟨rfl, rfl, rfl, rfl⟩) TB rfl hmT huT (k := 8) (hr.mono (by decide)) (lamS_by (by kernel_rfl)) rfl (fun _ _ _ _ _ => rfl) (fun _ _ _ _ E _ _ hr => (pe_call G_turn_of (hr.mono (by decide)) (by rfl) T.g_turn_of T.F_turn_of.kp T.b_turn_of .nil (passes_call (W := fun cls d _ H => E cls d H) (takes_of rfl rfl rfl rfl) (fun _ _ _ _ h => h)) (pa_cons pe_int (pa_cons pe_int (pa_cons pe_int (pa_cons (pv 8) pa_nil))))))) pa_nil)))
  (pss_cons (ps_set (i := 2) sc_law_right.nd rfl (.inl rfl) (pe_op op_cat (pv 2) (pe_lc (own := [("one", 10)]) (g := gName 10) (by rfl) sc_law_right.nd (pi_list (pv 5)) (blkOk_by (own := [("one", 10)]) (N := ["dice", "call", "told", "bad", "no", "some", "due", "index", "luck", "sides", "one"]) (sc := defScope s_law_right) (by decide +kernel)) (fun _ _ _ _ _ => pg_name (i := 10) sc_law_right.nd rfl (by first | exact Or.inl rfl | exact Or.inr rfl)) (fun _ _ _ _ _ => pts_nil) (fun _ _ _ _ _ => (pe_lamcall (T := TLs PR PL) (TT := TTmet K T.C_IL T.C_IN) rfl T.g_law_met T.F_law_met.kp lkM hcM hbM sc_law_met rfl (Or.inl rfl) (met_gives' T gd0 hu1 ⟨rfl, rfl, rfl, rfl⟩) TB rfl hmT huT (k := 8) (hr.mono (by decide)) (lamS_by (by kernel_rfl)) rfl (fun _ _ _ _ _ => rfl) (fun _ _ _ _ E _ _ hr => (pe_call G_drawn (hr.mono (by decide)) (by rfl) T.g_drawn T.F_drawn.kp T.b_drawn .nil (passes_call (W := fun cls d _ H => E cls d H) (takes_of rfl rfl rfl rfl) (fun _ _ _ _ h => h)) (pa_cons (pe_ix (ix_tupK (K := K) rfl) (pv 10) pe_int (fun _ _ => rfl)) (pa_cons (pe_ix (ix_tupK (K := K) rfl) (pv 10) pe_int (fun _ _ => rfl)) (pa_cons (pe_ix (ix_tupK (K := K) rfl) (pv 10) pe_int (fun _ _ => rfl)) (pa_cons (pe_ix (ix_tupK (K := K) rfl) (pv 10) pe_int (fun _ _ => rfl)) (pa_cons (pv 9) pa_nil))))))))))))
  (pss_cons (ps_expr (pe_bm PySem.F.plainAttrs_list PySem.F.slot_list_append PySem.F.type_list_append mt_append (pv 2) (pa_cons (pe_lamcall (T := TLs PR PL) (TT := TTmet K T.C_IL T.C_IN) rfl T.g_law_met T.F_law_met.kp lkM hcM hbM sc_law_met rfl (Or.inl rfl) (met_gives' T gd0 hu1 ⟨rfl, rfl, rfl, rfl⟩) TB rfl hmT huT (k := 8) (hr.mono (by decide)) (lamS_by (by kernel_rfl)) rfl (fun _ _ _ _ _ => rfl) (fun _ _ _ _ E _ _ hr => (pe_call G_drawn (hr.mono (by decide)) (by rfl) T.g_drawn T.F_drawn.kp T.b_drawn .nil (passes_call (W := fun cls d _ H => E cls d H) (takes_of rfl rfl rfl rfl) (fun _ _ _ _ h => h)) (pa_cons pe_int (pa_cons pe_int (pa_cons pe_int (pa_cons pe_int (pa_cons (pv 9) pa_nil)))))))) pa_nil)))
  (pss_cons (ps_set (i := 6) sc_law_right.nd rfl (.inl rfl) (pe_op op_cat (pe_op op_cat (pe_op op_cat (pe_op op_cat (pe_op op_cat (pe_op op_rep (pe_lst (pa_cons (pv 3) pa_nil)) pe_int) (pe_op op_rep (pe_lst (pa_cons (pv 3) (pa_cons (pv 4) pa_nil))) pe_int)) (pe_op op_rep (pe_lst (pa_cons (pv 3) pa_nil)) pe_int)) (pe_lst (pa_cons (pv 3) (pa_cons (pv 4) (pa_cons (pv 4) (pa_cons (pv 4) pa_nil)))))) (pe_lst (pa_cons (pv 3) (pa_cons (pv 4) (pa_cons (pv 4) (pa_cons (pv 3) pa_nil)))))) (pe_lst (pa_cons (pv 3) (pa_cons (pv 4) (pa_cons (pv 4) (pa_cons (pv 4) pa_nil)))))))
  (pss_one (ps_ret (pe_and (pe_cmpR (op_eqD hr.units) (pv 2) (pe_op op_cat (pv 6) (pe_lst (pa_cons (pe_tup (pa_cons pe_str (pa_cons (pe_callB (c_reprD gd0 hu64) (by rfl) T.z_repr (by decide +kernel) (pa_cons (pv 9) pa_nil)) pa_nil))) pa_nil))) (nomark _)) (pe_one (pe_not (pe_call G_is_luck (hr.mono (by decide)) (by rfl) T.g_is_luck T.F_is_luck.kp T.b_is_luck .nil pass0 (pa_cons (pv 8) pa_nil))))))))))))))))))))), ?_⟩
  refine ⟨.ref p, rfl, p, rfl, hd, fun lk H1 x1 d1 n1 => ⟨.ref p, rfl, p, rfl, d1, fun ix H2 x2 d2 n2 => ⟨sz_of (by show 2 ≤ 100000; decide), fun t ht => ⟨t, [lk, ix], rfl, st_of upd_same, rfl, lk, [ix], rfl, ix, [], rfl, rfl, ?_⟩⟩⟩⟩
  have n1 := n1.dc x2 d1
  have e3 : Ex H2 (upd H2 t (.tup [lk, ix])) := Ex.new ht
  refine q_asgDv (p := p) (i := 9) (dv_pickL (xs := [.non, .int 0, .int 1001, .bl true, .str "6", .int (-6), .int 1000000000000000000000000000000000000000000000000000000000000]) (R := fun v => v ∈ sdF) rfl (fun H1 _ _ => el_lst (by walk_at "ea") (by decide)) (fun l H1 _ _ hl h => ⟨l, _, rfl, hl, sq_of h, by decide, by decide, rfl⟩)) (d2.ex e3) fun sd H4 hsd x4 d4 => ?_
  have hT4 : Tabs (TLs PR PL) H4 := Tabs.xd x4 (d2.ex e3) ((Tabs.xd x2 d1 (Tabs.xd x1 hd hT)).ext e3)
  have nl : NoL lk H4 := (NoL.xn (xn_ex e3) n1).dc x4 (d2.ex e3)
  have ni : NoI ix H4 := (NoI.xn (xn_ex e3) n2).dc x4 (d2.ex e3)
  have base4 : ∀ b o, H b = some o → b ≠ p → H4 b = some o := fun b o hb hn => x4 b o hn (e3 _ _ (x2 b o hn (x1 b o hn hb)))
  obtain ⟨yi, ri, oki⟩ := NoI.rp (K := K) ni
  obtain ⟨ys, rs, oks⟩ := sd_rp (K := K) (H := H4) hsd
  clear n1 n2 x1 x2 x4 d1 d2 ht e3
  -- what is known from here on: lk, ix, sd in their cells
  have pl : ∀ {H' v}, v = lk ∨ v = ix ∨ v = sd ∨ v = .int 5 ∨ v = .int 0 ∨ v = .non → ExtN H4 H' → Plain K H' v := fun {H' v} h e => by
    rcases h with rfl | rfl | rfl | rfl | rfl | rfl
    · exact L2.Plain.xn e nl.pl
    · exact L2.Plain.xn e ni.pl
    · exact flat_pl (l := sdF) (by decide +kernel) hsd
    · exact pl_int
    · exact pl_int
    · exact pl_non
  refine q_asgM (zs := ["luck", "luck", "luck", "luck"]) (em_lcT hT4 (xs := [.ref T.a_next_luck, .ref T.a_luck_ahead, .ref T.a_stirred, .ref T.a_unstirred]) (eu_tup (ea_cons ev_c (ea_cons ev_c (ea_cons ev_c (ea_cons ev_c ea_nil)))) (by show 4 ≤ 100000; decide)) rfl (by show 4 ≤ 1000; decide) (fun _ => rfl) fun i x z H' hx hz e t => ?_) fun l H5 vs nw e5 t5 hl hv => ?_
  · have hz' : z = "luck" := by
      have := List.mem_of_getElem? hz
      simpa using this
    subst hz'
    have hf : ∃ f, x = .ref f ∧ (f = T.a_next_luck ∨ f = T.a_luck_ahead ∨ f = T.a_stirred ∨ f = T.a_unstirred) := by
      have := List.mem_of_getElem? hx
      simp only [List.mem_cons, List.not_mem_nil, or_false] at this
      rcases this with rfl | rfl | rfl | rfl
      · exact ⟨_, rfl, .inl rfl⟩
      · exact ⟨_, rfl, .inr (.inl rfl)⟩
      · exact ⟨_, rfl, .inr (.inr (.inl rfl))⟩
      · exact ⟨_, rfl, .inr (.inr (.inr rfl))⟩
    obtain ⟨f, rfl, hf⟩ := hf
    exact fun Q q => em_chkX (k := .luck) (v := lk) (y := yi) (vs := [lk]) rfl (.inl ⟨hf, rfl⟩) t (fun H1 e1 => ea_cons (ev_var rfl) ea_nil) rfl (fun u hu => pl (.inl (List.mem_singleton.mp hu)) e) (find_this nl.no) (.inl rfl) q
  have hu : ∀ {H'} {vs : List V}, (∀ u ∈ vs, u = lk ∨ u = ix ∨ u = sd ∨ u = .int 5 ∨ u = .int 0 ∨ u = .non) → ExtN H4 H' → ∀ u ∈ vs, Plain K H' u := fun h e u hu => pl (h u hu) e
  have z5 : Ck.luck.ok (.int 5) = true := by decide +kernel
  have z0 : Ck.whole.ok (.int 0) = true := by decide +kernel
  refine q_parUU (xs := [.str "refused", .str "luck"]) (ys := [.str "refused", .str yi.shown]) (eu_tup (ea_cons ev_c (ea_cons ev_c ea_nil)) (by show 2 ≤ 100000; decide)) (eu_tup (ea_cons ev_c (ea_cons (ev_cb (vs := [ix]) (ea_cons (ev_var rfl) ea_nil) (rc_reprD (ri.xn e5))) ea_nil)) (by show 2 ≤ 100000; decide)) fun b n H6 e6 hb hn => ?_
  have hl6 := e6 _ _ hl
  have hv6 := hv.xn (xn_ex e6)
  have t6 := t5.ext e6
  have x6 := e5.trans (xn_ex e6)
  have hb6 : SqT K H6 b _ := st_of hb
  have hn6 : SqT K H6 n _ := st_of hn
  clear hb hn hl hv t5 e5 e6
  let Pv : Nat → L2.St → Hp → Prop := fun i σ' H' => ∃ (q1 : Option V) (us : List V), σ' = [some (.ref p), q1, some (.ref l), some (.ref b), some (.ref n), none, none, some ix, some lk, some sd, none] ∧ ExtN H4 H' ∧ Tabs (TLs PR PL) H' ∧ H' l = some (.lst us) ∧ Tds K H' us (zB yi.shown i) ∧ SqT K H' b [.str "refused", .str "luck"] ∧ SqT K H' n [.str "refused", .str yi.shown]
  refine q_forU (xs := [.ref T.a_luck_after, .ref T.a_luck_before]) (eu_tup (ea_cons ev_c (ea_cons ev_c ea_nil)) (by show 2 ≤ 100000; decide)) Pv (fun H7 e7 => ⟨_, vs, rfl, x6.trans (xn_ex e7), t6.ext e7, e7 _ _ hl6, hv6.xn (xn_ex e7), ex_t e7 hb6, ex_t e7 hn6⟩) (fun a i x σ' H7 hx ha ⟨q1, us, hσ, e7, t7, hl7, hv7, hb7, hn7⟩ => ?_) fun σ' H7 ⟨q1, us, hσ, e7, t7, hl7, hv7, hb7, hn7⟩ => ?_
  · subst hσ
    have hS : ∃ (f : Addr) (fine : Prop), x = .ref f ∧ SXr T f (spChk K T.C_IL T.C_IN 2 (fun vs => [(.luck, vs.getD 0 .non), (.whole, vs.getD 1 .non)]) fine) := by
      have := List.mem_of_getElem? hx
      simp only [List.mem_cons, List.not_mem_nil, or_false] at this
      rcases this with rfl | rfl
      · exact ⟨_, True, rfl, .inr (.inl ⟨rfl, rfl⟩)⟩
      · exact ⟨_, False, rfl, .inr (.inr ⟨rfl, rfl⟩)⟩
    obtain ⟨f, fine, rfl, hS⟩ := hS
    have hi2 : i < 2 := (List.getElem?_eq_some_iff.mp hx).1
    have hlen := zB_l yi.shown (i := i) (by omega)
    refine q_app (TL := TLs PR PL) (z := "luck") (ev_var rfl) hl7 hv7 (by omega) (fun H8 e8 Q q => em_chkX (k := .luck) (v := lk) (y := yi) (vs := [lk, ix]) rfl hS (t7.ext e8) (fun H1 e1 => ea_cons (ev_var rfl) (ea_cons (ev_var rfl) ea_nil)) rfl (hu (by simp) (e7.trans (xn_ex e8))) (find_this nl.no) (.inl rfl) q) fun H8 us8 kp8 st8 t8 hl8 hv8 => ?_
    have e8 := keep_l nw e7 kp8
    refine s_app (TL := TLs PR PL) (z := yi.shown) (ev_var rfl) hl8 hv8 (by rw [List.length_append]; show _ + 1 ≤ 1000; omega) (fun H9 e9 Q q => em_chkX (k := .whole) (v := ix) (y := yi) (vs := [.int 5, ix]) rfl hS (t8.ext e9) (fun H1 e1 => ea_cons ev_c (ea_cons (ev_var rfl) ea_nil)) rfl (hu (by simp) (e8.trans (xn_ex e9))) ((find_next z5).trans (find_this ni.no)) (.inr (ri.xn (e8.trans (xn_ex e9)))) q) fun H9 us9 kp9 st9 t9 hl9 hv9 => ?_
    refine ⟨st9 _ _ (st8 _ _ ha), _, us9, rfl, keep_l nw e8 kp9, t9, hl9, ?_, st9 _ _ (st8 _ _ hb7), st9 _ _ (st8 _ _ hn7)⟩
    rw [zB_s _ hi2]
    exact hv9
  subst hσ
  clear hl6 hv6 t6 x6 hb6 hn6
  have hv7 : Tds K H7 us (zB yi.shown 2) := hv7
  refine q_app (TL := TLs PR PL) (z := "luck") (ev_var rfl) hl7 hv7 (by show 8 ≤ 1000; decide) (fun H8 e8 Q q => em_chk (k := .luck) (v := lk) (y := yi) (vs := [lk, ix]) (t7.ext e8) (fun H1 e1 => ea_cons (ev_var rfl) (ea_cons (ev_var rfl) ea_nil)) rfl (hu (by simp) (e7.trans (xn_ex e8))) (find_this nl.no) (.inl rfl) q) fun H8 us8 kp8 st8 t8 hl8 hv8 => ?_
  have e8 := keep_l nw e7 kp8
  refine q_app (TL := TLs PR PL) (z := "luck") (ev_var rfl) hl8 hv8 (by show 9 ≤ 1000; decide) (fun H9 e9 Q q => em_chk (k := .luck) (v := lk) (y := yi) (vs := [.int 5, lk]) (t8.ext e9) (fun H1 e1 => ea_cons ev_c (ea_cons (ev_var rfl) ea_nil)) rfl (hu (by simp) (e8.trans (xn_ex e9))) ((find_next z5).trans (find_this nl.no)) (.inl rfl) q) fun H9 us9 kp9 st9 t9 hl9 hv9 => ?_
  have e9 := keep_l nw e8 kp9
  have hb9 := st9 _ _ (st8 _ _ hb7)
  have hn9 := st9 _ _ (st8 _ _ hn7)
  clear hl7 hv7 t7 e7 hb7 hn7 kp8 kp9 st8 st9 hl8 hv8 t8 e8
  refine q_asgLP (ap_consU (xs := [lk, ix, .int 0, .int 0]) (eu_tup (ea_cons (ev_var rfl) (ea_cons (ev_var rfl) (ea_cons ev_c (ea_cons ev_c ea_nil)))) (by show 4 ≤ 100000; decide)) (ap_consU (xs := [.int 5, ix, lk, .int 0]) (eu_tup (ea_cons ev_c (ea_cons (ev_var rfl) (ea_cons (ev_var rfl) (ea_cons ev_c ea_nil)))) (by show 4 ≤ 100000; decide)) (ap_consU (xs := [.int 5, .int 0, ix, .non]) (eu_tup (ea_cons ev_c (ea_cons ev_c (ea_cons (ev_var rfl) (ea_cons ev_c ea_nil)))) (by show 4 ≤ 100000; decide)) (ap_consU (xs := [.int 5, .int 0, .int 0, ix]) (eu_tup (ea_cons ev_c (ea_cons ev_c (ea_cons ev_c (ea_cons (ev_var rfl) ea_nil)))) (by show 4 ≤ 100000; decide)) ap_nil)))) ?len fun vs10 H10 H11 sL e10 hP hn10 e11 h11 => ?_
  case len => rintro vs H1 ⟨s0, _, rfl, _, s1, _, rfl, _, s2, _, rfl, _, s3, _, rfl, _, rfl⟩; show 4 ≤ 100000; decide
  obtain ⟨s0, _, rfl, hs0, s1, _, rfl, hs1, s2, _, rfl, hs2, s3, _, rfl, hs3, rfl⟩ := hP
  have x11 := e10.trans e11
  have e11' := e9.trans (xn_ex x11)
  have k0 : SqT K H11 s0 [lk, ix, .int 0, .int 0] := st_of (e11 _ _ hs0)
  have k1 : SqT K H11 s1 [.int 5, ix, lk, .int 0] := st_of (e11 _ _ hs1)
  have k2 : SqT K H11 s2 [.int 5, .int 0, ix, .non] := st_of (e11 _ _ hs2)
  have k3 : SqT K H11 s3 [.int 5, .int 0, .int 0, ix] := st_of (e11 _ _ hs3)
  have kL : SqL K H11 sL [.ref s0, .ref s1, .ref s2, .ref s3] := sq_of h11
  have hb11 := ex_t x11 hb9
  have hn11 := ex_t x11 hn9
  have t11 := t9.ext x11
  have hl11 := x11 _ _ hl9
  have hv11 := hv9.xn (xn_ex x11)
  clear hs0 hs1 hs2 hs3 hb9 hn9 t9 hl9 hv9 e9 e10 e11 x11 hn10
  -- spot_number
  refine q_asgM (em_cat (TL := TLs PR PL) (ys := ["luck", yi.shown, yi.shown, yi.shown]) (ev_var rfl) hl11 hv11 (by show 10 ≤ 1000; decide) (by show 4 ≤ 1000; decide) fun H12 e12 => em_lcL (xs := [.ref s0, .ref s1, .ref s2, .ref s3]) (t11.ext e12) (evv_of (ev_var rfl) (ex_l e12 kL)) rfl (by show 4 ≤ 1000; decide) (fun _ => rfl) fun i x z H' hx hz e t => ?_) fun l2 H12 us12 nw12 e12 t12 hl12 hv12 => ?_
  · have eH := (xn_ex e12).trans e
    have e4 := e11'.trans eH
    match i, hx, hz with
    | 0, hx, hz =>
      cases hx; cases hz
      exact fun Q q => em_chk (k := .luck) (v := lk) (y := yi) (vs := [lk, ix, .int 0, .int 0]) t (fun H1 e1 => ea_ix4 rfl (xn_t (eH.trans e1) k0) tNil [] ea_nil) rfl (hu (by simp) e4) (find_this nl.no) (.inl rfl) q
    | 1, hx, hz =>
      cases hx; cases hz
      exact fun Q q => em_chk (k := .whole) (v := ix) (y := yi) (vs := [.int 5, ix, lk, .int 0]) t (fun H1 e1 => ea_ix4 rfl (xn_t (eH.trans e1) k1) tNil [] ea_nil) rfl (hu (by simp) e4) ((find_next z5).trans (find_this ni.no)) (.inr (ri.xn e4)) q
    | 2, hx, hz =>
      cases hx; cases hz
      exact fun Q q => em_chk (k := .whole) (v := ix) (y := yi) (vs := [.int 5, .int 0, ix, .non]) t (fun H1 e1 => ea_ix4 rfl (xn_t (eH.trans e1) k2) tNil [] ea_nil) rfl (hu (by simp) e4) ((find_next z5).trans ((find_next z0).trans (find_this ni.no))) (.inr (ri.xn e4)) q
    | 3, hx, hz =>
      cases hx; cases hz
      exact fun Q q => em_chk (k := .whole) (v := ix) (y := yi) (vs := [.int 5, .int 0, .int 0, ix]) t (fun H1 e1 => ea_ix4 rfl (xn_t (eH.trans e1) k3) tNil [] ea_nil) rfl (hu (by simp) e4) ((find_next z5).trans ((find_next z0).trans ((find_next z0).trans (find_this ni.no)))) (.inr (ri.xn e4)) q
    | n + 4, hx, _ => cases hx
  have e12' := e11'.trans e12
  -- turn_of
  refine q_asgM (em_cat (TL := TLs PR PL) (ys := ["luck", yi.shown, yi.shown]) (ev_var rfl) hl12 hv12 (by show 14 ≤ 1000; decide) (by show 3 ≤ 1000; decide) fun H13 e13 => em_lcL (xs := [.ref s0, .ref s1, .ref s2]) (t12.ext e13) (evv_l (by
      have := el_sl (lo := none) (hi := some ((3 : Nat) : Int)) (ev_var (i := 5) (σ := [some (.ref p), q1, some (.ref l2), some (.ref b), some (.ref n), some (.ref sL), none, some ix, some lk, some sd, none]) rfl) eo_none (eo_some ev_c) (ex_l e13 (xn_l e12 kL))
      rw [cut_3] at this
      exact this)) rfl (by show 3 ≤ 1000; decide) (fun _ => rfl) fun i x z H' hx hz e t => ?_) fun l3 H13 us13 nw13 e13 t13 hl13 hv13 => ?_
  · have eH := e12.trans ((xn_ex e13).trans e)
    have e4 := e11'.trans eH
    match i, hx, hz with
    | 0, hx, hz =>
      cases hx; cases hz
      exact fun Q q => em_chk (k := .luck) (v := lk) (y := yi) (vs := [lk, ix, .int 0, lk]) t (fun H1 e1 => ea_ix3 rfl (xn_t (eH.trans e1) k0) _ [lk] (ea_cons (ev_var rfl) ea_nil)) rfl (hu (by simp) e4) (find_this nl.no) (.inl rfl) q
    | 1, hx, hz =>
      cases hx; cases hz
      exact fun Q q => em_chk (k := .whole) (v := ix) (y := yi) (vs := [.int 5, ix, lk, lk]) t (fun H1 e1 => ea_ix3 rfl (xn_t (eH.trans e1) k1) _ [lk] (ea_cons (ev_var rfl) ea_nil)) rfl (hu (by simp) e4) ((find_next z5).trans (find_this ni.no)) (.inr (ri.xn e4)) q
    | 2, hx, hz =>
      cases hx; cases hz
      exact fun Q q => em_chk (k := .whole) (v := ix) (y := yi) (vs := [.int 5, .int 0, ix, lk]) t (fun H1 e1 => ea_ix3 rfl (xn_t (eH.trans e1) k2) _ [lk] (ea_cons (ev_var rfl) ea_nil)) rfl (hu (by simp) e4) ((find_next z5).trans ((find_next z0).trans (find_this ni.no))) (.inr (ri.xn e4)) q
    | n + 3, hx, _ => cases hx
  have e13' := e12'.trans e13
  have nw3 : Nw H4 l3 := Nw.back e12' nw13
  refine q_app (TL := TLs PR PL) (z := "luck") (ev_var rfl) hl13 hv13 (by show 17 ≤ 1000; decide) (fun H14 e14 Q q => em_chk (k := .luck) (v := lk) (y := yi) (vs := [.int 5, .int 0, .int 0, lk]) (t13.ext e14) (fun H1 e1 => ea_cons ev_c (ea_cons ev_c (ea_cons ev_c (ea_cons (ev_var rfl) ea_nil)))) rfl (hu (by simp) (e13'.trans (xn_ex e14))) ((find_next z5).trans ((find_next z0).trans ((find_next z0).trans (find_this nl.no)))) (.inl rfl) q) fun H14 us14 kp14 st14 t14 hl14 hv14 => ?_
  have e14' := keep_l nw3 e13' kp14
  have j0 := st14 _ _ (xn_t (e12.trans e13) k0)
  have j1 := st14 _ _ (xn_t (e12.trans e13) k1)
  have j2 := st14 _ _ (xn_t (e12.trans e13) k2)
  have j3 := st14 _ _ (xn_t (e12.trans e13) k3)
  have jb := st14 _ _ (xn_t (e12.trans e13) hb11)
  have jn := st14 _ _ (xn_t (e12.trans e13) hn11)
  have jL : SqL K H14 sL [.ref s0, .ref s1, .ref s2, .ref s3] := sq_of (kp14 _ _ ((e12.trans e13) _ _ h11 fun _ z => by cases z) (fun z => by subst z; obtain ⟨ps, w⟩ := nw13 _ (e12 _ _ h11 fun _ z => by cases z); cases w) fun _ z => by cases z)
  clear hl13 hv13 t13 hl12 hv12 t12 hl11 hv11 t11 k0 k1 k2 k3 hb11 hn11
  -- drawn
  refine q_asgM (em_cat (TL := TLs PR PL) (ys := ["luck", yi.shown, yi.shown, yi.shown]) (ev_var rfl) hl14 hv14 (by show 18 ≤ 1000; decide) (by show 4 ≤ 1000; decide) fun H15 e15 => em_lcL (xs := [.ref s0, .ref s1, .ref s2, .ref s3]) (t14.ext e15) (evv_of (ev_var rfl) (ex_l e15 jL)) rfl (by show 4 ≤ 1000; decide) (fun _ => rfl) fun i x z H' hx hz e t => ?_) fun l4 H15 us15 nw15 e15 t15 hl15 hv15 => ?_
  · have eH := (xn_ex e15).trans e
    have e4 := e14'.trans eH
    match i, hx, hz with
    | 0, hx, hz =>
      cases hx; cases hz
      exact fun Q q => em_chk (k := .luck) (v := lk) (y := yi) (vs := [lk, ix, .int 0, .int 0, sd]) t (fun H1 e1 => ea_ix4 rfl (xn_t (eH.trans e1) j0) _ [sd] (ea_cons (ev_var rfl) ea_nil)) rfl (hu (by simp) e4) (find_this nl.no) (.inl rfl) q
    | 1, hx, hz =>
      cases hx; cases hz
      exact fun Q q => em_chk (k := .whole) (v := ix) (y := yi) (vs := [.int 5, ix, lk, .int 0, sd]) t (fun H1 e1 => ea_ix4 rfl (xn_t (eH.trans e1) j1) _ [sd] (ea_cons (ev_var rfl) ea_nil)) rfl (hu (by simp) e4) ((find_next z5).trans (find_this ni.no)) (.inr (ri.xn e4)) q
    | 2, hx, hz =>
      cases hx; cases hz
      exact fun Q q => em_chk (k := .whole) (v := ix) (y := yi) (vs := [.int 5, .int 0, ix, .non, sd]) t (fun H1 e1 => ea_ix4 rfl (xn_t (eH.trans e1) j2) _ [sd] (ea_cons (ev_var rfl) ea_nil)) rfl (hu (by simp) e4) ((find_next z5).trans ((find_next z0).trans (find_this ni.no))) (.inr (ri.xn e4)) q
    | 3, hx, hz =>
      cases hx; cases hz
      exact fun Q q => em_chk (k := .whole) (v := ix) (y := yi) (vs := [.int 5, .int 0, .int 0, ix, sd]) t (fun H1 e1 => ea_ix4 rfl (xn_t (eH.trans e1) j3) _ [sd] (ea_cons (ev_var rfl) ea_nil)) rfl (hu (by simp) e4) ((find_next z5).trans ((find_next z0).trans ((find_next z0).trans (find_this ni.no)))) (.inr (ri.xn e4)) q
    | n + 4, hx, _ => cases hx
  have e15' := e14'.trans e15
  have nw4 : Nw H4 l4 := Nw.back e14' nw15
  refine q_app (TL := TLs PR PL) (z := ys.shown) (ev_var rfl) hl15 hv15 (by show 22 ≤ 1000; decide) (fun H16 e16 Q q => em_chk (k := .sides) (v := sd) (y := ys) (vs := [.int 5, .int 0, .int 0, .int 0, sd]) (t15.ext e16) (fun H1 e1 => ea_cons ev_c (ea_cons ev_c (ea_cons ev_c (ea_cons ev_c (ea_cons (ev_var rfl) ea_nil))))) rfl (hu (by simp) (e15'.trans (xn_ex e16))) ((find_next z5).trans ((find_next z0).trans ((find_next z0).trans ((find_next z0).trans (find_this (sd_no hsd)))))) (.inr (rs.xn (e15'.trans (xn_ex e16)))) q) fun H16 us16 kp16 st16 t16 hl16 hv16 => ?_
  have e16' := keep_l nw4 e15' kp16
  have jb := st16 _ _ (xn_t e15 jb)
  have jn := st16 _ _ (xn_t e15 jn)
  -- due
  have B1 : ∀ {σ : L2.St} {H'}, σ[3]? = some (some (.ref b)) → EvL (tLst (tCons (tVar 3) tNil)) σ H' [.ref b] := fun h => el_lst (ea_cons (ev_var h) ea_nil) (by show 1 ≤ 100000; decide)
  refine q_asgL (xs := [.ref b, .ref b, .ref b, .ref b, .ref b, .ref n, .ref b, .ref n, .ref b, .ref b, .ref b, .ref n, .ref n, .ref n, .ref b, .ref n, .ref n, .ref b, .ref b, .ref n, .ref n, .ref n]) (el_cat (el_cat (el_cat (el_cat (el_cat (el_rep (n := 4) (B1 rfl) ev_c (by show 4 ≤ 100000; decide) (by decide)) (el_rep (n := 2) (el_lst (ea_cons (ev_var rfl) (ea_cons (ev_var rfl) ea_nil)) (by show 2 ≤ 100000; decide)) ev_c (by show 4 ≤ 100000; decide) (by decide)) (by show 8 ≤ 100000; decide)) (el_rep (n := 2) (B1 rfl) ev_c (by show 2 ≤ 100000; decide) (by decide)) (by show 10 ≤ 100000; decide)) (el_lst (ea_cons (ev_var rfl) (ea_cons (ev_var rfl) (ea_cons (ev_var rfl) (ea_cons (ev_var rfl) ea_nil)))) (by show 4 ≤ 100000; decide)) (by show 14 ≤ 100000; decide)) (el_lst (ea_cons (ev_var rfl) (ea_cons (ev_var rfl) (ea_cons (ev_var rfl) (ea_cons (ev_var rfl) ea_nil)))) (by show 4 ≤ 100000; decide)) (by show 18 ≤ 100000; decide)) (el_lst (ea_cons (ev_var rfl) (ea_cons (ev_var rfl) (ea_cons (ev_var rfl) (ea_cons (ev_var rfl) ea_nil)))) (by show 4 ≤ 100000; decide)) (by show 22 ≤ 100000; decide)) fun du H17 _ e17 hdu => ?_
  have b17 := ex_t e17 jb
  have n17 := ex_t e17 jn
  have hDue : Tds K H17 _ ["luck", "luck", "luck", "luck", "luck", yi.shown, "luck", yi.shown, "luck", "luck", "luck", yi.shown, yi.shown, yi.shown, "luck", yi.shown, yi.shown, "luck", "luck", yi.shown, yi.shown, yi.shown] := .cons b17 (.cons b17 (.cons b17 (.cons b17 (.cons b17 (.cons n17 (.cons b17 (.cons n17 (.cons b17 (.cons b17 (.cons b17 (.cons n17 (.cons n17 (.cons n17 (.cons b17 (.cons n17 (.cons n17 (.cons b17 (.cons b17 (.cons n17 (.cons n17 (.cons n17 .nil)))))))))))))))))))))
  have hv17 : Tds K H17 us16 ((["luck", "luck", "luck", "luck", "luck", yi.shown, "luck", yi.shown, "luck", "luck", "luck", yi.shown, yi.shown, yi.shown, "luck", yi.shown, yi.shown, "luck", "luck", yi.shown, yi.shown, yi.shown] : List Str) ++ ([ys.shown] : List Str)) := hv16.xn (xn_ex e17)
  have hl17 := e17 _ _ hl16
  have e17' := e16'.trans (xn_ex e17)
  generalize hZ : (["luck", "luck", "luck", "luck", "luck", yi.shown, "luck", yi.shown, "luck", "luck", "luck", yi.shown, yi.shown, yi.shown, "luck", yi.shown, yi.shown, "luck", "luck", yi.shown, yi.shown, yi.shown] : List Str) = Z at hv17 hDue
  have hok : ∀ z ∈ Z ++ ([ys.shown] : List Str), PyData.strOk z = true := fun z hz => by
    have h3 : z = "luck" ∨ z = yi.shown ∨ z = ys.shown := by
      rw [← hZ] at hz
      simp only [List.mem_append, List.mem_cons, List.not_mem_nil, or_false] at hz
      rcases hz with (h | h | h | h | h | h | h | h | h | h | h | h | h | h | h | h | h | h | h | h | h | h) | h <;> simp [h]
    rcases h3 with rfl | rfl | rfl
    · decide +kernel
    · exact oki
    · exact oks
  have hZl : Z.length ≤ 1000 := by rw [← hZ]; show 22 ≤ 1000; decide
  refine s_ret (v := .bl true) (ev_is (ev_andV (a := true) (b := true) (ev_is (ev_eqD (d := .list ((Z ++ [ys.shown]).map tdD)) (e := .list ((Z ++ [ys.shown]).map tdD)) (evd_of (ev_var rfl) fun H1 e1 => .lst (sq_of (e1 _ _ hl17)) (Tds.dpa (hv17.xn (xn_ex e1)))) (evd_catV (ev_var rfl) hdu hDue hZl (eu_tup (ea_cons ev_c (ea_cons (ev_cb (vs := [sd]) (ea_cons (ev_var rfl) ea_nil) (rc_reprD (rs.xn e17'))) ea_nil)) (by show 2 ≤ 100000; decide))) (shaped_tds hok) (shaped_tds hok)) (congrArg V.bl (eqvAll_tds _))) fun _ => ev_is (ev_notV (a := false) (ev_callP (vs := [lk]) (ea_cons (ev_var rfl) ea_nil) fun H1 e1 => ⟨lk, rfl, pl (.inl rfl) (e17'.trans (xn_ex e1)), congrArg V.bl nl.no.symm⟩)) rfl) rfl) fun H18 e18 => q H18 (fun b o hb hn ho => (e17'.trans (xn_ex e18)) _ _ (base4 b o hb hn) ho) ?_ ((t16.ext e17).ext e18)
  obtain ⟨x, y, z, hd4⟩ := d4
  exact ⟨x, y, z, (e17'.trans (xn_ex e18)) _ _ hd4 fun _ z => by cases z⟩
end
end Kz
set_option Elab.async false
set_option linter.all false
set_option maxRecDepth 100000
set_option maxHeartbeats 4000000
set_option exponentiation.threshold 500
namespace Kz
open PySem PySem.Spec PyProof.Rows L2 Evl Vr
local macro_rules | `(tactic| walk_at "sc") => `(tactic| first | (with_reducible assumption) | (with_reducible exact sc_mul (by omega)) | (with_reducible exact sc_mulr (by omega)) | (with_reducible exact sc_div (by omega) (by decide)) | (show (0 : Int) < _; omega) | (show _ ≠ (0 : Int); omega) | (with_reducible rfl) | decide)
local macro_rules | `(tactic| walk_at "sq") => `(tactic| first | assumption | exact sq_of (by assumption) | exact st_of (by assumption))
local macro_rules | `(tactic| walk_at "pl") => `(tactic| first | assumption | exact pl_int | exact pl_bl | exact pl_str | exact pl_non | exact pl_lst (by assumption) | exact pl_tup (by assumption) | exact pl_dK (by assumption))
local macro_rules | `(tactic| walk_at "rv") => `(tactic| first
  | with_reducible exact rv_I0
  | with_reducible exact ru_neg
  | ((with_reducible apply rv_I); walk_at "sc")
  | ((with_reducible apply rv_ixL); walk_at "sq"; first | rfl | assumption)
  | ((with_reducible apply rv_ixT); walk_at "sq"; first | rfl | assumption)
  | ((with_reducible apply rv_eq); rfl) | ((with_reducible apply rv_ne); rfl))
local macro_rules | `(tactic| walk_at "rc") => `(tactic| first
  | with_reducible exact rc_I1 | with_reducible exact rc_B1 | with_reducible exact rc_I2 | ((with_reducible apply rc_repr); walk_at "sc") | ((with_reducible apply rc_lenL); walk_at "sq")
  | ((with_reducible apply rc_isiInt); walk_at "pl") | ((with_reducible apply rc_isiBool); walk_at "pl"))
local macro_rules | `(tactic| walk_at "ea") => `(tactic| first
  | with_reducible exact ea_nil | ((with_reducible apply ea_cons); walk_at "ev"; walk_at "ea"))
local macro_rules | `(tactic| walk_at "pow") => `(tactic| first
  | with_reducible exact ev_pow (a := 10) (b := 9) (c := 1000000000) (by decide +kernel) (by decide +kernel)
  | with_reducible exact ev_pow (a := 10) (b := 10) (c := 10000000000) (by decide +kernel) (by decide +kernel)
  | with_reducible exact ev_pow (a := 10) (b := 12) (c := 1000000000000) (by decide +kernel) (by decide +kernel)
  | with_reducible exact ev_pow (a := 10) (b := 17) (c := 100000000000000000) (by decide +kernel) (by decide +kernel)
  | with_reducible exact ev_pow (a := 10) (b := 20) (c := 100000000000000000000) (by decide +kernel) (by decide +kernel)
  | with_reducible exact ev_pow (a := 10) (b := 29) (c := 100000000000000000000000000000) (by decide +kernel) (by decide +kernel)
  | with_reducible exact ev_pow (a := 10) (b := 30) (c := 1000000000000000000000000000000) (by decide +kernel) (by decide +kernel)
  | with_reducible exact ev_pow (a := 10) (b := 40) (c := 10000000000000000000000000000000000000000) (by decide +kernel) (by decide +kernel)
  | with_reducible exact ev_pow (a := 10) (b := 57) (c := 1000000000000000000000000000000000000000000000000000000000) (by decide +kernel) (by decide +kernel)
  | with_reducible exact ev_pow (a := 10) (b := 58) (c := 10000000000000000000000000000000000000000000000000000000000) (by decide +kernel) (by decide +kernel)
  | with_reducible exact ev_pow (a := 10) (b := 59) (c := 100000000000000000000000000000000000000000000000000000000000) (by decide +kernel) (by decide +kernel)
  | with_reducible exact ev_pow (a := 10) (b := 60) (c := 1000000000000000000000000000000000000000000000000000000000000) (by decide +kernel) (by decide +kernel))
local macro_rules | `(tactic| walk_at "call") => `(tactic| (intro H9 e9; first | exact ⟨_, rfl, rfl⟩ | exact ⟨_, _, rfl, rfl⟩ | exact ⟨_, _, _, rfl, rfl⟩ | exact ⟨_, rfl, by walk_at "pl", rfl⟩ | (refine ⟨_, _, _, rfl, ?_, rfl⟩; first | exact Plain.ex e9 (by assumption) | walk_at "pl") | (refine ⟨_, rfl, ?_, rfl⟩; first | exact Plain.ex e9 (by assumption) | walk_at "pl")))
local macro_rules | `(tactic| walk_at "ev") => `(tactic| first
  | with_reducible exact ev_c
  | exact ev_var rfl
  | walk_at "pow"
  | ((with_reducible apply ev_op); walk_at "ev"; walk_at "ev"; walk_at "rv")
  | ((with_reducible apply ev_un); walk_at "ev"; walk_at "rv")
  | ((with_reducible apply ev_cb); walk_at "ea"; walk_at "rc")
  | ((with_reducible apply ev_callP); walk_at "ea"; walk_at "call")
  | ((with_reducible apply ev_chain); walk_at "ev"; walk_at "ev"; walk_at "rv"; walk_at "ev"; walk_at "rv")
  | ((with_reducible apply ev_andV); walk_at "ev"; intro _; walk_at "ev")
  | ((with_reducible apply ev_orV); walk_at "ev"; intro _; walk_at "ev")
  | ((with_reducible apply ev_ite); walk_at "et"; intro _; walk_at "ev"; intro _; walk_at "ev")
  | ((with_reducible apply ev_notV); walk_at "ev"))
local macro_rules | `(tactic| walk_at "et") => `(tactic| first
  | ((with_reducible apply et_test); walk_at "ev")
  | ((with_reducible apply et_B); walk_at "ev")
  | ((with_reducible apply et_and); walk_at "et"; intro _; walk_at "et")
  | ((with_reducible apply et_or); walk_at "et"; intro _; walk_at "et")
  | ((with_reducible apply et_not); walk_at "et"))
open LamX Wo
section
variable {σ : L2.St} {H : Hp} {tz : TS} {D : Ends}
theorem q_asgCall {sp : Sp} {E : XK} {ts : TA} {vs : List V} {i : Nat} (h : EvA ts σ H vs) (k : ∀ H1, Ex H H1 → sp vs H1 (fun v H2 => tz D (σ.set i (some v)) H2) E) : tSeq (tAsg (tCall sp [] E ts) (gName i)) tz D σ H := h H (Ex.refl H) _ fun H1 e1 => by
  show sp (vs ++ []) H1 _ E
  rw [List.append_nil]
  exact k H1 e1
variable {K : PySem.W.Frag} {TL : List (Addr × Str)} {PR PL p : Addr} {CL CN : Addr} {xs : List V}
def KN (p : Addr) (H H1 : Hp) : Prop := ∀ b o, H b = some o → b ≠ p → (∀ ps, o ≠ .tbl ps) → H1 b = some o
/-- if not right(dice) or not right(dice): return False -/
theorem if_right2 {E : XK} {tu : TS} {i : Nat} (hs : σ[i]? = some (some (.ref p))) (d : Dice p H) (t : Tabs (TLs PR PL) H) (k : ∀ H2, KN p H H2 → Tabs (TLs PR PL) H2 → D.nx σ H2) :
    tIfS (tOr (tNot (tB (tCall (spRight K PR PL) [] E (tCons (tVar i) tNil)))) (tNot (tB (tCall (spRight K PR PL) [] E (tCons (tVar i) tNil))))) tu tNext D σ H :=
  ⟨.ref p, hs, ⟨p, rfl, d, t, fun H1 k1 d1 t1 => ⟨true, rfl, by
    show (if (!true) = true then _ else _)
    rw [if_neg (by decide)]
    exact ⟨.ref p, hs, ⟨p, rfl, d1, t1, fun H2 k2 d2 t2 => ⟨true, rfl, by
      show (if (!true) = true then tu D σ H2 else tNext D σ H2)
      rw [if_neg (by decide)]
      exact k H2 (fun b o hb hn ho => k2 b o (k1 b o hb hn ho) hn ho) t2⟩⟩⟩⟩⟩⟩
/-- tm makes a new tuple of xs -/
def EmX (K : PySem.W.Frag) (TL : List (Addr × Str)) (tm : TE) (σ : L2.St) (H : Hp) (xs : List V) : Prop := ∀ Q : VK, (∀ t H2, ExtN H H2 → Tabs TL H2 → SqT K H2 t xs → Q (.ref t) H2) → tm σ H Q
/-- a call that fails at no check -/
theorem emF {n : Nat} {f : List V → List (Ck × V)} {vs : List V} {ts : TA} (hT : Tabs TL H) (ha : ∀ H1, ExtN H H1 → EvA ts σ H1 vs) (hn : vs.length = n) (hp : ∀ u ∈ vs, ∀ H', Plain K H' u) (hf : (f vs).find? (fun p => !p.1.ok p.2) = none) : EmX K TL (tLam TL (TTmet K CL CN) (fun E => tCall (spChk K CL CN n f True) [] E ts)) σ H [.str "fine"] := fun Q q =>
  ⟨hT, fun H1 e1 t1 => ha H1 e1 H1 (Ex.refl H1) _ fun H2 e2 => by
    show spChk K CL CN n f True (vs ++ []) H2 _ _
    rw [List.append_nil]
    refine ⟨hn, fun u hu => hp u hu H2, ?_⟩
    rw [hf]
    exact ⟨trivial, fun z H3 e3 => ⟨sz_of (by show 1 ≤ 100000; decide), fun t ht => q t _ (e1.trans (xn_ex ((e2.trans e3).trans (Ex.new ht)))) (t1.ext ((e2.trans e3).trans (Ex.new ht))) (st_of upd_same)⟩⟩⟩
theorem q_appX {te tm : TE} {l : Addr} {vs : List V} (h : Ev te σ H (.ref l)) (hl : H l = some (.lst vs)) (hz : vs.length ≤ 1000) (hm : ∀ H1, Ex H H1 → EmX K TL tm σ H1 xs)
    (k : ∀ t H2, (∀ b ys, SqT K H b ys → SqT K H2 b ys) → Tabs TL H2 → H2 l = some (.lst (vs ++ [.ref t])) → SqT K H2 t xs → tz D σ H2) : tSeq (tDrop (tBM K "list" rAppend te (tCons tm tNil))) tz D σ H :=
  h H (Ex.refl H) _ fun H1 e1 => ⟨.inl ⟨rfl, _, sq_of (e1 _ _ hl)⟩, hm H1 e1 _ fun t H2 e2 t2 h2 => by
    have e := (xn_ex e1).trans e2
    have hl2 : H2 l = some (.lst vs) := e _ _ hl fun _ z => by cases z
    refine ⟨l, vs, .ref t, rfl, rfl, hl2, sz_lt (by omega), k t _ (fun b ys hb => sqt_up hl2 (xn_t e hb)) (fun q hq => ?_) upd_same (sqt_up hl2 h2)⟩
    obtain ⟨ps, h1, h3, h4⟩ := t2 q hq
    refine ⟨ps, by rw [upd_ne (fun z => by rw [z, hl2] at h1; cases h1)]; exact h1, h3, fun pos cv hc => ?_⟩
    obtain ⟨c, h5, h6⟩ := h4 pos cv hc
    exact ⟨c, h5, by rw [upd_ne (fun z => by rw [z, hl2] at h6; cases h6)]; exact h6⟩⟩
theorem q_lst1 {tm : TE} {i : Nat} (hm : EmX K TL tm σ H xs) (k : ∀ l t H2, Tabs TL H2 → H2 l = some (.lst [.ref t]) → SqT K H2 t xs → tz D (σ.set i (some (.ref l))) H2) : tSeq (tAsg (tLst (tCons tm tNil)) (gName i)) tz D σ H :=
  hm _ fun t H2 e2 t2 h2 => ⟨sz_of (by show 1 ≤ 100000; decide), fun l hl => k l t _ (t2.ext (Ex.new hl)) upd_same (ex_t (Ex.new hl) h2)⟩
theorem evd_rep3 {tt : TE} {d : PyData} {ys : List V} (h : EvU tt σ H ys) (hd : ∀ H1 t, SqT K H1 t ys → Dp K H1 (.ref t) d) : EvD K (tOp rRep (tLst (tCons tt tNil)) (tC (.int 3))) σ H (.list [d, d, d]) := fun H1 e Q q =>
  h H1 e _ fun t H2 _ e2 h2 => ⟨sz_of (by show 1 ≤ 100000; decide), fun l hl => ⟨l, 3, [.ref t], rfl, rfl, upd_same, by decide, by decide, sz_of (by show 3 ≤ 100000; decide), fun r hr => by
    have hs : SqT K (upd (upd H2 l (.lst [.ref t])) r (.lst (List.replicate (3 : Int).toNat [.ref t]).flatten)) t ys := st_of (Ex.new hr _ _ (Ex.new hl _ _ h2))
    exact q _ _ ((e2.trans (Ex.new hl)).trans (Ex.new hr)) (.lst (sq_of upd_same) (.cons (hd _ _ hs) (.cons (hd _ _ hs) (.cons (hd _ _ hs) .nil))))⟩⟩
theorem el_lcU {t : TT} {te tl : TE} {j : Nat} {vs : List Nat} (f : Nat → Bool) (v : Nat → V) (h : EvU tl σ H xs) (hz : xs.length ≤ 40000) (hw : ∀ x, wipe ((wipe σ vs).set j (some x)) vs = wipe σ vs)
    (ht : ∀ (i : Nat) (x : V) H1, Ex H H1 → xs[i]? = some x → EvT t ((wipe σ vs).set j (some x)) H1 (f i)) (he : ∀ (i : Nat) (x : V) H1, Ex H H1 → xs[i]? = some x → f i = true → Ev te ((wipe σ vs).set j (some x)) H1 (v i)) :
    EvL (tLc (iTup K tl) (gName j) t te vs) σ H (given xs.length f v) := fun H0 e Q q => h H0 e _ fun a H1 ha e1 h1 => ⟨a, rfl, ⟨xs, st_of h1⟩, fun Dl hD =>
  lc_tup (xs := xs) (Cw H1 f v Dl) ⟨hD, Ex.new hD, upd_same⟩ (fun i H' _ p => ex_t p.2.1 (st_of h1)) (fun i x H' hi p => ⟨hw x, cw_turn p (by have := (List.getElem?_eq_some_iff.mp hi).1; omega) (ht i x H1 (e.trans e1) hi) (fun hf => he i x H1 (e.trans e1) hi hf)⟩)
    (fun H' p => q Dl H' (fresh_back e1 p.1) (e1.trans p.2.1) p.2.2)⟩
end
section
variable {P : Program} {w : World} {K : PySem.W.Frag} {mg : Str → Option Value} {base : Heap}
def spLaw (K : PySem.W.Frag) (PR PL : Addr) : Sp := fun vs H Q _ => ∃ (a : Addr) (ns : List Int), vs = [.ref a] ∧ SqL K H a (ns.map V.int) ∧ ns.length ≤ 63 ∧ Tabs (TLs PR PL) H ∧ ∀ H', Q (.bl true) H'
theorem ok_law (T : Txt K mg w) {c cR PR PL fl : Addr} {fd : FuncData} (TBR : TabB base mg cR PR) (TB : TabB base mg c PL) (hne : PR ≠ PL) (FR : FunL K "_law_right" "_law_right" s_law_right cR T.a_law_right T.fd_law_right) (FL : FunL K "law" "law" s_law c fl fd) : FnG P w K mg base CX0 14 fl fd ["script"] (spLaw K PR PL) := by
  have G_law_dice := ok_dice (P := P) (w := w) (base := base) T
  have G_law_right := ok_right (P := P) (w := w) (base := base) T TBR hne FR
  have G_turn_of := ok_turn_of (P := P) (w := w) (base := base) T
  have G_drawn := ok_drawn (P := P) (w := w) (base := base) T
  have G_luck_after := ok_luck_after (P := P) (w := w) (base := base) T
  have G_is_luck := ok_is_luck (P := P) (w := w) (base := base) T
  obtain ⟨ocM, odM, kVM, docM, pmM, anM, cdM, ctM, oslM, hfM, lkM, hcM⟩ := T.F_law_met.ex
  rw [hfM] at lkM
  have hbM := T.b_law_met
  rw [hfM] at hbM
  have hmT : (PL, qL) ∈ TLs PR PL := List.mem_cons_of_mem _ (List.mem_cons_self ..)
  have huT : ∀ p ∈ TLs PR PL, p.1 = PL → p.2 = qL := fun p hp e => by
    rcases List.mem_cons.mp hp with rfl | hp
    · exact absurd e hne
    · rw [List.mem_singleton.mp hp]
  refine FL.okG sc_law (fun vs H Q E h => ?_) (fun A outer s H vs Q E hr hg h => ?_)
  · obtain ⟨_, _, rfl, _⟩ := h; rfl
  obtain ⟨a, ns, rfl, hS, hlen, hT, q⟩ := h
  have gd0 : (A.deeper (envOfC "law" (defScope s_law) s.heap.objs.size fl (.ref c))).guards = some [] := hg
  have hu1 : (A.deeper (envOfC "law" (defScope s_law) s.heap.objs.size fl (.ref c))).units + 100 < cLine := by have := hr.un; omega
  have hu64 : (A.deeper (envOfC "law" (defScope s_law) s.heap.objs.size fl (.ref c))).units + 64 < cLine := by omega
  refine ⟨_, (pss_cons (ps_for PassesOwn.never rfl (pi_range1 rfl T.z_range (pa_cons (pe_callB (c_max rfl) (by rfl) T.z_max (by decide +kernel) (pa_cons pe_int (pa_cons (pe_callB (c_min rfl) (by rfl) T.z_min (by decide +kernel) (pa_cons pe_int (pa_cons (pe_callB c_len (by rfl) T.z_len PySem.boot_len (pa_cons (pv 0) pa_nil)) pa_nil))) pa_nil))) pa_nil)) (pg_name (i := 1) sc_law.nd rfl (.inl rfl)) (pss_cons (ps_set (i := 2) sc_law.nd rfl (.inl rfl) (pe_call G_law_dice (hr.mono (by decide)) (by rfl) T.g_law_dice T.F_law_dice.kp T.b_law_dice .nil pass0 (pa_cons (pv 0) (pa_cons (pv 1) pa_nil))))
  (pss_one (ps_if (PW.pt (pw_or (pt_not (pt_val (pe_callG G_law_right (hr.mono (by decide)) gd0 (by rfl) T.g_law_right T.F_law_right.kp T.b_law_right .nil pass0 (pa_cons (pv 2) pa_nil)))) (pw_or1 (pt_not (pt_val (pe_callG G_law_right (hr.mono (by decide)) gd0 (by rfl) T.g_law_right T.F_law_right.kp T.b_law_right .nil pass0 (pa_cons (pv 2) pa_nil))))))) (pss_one (ps_ret pe_bl)) pss_nil))))
  (pss_cons (ps_set (i := 4) sc_law.nd rfl (.inr rfl) (pe_op op_mul (pe_op op_pow pe_int pe_int) pe_int))
  (pss_cons (ps_set (i := 3) sc_law.nd rfl (.inl rfl) (pe_lst (pa_cons (pe_lamcall (T := TLs PR PL) (TT := TTmet K T.C_IL T.C_IN) rfl T.g_law_met T.F_law_met.kp lkM hcM hbM sc_law_met rfl (Or.inl rfl) (met_gives' T gd0 hu1 ⟨rfl, rfl, rfl, rfl⟩) TB rfl hmT huT (k := 8) (hr.mono (by decide)) (lamS_by (by kernel_rfl)) rfl (fun _ _ _ _ _ => rfl) (fun _ _ _ _ E _ _ hr => (pe_call G_luck_after (hr.mono (by decide)) (by rfl) T.g_luck_after T.F_luck_after.kp T.b_luck_after .nil (passes_call (W := fun cls d _ H => E cls d H) (takes_of rfl rfl rfl rfl) (fun _ _ _ _ h => h)) (pa_cons pe_int (pa_cons (pv 4) pa_nil))))) pa_nil)))
  (pss_cons (ps_expr (pe_bm PySem.F.plainAttrs_list PySem.F.slot_list_append PySem.F.type_list_append mt_append (pv 3) (pa_cons (pe_lamcall (T := TLs PR PL) (TT := TTmet K T.C_IL T.C_IN) rfl T.g_law_met T.F_law_met.kp lkM hcM hbM sc_law_met rfl (Or.inl rfl) (met_gives' T gd0 hu1 ⟨rfl, rfl, rfl, rfl⟩) TB rfl hmT huT (k := 8) (hr.mono (by decide)) (lamS_by (by kernel_rfl)) rfl (fun _ _ _ _ _ => rfl) (fun _ _ _ _ E _ _ hr => (pe_call G_drawn (hr.mono (by decide)) (by rfl) T.g_drawn T.F_drawn.kp T.b_drawn .nil (passes_call (W := fun cls d _ H => E cls d H) (takes_of rfl rfl rfl rfl) (fun _ _ _ _ h => h)) (pa_cons pe_int (pa_cons (pv 4) (pa_cons (pv 4) (pa_cons (pv 4) (pa_cons pe_int pa_nil)))))))) pa_nil)))
  (pss_cons (ps_expr (pe_bm PySem.F.plainAttrs_list PySem.F.slot_list_append PySem.F.type_list_append mt_append (pv 3) (pa_cons (pe_lamcall (T := TLs PR PL) (TT := TTmet K T.C_IL T.C_IN) rfl T.g_law_met T.F_law_met.kp lkM hcM hbM sc_law_met rfl (Or.inl rfl) (met_gives' T gd0 hu1 ⟨rfl, rfl, rfl, rfl⟩) TB rfl hmT huT (k := 8) (hr.mono (by decide)) (lamS_by (by kernel_rfl)) rfl (fun _ _ _ _ _ => rfl) (fun _ _ _ _ E _ _ hr => (pe_call G_turn_of (hr.mono (by decide)) (by rfl) T.g_turn_of T.F_turn_of.kp T.b_turn_of .nil (passes_call (W := fun cls d _ H => E cls d H) (takes_of rfl rfl rfl rfl) (fun _ _ _ _ h => h)) (pa_cons pe_int (pa_cons pe_int (pa_cons (pv 4) (pa_cons pe_int pa_nil))))))) pa_nil)))
  (pss_cons (ps_if (PW.pt (pw_or (pt_cmpR (op_neD hr.units) (pv 3) (pe_op op_rep (pe_lst (pa_cons (pe_tup (pa_cons pe_str pa_nil)) pa_nil)) pe_int) (nomark _)) (pw_or1 (pt_cmpR (op_neD hr.units) (pe_tup (pa_cons (pe_glob (v := .int (48274)) rfl T.g_FACTOR ⟨_, rfl⟩) (pa_cons (pe_glob (v := .int (271829)) rfl T.g_SUMMAND ⟨_, rfl⟩) (pa_cons (pe_glob (v := .int (1000)) rfl T.g_MAX_SIDES ⟨_, rfl⟩) pa_nil)))) (pe_tup (pa_cons pe_int (pa_cons pe_int (pa_cons pe_int pa_nil)))) (nomark _))))) (pss_one (ps_ret pe_bl)) pss_nil)
  (pss_one (ps_ret (pe_cmpR (op_eqD hr.units) (pe_lc (own := [("value", 5)]) (g := gName 5) (by rfl) sc_law.nd (pi_tup (pe_tup (pa_cons pe_int (pa_cons pe_int (pa_cons pe_int (pa_cons pe_bl (pa_cons pe_non (pa_cons pe_str pa_nil)))))))) (blkOk_by (own := [("value", 5)]) (N := ["script", "spot_v", "dice", "told", "great", "value"]) (sc := defScope s_law) (by decide +kernel)) (fun _ _ _ _ _ => pg_name (i := 5) sc_law.nd rfl (by first | exact Or.inl rfl | exact Or.inr rfl)) (fun _ _ _ _ _ => pts_nil) (fun _ _ _ _ _ => (pe_call G_is_luck (hr.mono (by decide)) (by rfl) T.g_is_luck T.F_is_luck.kp T.b_is_luck .nil pass0 (pa_cons (pv 5) pa_nil)))) (pe_lst (pa_cons pe_bl (pa_cons pe_bl (pa_cons pe_bl (pa_cons pe_bl (pa_cons pe_bl (pa_cons pe_bl pa_nil))))))) (nomark _)))))))))), ?_⟩
  have hcnt : ∃ m : Int, 0 ≤ m ∧ m ≤ 1000 ∧ (if (if (ns.map V.int).length < (4 : Int) then ((ns.map V.int).length : Int) else 4) > 1 then (if (ns.map V.int).length < (4 : Int) then ((ns.map V.int).length : Int) else 4) else 1) = m := ⟨_, by split <;> split <;> omega, by split <;> split <;> omega, rfl⟩
  obtain ⟨m, hm0, hm1, hm⟩ := hcnt
  refine q_forR1 (n := m) (ea_cons (ev_is (by walk_at "ev") (by rw [← hm])) ea_nil) ⟨hm0, by omega⟩ (fun i σ' H' => ExtN H H' ∧ Tabs (TLs PR PL) H' ∧ ∃ z1 z2, σ' = [some (.ref a), z1, z2, none, none, none]) (fun H1 e1 => ⟨xn_ex e1, hT.ext e1, none, none, rfl⟩) ?_ ?_
  · rintro i σ' H1 hi ⟨e1, t1, z1, z2, rfl⟩
    refine q_asgCall (vs := [.ref a, .int i]) (by walk_at "ea") fun H2 e2 => ⟨a, ns, i, rfl, ex_l e2 (xn_l e1 hS), fun p H3 hp e3 d3 => ?_⟩
    exact if_right2 (p := p) rfl d3 ((t1.ext e2).ext e3) fun H4 k4 t4 => ⟨fun b o hb ho => k4 b o (e3 _ _ (e2 _ _ (e1 b o hb ho))) (fun z => by rw [z] at hb; have := e2 _ _ (e1 _ _ hb ho); rw [← z, z, hp] at this; cases this) ho, t4, _, _, rfl⟩
  rintro σ' H1 ⟨e1, t1, z1, z2, rfl⟩
  refine q_asg (v := .int 900000000000000000000000000000000000000000000000000000000000) (ev_is (by walk_at "ev") (by decide +kernel)) fun H2 e2 => ?_
  have t2 := t1.ext e2
  have ok1 : Ck.luck.ok (.int 999999936) = true := by decide +kernel
  have ok0 : Ck.luck.ok (.int 0) = true := by decide +kernel
  have okz : Ck.whole.ok (.int 0) = true := by decide +kernel
  have okg : Ck.whole.ok (.int 900000000000000000000000000000000000000000000000000000000000) = true := by decide +kernel
  have oks : Ck.sides.ok (.int 1000) = true := by decide +kernel
  have pli : ∀ {vs : List V}, (∀ u ∈ vs, ∃ i, u = .int i) → ∀ u ∈ vs, ∀ H', Plain K H' u := fun h u hu H' => by obtain ⟨i, rfl⟩ := h u hu; exact pl_int
  refine q_lst1 (TL := TLs PR PL) (xs := [.str "fine"]) (emF (vs := [.int 999999936, .int 900000000000000000000000000000000000000000000000000000000000]) t2 (fun H3 _ => ea_cons ev_c (ea_cons (ev_var rfl) ea_nil)) rfl (pli (by simp)) ((find_next ok1).trans (find_next okg))) fun l u1 H3 t3 hl3 h3 => ?_
  refine q_appX (TL := TLs PR PL) (xs := [.str "fine"]) (ev_var rfl) hl3 (by show 1 ≤ 1000; decide) (fun H4 e4 => emF (vs := [.int 0, .int 900000000000000000000000000000000000000000000000000000000000, .int 900000000000000000000000000000000000000000000000000000000000, .int 900000000000000000000000000000000000000000000000000000000000, .int 1000]) (t3.ext e4) (fun H3 _ => ea_cons ev_c (ea_cons (ev_var rfl) (ea_cons (ev_var rfl) (ea_cons (ev_var rfl) (ea_cons ev_c ea_nil))))) rfl (pli (by simp)) ((find_next ok0).trans ((find_next okg).trans ((find_next okg).trans ((find_next okg).trans (find_next oks)))))) fun u2 H4 st4 t4 hl4 h4 => ?_
  refine q_appX (TL := TLs PR PL) (xs := [.str "fine"]) (ev_var rfl) hl4 (by show 2 ≤ 1000; decide) (fun H5 e5 => emF (vs := [.int 0, .int 0, .int 900000000000000000000000000000000000000000000000000000000000, .int 0]) (t4.ext e5) (fun H3 _ => ea_cons ev_c (ea_cons ev_c (ea_cons (ev_var rfl) (ea_cons ev_c ea_nil)))) rfl (pli (by simp)) ((find_next ok0).trans ((find_next okz).trans ((find_next okg).trans (find_next ok0))))) fun u3 H5 st5 t5 hl5 h5 => ?_
  have f1 := st5 _ _ (st4 _ _ h3)
  have f2 := st5 _ _ h4
  have fd : ∀ H1 t, SqT K H1 t [.str "fine"] → Dp K H1 (.ref t) (.tuple [.str "fine"]) := fun H1 t h => .tup h (.cons (.str _) .nil)
  refine q_when (b := false) (et_or (a := false) (b := false) (et_is (et_test (ev_neD (d := .list [.tuple [.str "fine"], .tuple [.str "fine"], .tuple [.str "fine"]]) (e := .list [.tuple [.str "fine"], .tuple [.str "fine"], .tuple [.str "fine"]]) (evd_of (ev_var rfl) fun H6 e6 => .lst (sq_of (e6 _ _ hl5)) (.cons (fd _ _ (ex_t e6 f1)) (.cons (fd _ _ (ex_t e6 f2)) (.cons (fd _ _ (ex_t e6 h5)) .nil)))) (evd_rep3 (ys := [.str "fine"]) (eu_tup (ea_cons ev_c ea_nil) (by show 1 ≤ 100000; decide)) fd) (by decide +kernel) (by decide +kernel))) (by decide +kernel)) fun _ => et_is (et_test (ev_neD (d := .tuple [.int 48274, .int 271829, .int 1000]) (e := .tuple [.int 48274, .int 271829, .int 1000]) (evd_tup (evda_cons (evd_int ev_c) (evda_cons (evd_int ev_c) (evda_cons (evd_int ev_c) evda_nil))) (by show 3 ≤ 100000; decide)) (evd_tup (evda_cons (evd_int ev_c) (evda_cons (evd_int ev_c) (evda_cons (evd_int ev_c) evda_nil))) (by show 3 ≤ 100000; decide)) (by decide +kernel) (by decide +kernel))) (by decide +kernel)) (fun h => by cases h) fun _ H6 e6 => ?_
  refine s_ret (v := .bl true) (ev_is (ev_eqD (d := .list ([true, true, false, false, false, false].map PyData.bool)) (e := .list ([true, true, false, false, false, false].map PyData.bool)) (evd_bls (bs := [true, true, false, false, false, false]) ?lc) (evd_lst (evda_cons (evd_bl ev_c) (evda_cons (evd_bl ev_c) (evda_cons (evd_bl ev_c) (evda_cons (evd_bl ev_c) (evda_cons (evd_bl ev_c) (evda_cons (evd_bl ev_c) evda_nil)))))) (by show 6 ≤ 100000; decide)) (by decide +kernel) (by decide +kernel)) (by decide +kernel)) fun H7 e7 => q H7
  have hlc := el_lcU (K := K) (σ := [some (.ref a), z1, z2, some (.ref l), some (.int 900000000000000000000000000000000000000000000000000000000000), none]) (H := H6) (t := tYes) (te := tCall (Pure (kIsLuck K)) [] E0 (tCons (tVar 5) tNil)) (tl := tTup (tCons (tC (.int 0)) (tCons (tC (.int 999999936)) (tCons (tC (.int 999999937)) (tCons (tC (.bl true)) (tCons (tC .non) (tCons (tC (.str "0")) tNil))))))) (j := 5) (vs := [5]) (xs := [.int 0, .int 999999936, .int 999999937, .bl true, .non, .str "0"]) (fun _ => true) (fun i => .bl (Ck.luck.ok (([.int 0, .int 999999936, .int 999999937, .bl true, .non, .str "0"] : List V).getD i .non))) (eu_tup (by walk_at "ea") (by decide)) (by decide) (fun _ => rfl) (fun i x H1 e hx => et_yes) (fun i x H1 e hx _ => ev_callP (vs := [x]) (ea_cons (ev_var rfl) ea_nil) fun H2 e2 => ⟨x, rfl, ?pl, ?ok⟩)
  case pl =>
    exact flat_pl (l := [.int 0, .int 999999936, .int 999999937, .bl true, .non, .str "0"]) (by decide +kernel) (List.mem_of_getElem? hx)
  case ok =>
    rw [List.getD_eq_getElem?_getD, hx]
    rfl
  exact hlc
end
end Kz
set_option Elab.async false
set_option linter.all false
set_option maxRecDepth 100000
set_option maxHeartbeats 4000000
set_option exponentiation.threshold 500
namespace Kz
open PySem PySem.Spec PyProof.Rows L2 Evl Vr
open LamX
theorem all_mk {l : PySem.W.OpenLaw} {w : World} {K : PySem.W.Frag} {h : Heap} {mg : Str → Option Value} {fa f0 f1 f2 f3 f4 f5 f6 f7 f8 f9 f10 f11 f12 f13 f14 f15 f16 f17 f18 f19 f20 f21 f22 f23 f24 f25 f26 f27 f28 f29 f30 f31 f32 f33 f34 f35 : Addr} (X : K.In h) (G : h.Ns mainGlobals mg) (hfa : mg "law" = some (.ref fa)) {aIL aIN fIN : Addr} {ocIN : Value} {odIN : Option Addr} {kVIN dcIN pmIN : Value} {anIN : Option Addr} {cdIN ctIN : Value} {slIN : Array (Option Value)} {t_MODULUS : Tok} {t_SUMMAND : Tok} {t_FACTOR : Tok} {t_STILL : Tok} {t_MAX_SIDES : Tok} {t_FIFTH_ROOT : Tok}
    {od0 an0 od1 an1 od2 an2 od3 an3 od4 an4 od5 an5 od6 an6 od7 an7 od8 an8 od9 an9 od10 an10 od11 an11 od12 an12 od13 an13 od14 an14 od15 an15 od16 an16 od17 an17 od18 an18 od19 an19 od20 an20 od21 an21 od22 an22 od23 an23 od24 an24 od25 an25 od26 an26 od27 an27 od28 an28 od29 an29 od30 an30 od31 an31 od32 an32 od33 an33 od34 an34 od35 an35 : Option Addr} {sl0 sl1 sl2 sl3 sl4 sl5 sl6 sl7 sl8 sl9 sl10 sl11 sl12 sl13 sl14 sl15 sl16 sl17 sl18 sl19 sl20 sl21 sl22 sl23 sl24 sl25 sl26 sl27 sl28 sl29 sl30 sl31 sl32 sl33 sl34 sl35 : Array (Option Value)} {oc0 kV0 dc0 pm0 cd0 ct0 oc1 kV1 dc1 pm1 cd1 ct1 oc2 kV2 dc2 pm2 cd2 ct2 oc3 kV3 dc3 pm3 cd3 ct3 oc4 kV4 dc4 pm4 cd4 ct4 oc5 kV5 dc5 pm5 cd5 ct5 oc6 kV6 dc6 pm6 cd6 ct6 oc7 kV7 dc7 pm7 cd7 ct7 oc8 kV8 dc8 pm8 cd8 ct8 oc9 kV9 dc9 pm9 cd9 ct9 oc10 kV10 dc10 pm10 cd10 ct10 oc11 kV11 dc11 pm11 cd11 ct11 oc12 kV12 dc12 pm12 cd12 ct12 oc13 kV13 dc13 pm13 cd13 ct13 oc14 kV14 dc14 pm14 cd14 ct14 oc15 kV15 dc15 pm15 cd15 ct15 oc16 kV16 dc16 pm16 cd16 ct16 oc17 kV17 dc17 pm17 cd17 ct17 oc18 kV18 dc18 pm18 cd18 ct18 oc19 kV19 dc19 pm19 cd19 ct19 oc20 kV20 dc20 pm20 cd20 ct20 oc21 kV21 dc21 pm21 cd21 ct21 oc22 kV22 dc22 pm22 cd22 ct22 oc23 kV23 dc23 pm23 cd23 ct23 oc24 kV24 dc24 pm24 cd24 ct24 oc25 kV25 dc25 pm25 cd25 ct25 oc26 kV26 dc26 pm26 cd26 ct26 oc27 kV27 dc27 pm27 cd27 ct27 oc28 kV28 dc28 pm28 cd28 ct28 oc29 kV29 dc29 pm29 cd29 ct29 oc30 kV30 dc30 pm30 cd30 ct30 oc31 kV31 dc31 pm31 cd31 ct31 oc32 kV32 dc32 pm32 cd32 ct32 oc33 kV33 dc33 pm33 cd33 ct33 oc34 kV34 dc34 pm34 ct34 oc35 kV35 dc35 pm35 ct35 : Value}
    (a0 : PySem.W.nsIn K mainGlobals "is_integer" = some (some (.ref f0))) (l0 : K.lookup f0 = some ⟨oc0, od0, .func (PySem.W.fnOf "is_integer" "is_integer" (defArgs s_is_integer) (defBody s_is_integer) (defScope s_is_integer) .none kV0 dc0 pm0 an0 cd0 ct0), sl0⟩) (c0 : PySem.W.codeIn K cd0 "is_integer" = true) (k0 : PySem.W.keepIn K (.ref f0) = true)
    (a1 : PySem.W.nsIn K mainGlobals "is_within" = some (some (.ref f1))) (l1 : K.lookup f1 = some ⟨oc1, od1, .func (PySem.W.fnOf "is_within" "is_within" (defArgs s_is_within) (defBody s_is_within) (defScope s_is_within) .none kV1 dc1 pm1 an1 cd1 ct1), sl1⟩) (c1 : PySem.W.codeIn K cd1 "is_within" = true) (k1 : PySem.W.keepIn K (.ref f1) = true)
    (a2 : PySem.W.nsIn K mainGlobals "is_whole" = some (some (.ref f2))) (l2 : K.lookup f2 = some ⟨oc2, od2, .func (PySem.W.fnOf "is_whole" "is_whole" (defArgs s_is_whole) (defBody s_is_whole) (defScope s_is_whole) .none kV2 dc2 pm2 an2 cd2 ct2), sl2⟩) (c2 : PySem.W.codeIn K cd2 "is_whole" = true) (k2 : PySem.W.keepIn K (.ref f2) = true)
    (a3 : PySem.W.nsIn K mainGlobals "need_whole" = some (some (.ref f3))) (l3 : K.lookup f3 = some ⟨oc3, od3, .func (PySem.W.fnOf "need_whole" "need_whole" (defArgs s_need_whole) (defBody s_need_whole) (defScope s_need_whole) .none kV3 dc3 pm3 an3 cd3 ct3), sl3⟩) (c3 : PySem.W.codeIn K cd3 "need_whole" = true) (k3 : PySem.W.keepIn K (.ref f3) = true)
    (a4 : PySem.W.nsIn K mainGlobals "need_within" = some (some (.ref f4))) (l4 : K.lookup f4 = some ⟨oc4, od4, .func (PySem.W.fnOf "need_within" "need_within" (defArgs s_need_within) (defBody s_need_within) (defScope s_need_within) .none kV4 dc4 pm4 an4 cd4 ct4), sl4⟩) (c4 : PySem.W.codeIn K cd4 "need_within" = true) (k4 : PySem.W.keepIn K (.ref f4) = true)
    (a5 : PySem.W.nsIn K mainGlobals "is_luck" = some (some (.ref f5))) (l5 : K.lookup f5 = some ⟨oc5, od5, .func (PySem.W.fnOf "is_luck" "is_luck" (defArgs s_is_luck) (defBody s_is_luck) (defScope s_is_luck) .none kV5 dc5 pm5 an5 cd5 ct5), sl5⟩) (c5 : PySem.W.codeIn K cd5 "is_luck" = true) (k5 : PySem.W.keepIn K (.ref f5) = true)
    (a6 : PySem.W.nsIn K mainGlobals "need_luck" = some (some (.ref f6))) (l6 : K.lookup f6 = some ⟨oc6, od6, .func (PySem.W.fnOf "need_luck" "need_luck" (defArgs s_need_luck) (defBody s_need_luck) (defScope s_need_luck) .none kV6 dc6 pm6 an6 cd6 ct6), sl6⟩) (c6 : PySem.W.codeIn K cd6 "need_luck" = true) (k6 : PySem.W.keepIn K (.ref f6) = true)
    (a7 : PySem.W.nsIn K mainGlobals "power" = some (some (.ref f7))) (l7 : K.lookup f7 = some ⟨oc7, od7, .func (PySem.W.fnOf "power" "power" (defArgs s_power) (defBody s_power) (defScope s_power) .none kV7 dc7 pm7 an7 cd7 ct7), sl7⟩) (c7 : PySem.W.codeIn K cd7 "power" = true) (k7 : PySem.W.keepIn K (.ref f7) = true)
    (a8 : PySem.W.nsIn K mainGlobals "next_luck" = some (some (.ref f8))) (l8 : K.lookup f8 = some ⟨oc8, od8, .func (PySem.W.fnOf "next_luck" "next_luck" (defArgs s_next_luck) (defBody s_next_luck) (defScope s_next_luck) .none kV8 dc8 pm8 an8 cd8 ct8), sl8⟩) (c8 : PySem.W.codeIn K cd8 "next_luck" = true) (k8 : PySem.W.keepIn K (.ref f8) = true)
    (a9 : PySem.W.nsIn K mainGlobals "following" = some (some (.ref f9))) (l9 : K.lookup f9 = some ⟨oc9, od9, .func (PySem.W.fnOf "following" "following" (defArgs s_following) (defBody s_following) (defScope s_following) .none kV9 dc9 pm9 an9 cd9 ct9), sl9⟩) (c9 : PySem.W.codeIn K cd9 "following" = true) (k9 : PySem.W.keepIn K (.ref f9) = true)
    (a10 : PySem.W.nsIn K mainGlobals "luck_ahead" = some (some (.ref f10))) (l10 : K.lookup f10 = some ⟨oc10, od10, .func (PySem.W.fnOf "luck_ahead" "luck_ahead" (defArgs s_luck_ahead) (defBody s_luck_ahead) (defScope s_luck_ahead) .none kV10 dc10 pm10 an10 cd10 ct10), sl10⟩) (c10 : PySem.W.codeIn K cd10 "luck_ahead" = true) (k10 : PySem.W.keepIn K (.ref f10) = true)
    (a11 : PySem.W.nsIn K mainGlobals "luck_after" = some (some (.ref f11))) (l11 : K.lookup f11 = some ⟨oc11, od11, .func (PySem.W.fnOf "luck_after" "luck_after" (defArgs s_luck_after) (defBody s_luck_after) (defScope s_luck_after) .none kV11 dc11 pm11 an11 cd11 ct11), sl11⟩) (c11 : PySem.W.codeIn K cd11 "luck_after" = true) (k11 : PySem.W.keepIn K (.ref f11) = true)
    (a12 : PySem.W.nsIn K mainGlobals "luck_before" = some (some (.ref f12))) (l12 : K.lookup f12 = some ⟨oc12, od12, .func (PySem.W.fnOf "luck_before" "luck_before" (defArgs s_luck_before) (defBody s_luck_before) (defScope s_luck_before) .none kV12 dc12 pm12 an12 cd12 ct12), sl12⟩) (c12 : PySem.W.codeIn K cd12 "luck_before" = true) (k12 : PySem.W.keepIn K (.ref f12) = true)
    (a13 : PySem.W.nsIn K mainGlobals "along" = some (some (.ref f13))) (l13 : K.lookup f13 = some ⟨oc13, od13, .func (PySem.W.fnOf "along" "along" (defArgs s_along) (defBody s_along) (defScope s_along) .none kV13 dc13 pm13 an13 cd13 ct13), sl13⟩) (c13 : PySem.W.codeIn K cd13 "along" = true) (k13 : PySem.W.keepIn K (.ref f13) = true)
    (a14 : PySem.W.nsIn K mainGlobals "lucks_between" = some (some (.ref f14))) (l14 : K.lookup f14 = some ⟨oc14, od14, .func (PySem.W.fnOf "lucks_between" "lucks_between" (defArgs s_lucks_between) (defBody s_lucks_between) (defScope s_lucks_between) .none kV14 dc14 pm14 an14 cd14 ct14), sl14⟩) (c14 : PySem.W.codeIn K cd14 "lucks_between" = true) (k14 : PySem.W.keepIn K (.ref f14) = true)
    (a15 : PySem.W.nsIn K mainGlobals "logarithm" = some (some (.ref f15))) (l15 : K.lookup f15 = some ⟨oc15, od15, .func (PySem.W.fnOf "logarithm" "logarithm" (defArgs s_logarithm) (defBody s_logarithm) (defScope s_logarithm) .none kV15 dc15 pm15 an15 cd15 ct15), sl15⟩) (c15 : PySem.W.codeIn K cd15 "logarithm" = true) (k15 : PySem.W.keepIn K (.ref f15) = true)
    (a16 : PySem.W.nsIn K mainGlobals "turns_to" = some (some (.ref f16))) (l16 : K.lookup f16 = some ⟨oc16, od16, .func (PySem.W.fnOf "turns_to" "turns_to" (defArgs s_turns_to) (defBody s_turns_to) (defScope s_turns_to) .none kV16 dc16 pm16 an16 cd16 ct16), sl16⟩) (c16 : PySem.W.codeIn K cd16 "turns_to" = true) (k16 : PySem.W.keepIn K (.ref f16) = true)
    (a17 : PySem.W.nsIn K mainGlobals "inverse" = some (some (.ref f17))) (l17 : K.lookup f17 = some ⟨oc17, od17, .func (PySem.W.fnOf "inverse" "inverse" (defArgs s_inverse) (defBody s_inverse) (defScope s_inverse) .none kV17 dc17 pm17 an17 cd17 ct17), sl17⟩) (c17 : PySem.W.codeIn K cd17 "inverse" = true) (k17 : PySem.W.keepIn K (.ref f17) = true)
    (a18 : PySem.W.nsIn K mainGlobals "stirred" = some (some (.ref f18))) (l18 : K.lookup f18 = some ⟨oc18, od18, .func (PySem.W.fnOf "stirred" "stirred" (defArgs s_stirred) (defBody s_stirred) (defScope s_stirred) .none kV18 dc18 pm18 an18 cd18 ct18), sl18⟩) (c18 : PySem.W.codeIn K cd18 "stirred" = true) (k18 : PySem.W.keepIn K (.ref f18) = true)
    (a19 : PySem.W.nsIn K mainGlobals "stir" = some (some (.ref f19))) (l19 : K.lookup f19 = some ⟨oc19, od19, .func (PySem.W.fnOf "stir" "stir" (defArgs s_stir) (defBody s_stir) (defScope s_stir) .none kV19 dc19 pm19 an19 cd19 ct19), sl19⟩) (c19 : PySem.W.codeIn K cd19 "stir" = true) (k19 : PySem.W.keepIn K (.ref f19) = true)
    (a20 : PySem.W.nsIn K mainGlobals "unstirred" = some (some (.ref f20))) (l20 : K.lookup f20 = some ⟨oc20, od20, .func (PySem.W.fnOf "unstirred" "unstirred" (defArgs s_unstirred) (defBody s_unstirred) (defScope s_unstirred) .none kV20 dc20 pm20 an20 cd20 ct20), sl20⟩) (c20 : PySem.W.codeIn K cd20 "unstirred" = true) (k20 : PySem.W.keepIn K (.ref f20) = true)
    (a21 : PySem.W.nsIn K mainGlobals "unstir" = some (some (.ref f21))) (l21 : K.lookup f21 = some ⟨oc21, od21, .func (PySem.W.fnOf "unstir" "unstir" (defArgs s_unstir) (defBody s_unstir) (defScope s_unstir) .none kV21 dc21 pm21 an21 cd21 ct21), sl21⟩) (c21 : PySem.W.codeIn K cd21 "unstir" = true) (k21 : PySem.W.keepIn K (.ref f21) = true)
    (a22 : PySem.W.nsIn K mainGlobals "spot_number" = some (some (.ref f22))) (l22 : K.lookup f22 = some ⟨oc22, od22, .func (PySem.W.fnOf "spot_number" "spot_number" (defArgs s_spot_number) (defBody s_spot_number) (defScope s_spot_number) .none kV22 dc22 pm22 an22 cd22 ct22), sl22⟩) (c22 : PySem.W.codeIn K cd22 "spot_number" = true) (k22 : PySem.W.keepIn K (.ref f22) = true)
    (a23 : PySem.W.nsIn K mainGlobals "spot" = some (some (.ref f23))) (l23 : K.lookup f23 = some ⟨oc23, od23, .func (PySem.W.fnOf "spot" "spot" (defArgs s_spot) (defBody s_spot) (defScope s_spot) .none kV23 dc23 pm23 an23 cd23 ct23), sl23⟩) (c23 : PySem.W.codeIn K cd23 "spot" = true) (k23 : PySem.W.keepIn K (.ref f23) = true)
    (a24 : PySem.W.nsIn K mainGlobals "run_number" = some (some (.ref f24))) (l24 : K.lookup f24 = some ⟨oc24, od24, .func (PySem.W.fnOf "run_number" "run_number" (defArgs s_run_number) (defBody s_run_number) (defScope s_run_number) .none kV24 dc24 pm24 an24 cd24 ct24), sl24⟩) (c24 : PySem.W.codeIn K cd24 "run_number" = true) (k24 : PySem.W.keepIn K (.ref f24) = true)
    (a25 : PySem.W.nsIn K mainGlobals "turn_of" = some (some (.ref f25))) (l25 : K.lookup f25 = some ⟨oc25, od25, .func (PySem.W.fnOf "turn_of" "turn_of" (defArgs s_turn_of) (defBody s_turn_of) (defScope s_turn_of) .none kV25 dc25 pm25 an25 cd25 ct25), sl25⟩) (c25 : PySem.W.codeIn K cd25 "turn_of" = true) (k25 : PySem.W.keepIn K (.ref f25) = true)
    (a26 : PySem.W.nsIn K mainGlobals "drawn" = some (some (.ref f26))) (l26 : K.lookup f26 = some ⟨oc26, od26, .func (PySem.W.fnOf "drawn" "drawn" (defArgs s_drawn) (defBody s_drawn) (defScope s_drawn) .none kV26 dc26 pm26 an26 cd26 ct26), sl26⟩) (c26 : PySem.W.codeIn K cd26 "drawn" = true) (k26 : PySem.W.keepIn K (.ref f26) = true)
    (a27 : PySem.W.nsIn K mainGlobals "draw" = some (some (.ref f27))) (l27 : K.lookup f27 = some ⟨oc27, od27, .func (PySem.W.fnOf "draw" "draw" (defArgs s_draw) (defBody s_draw) (defScope s_draw) .none kV27 dc27 pm27 an27 cd27 ct27), sl27⟩) (c27 : PySem.W.codeIn K cd27 "draw" = true) (k27 : PySem.W.keepIn K (.ref f27) = true)
    (a28 : PySem.W.nsIn K mainGlobals "_law_dice" = some (some (.ref f28))) (l28 : K.lookup f28 = some ⟨oc28, od28, .func (PySem.W.fnOf "_law_dice" "_law_dice" (defArgs s_law_dice) (defBody s_law_dice) (defScope s_law_dice) .none kV28 dc28 pm28 an28 cd28 ct28), sl28⟩) (c28 : PySem.W.codeIn K cd28 "_law_dice" = true) (k28 : PySem.W.keepIn K (.ref f28) = true)
    (a29 : PySem.W.nsIn K mainGlobals "_law_roll" = some (some (.ref f29))) (l29 : K.lookup f29 = some ⟨oc29, od29, .func (PySem.W.fnOf "_law_roll" "_law_roll" (defArgs s_law_roll) (defBody s_law_roll) (defScope s_law_roll) .none kV29 dc29 pm29 an29 cd29 ct29), sl29⟩) (c29 : PySem.W.codeIn K cd29 "_law_roll" = true) (k29 : PySem.W.keepIn K (.ref f29) = true)
    (a30 : PySem.W.nsIn K mainGlobals "_law_pick" = some (some (.ref f30))) (l30 : K.lookup f30 = some ⟨oc30, od30, .func (PySem.W.fnOf "_law_pick" "_law_pick" (defArgs s_law_pick) (defBody s_law_pick) (defScope s_law_pick) .none kV30 dc30 pm30 an30 cd30 ct30), sl30⟩) (c30 : PySem.W.codeIn K cd30 "_law_pick" = true) (k30 : PySem.W.keepIn K (.ref f30) = true)
    (a31 : PySem.W.nsIn K mainGlobals "_law_met" = some (some (.ref f31))) (l31 : K.lookup f31 = some ⟨oc31, od31, .func (PySem.W.fnOf "_law_met" "_law_met" (defArgs s_law_met) (defBody s_law_met) (defScope s_law_met) .none kV31 dc31 pm31 an31 cd31 ct31), sl31⟩) (c31 : PySem.W.codeIn K cd31 "_law_met" = true) (k31 : PySem.W.keepIn K (.ref f31) = true)
    (a32 : PySem.W.nsIn K mainGlobals "_law_no_luck" = some (some (.ref f32))) (l32 : K.lookup f32 = some ⟨oc32, od32, .func (PySem.W.fnOf "_law_no_luck" "_law_no_luck" (defArgs s_law_no_luck) (defBody s_law_no_luck) (defScope s_law_no_luck) .none kV32 dc32 pm32 an32 cd32 ct32), sl32⟩) (c32 : PySem.W.codeIn K cd32 "_law_no_luck" = true) (k32 : PySem.W.keepIn K (.ref f32) = true)
    (a33 : PySem.W.nsIn K mainGlobals "_law_no_index" = some (some (.ref f33))) (l33 : K.lookup f33 = some ⟨oc33, od33, .func (PySem.W.fnOf "_law_no_index" "_law_no_index" (defArgs s_law_no_index) (defBody s_law_no_index) (defScope s_law_no_index) .none kV33 dc33 pm33 an33 cd33 ct33), sl33⟩) (c33 : PySem.W.codeIn K cd33 "_law_no_index" = true) (k33 : PySem.W.keepIn K (.ref f33) = true)
    {cc34 pt34 : Addr} {ock34 : Value} {odk34 : Option Addr} {vk34 : Array Value} {slk34 : Array (Option Value)}
    (a34 : PySem.W.nsIn K mainGlobals "_law_right" = some (some (.ref f34))) (l34 : K.lookup f34 = some ⟨oc34, od34, .func (PySem.W.fnOf "_law_right" "_law_right" (defArgs s_law_right) (defBody s_law_right) (defScope s_law_right) .none kV34 dc34 pm34 an34 (.ref cc34) ct34), sl34⟩) (c34 : PySem.W.codeIn K (.ref cc34) "_law_right" = true) (k34 : PySem.W.keepIn K (.ref f34) = true)
    (u34 : K.lookup cc34 = some ⟨ock34, odk34, .fields vk34, slk34⟩) (w34 : vk34[11]? = some (.ref pt34)) (y34 : PySem.W.codeHdIn K cc34 pt34 = true) (r34 : h.get? pt34 = some { cls := .none, data := .fields #[] }) (fr34 : K.lookup pt34 = none)
    {cc35 pt35 : Addr} {ock35 : Value} {odk35 : Option Addr} {vk35 : Array Value} {slk35 : Array (Option Value)}
    (a35 : PySem.W.nsIn K mainGlobals "law" = some (some (.ref f35))) (l35 : K.lookup f35 = some ⟨oc35, od35, .func (PySem.W.fnOf "law" "law" (defArgs s_law) (defBody s_law) (defScope s_law) .none kV35 dc35 pm35 an35 (.ref cc35) ct35), sl35⟩) (c35 : PySem.W.codeIn K (.ref cc35) "law" = true) (k35 : PySem.W.keepIn K (.ref f35) = true)
    (u35 : K.lookup cc35 = some ⟨ock35, odk35, .fields vk35, slk35⟩) (w35 : vk35[11]? = some (.ref pt35)) (y35 : PySem.W.codeHdIn K cc35 pt35 = true) (r35 : h.get? pt35 = some { cls := .none, data := .fields #[] }) (fr35 : K.lookup pt35 = none)
    (z_abs : PySem.W.nsIn K mainGlobals "abs" = some none)
    (z_max : PySem.W.nsIn K mainGlobals "max" = some none)
    (z_min : PySem.W.nsIn K mainGlobals "min" = some none)
    (z_int : PySem.W.nsIn K mainGlobals "int" = some none)
    (z_len : PySem.W.nsIn K mainGlobals "len" = some none)
    (z_range : PySem.W.nsIn K mainGlobals "range" = some none)
    (z_repr : PySem.W.nsIn K mainGlobals "repr" = some none)
    (z_isinstance : PySem.W.nsIn K mainGlobals "isinstance" = some none)
    (z_bool : PySem.W.nsIn K mainGlobals "bool" = some none)
    (v_MODULUS : PySem.W.nsIn K mainGlobals "MODULUS" = some (some (.int (999999937) t_MODULUS)))
    (v_SUMMAND : PySem.W.nsIn K mainGlobals "SUMMAND" = some (some (.int (271829) t_SUMMAND)))
    (v_FACTOR : PySem.W.nsIn K mainGlobals "FACTOR" = some (some (.int (48274) t_FACTOR)))
    (v_STILL : PySem.W.nsIn K mainGlobals "STILL" = some (some (.int (949019055) t_STILL)))
    (v_MAX_SIDES : PySem.W.nsIn K mainGlobals "MAX_SIDES" = some (some (.int (1000) t_MAX_SIDES)))
    (v_FIFTH_ROOT : PySem.W.nsIn K mainGlobals "FIFTH_ROOT" = some (some (.int (799999949) t_FIFTH_ROOT)))
    (wg_IL : PySem.W.nsIn K mainGlobals "InvalidLuck" = some (some (.ref aIL)))
    (wx_IL : PySem.W.excIn K aIL [.type "ValueError", .type "Exception", .type "BaseException", .type "object"] "ValueError.__new__" = true)
    (wk_IL : PySem.W.keepIn K (.ref aIL) = true)
    (we_IL : PySem.W.subIn K (.ref aIL) (.type "BaseException") = some true)
    (wy_IL : PySem.W.typeIn K (.ref aIL) = some (.type "type"))
    (wg_IN : PySem.W.nsIn K mainGlobals "InvalidNumber" = some (some (.ref aIN)))
    (wo_IN : oxB K aIN "IndexError.__new__" [.type "IndexError", .type "LookupError", .type "Exception", .type "BaseException", .type "object"] = true)
    (ws_IN : PySem.W.findIn K (.ref aIN) "__setattr__" = some (some (.builtin "object.__setattr__")))
    (wk_IN : PySem.W.keepIn K (.ref aIN) = true)
    (we_IN : PySem.W.subIn K (.ref aIN) (.type "BaseException") = some true)
    (wy_IN : PySem.W.typeIn K (.ref aIN) = some (.type "type"))
    (wi_IN : PySem.W.findIn K (.ref aIN) "__init__" = some (some (.ref fIN)))
    (wt_IN : PySem.W.typeIn K (.ref fIN) = some (.type "function"))
    (wl_IN : K.lookup fIN = some ⟨ocIN, odIN, .func (PySem.W.fnOf "__init__" "InvalidNumber.__init__" (defArgs s_InvalidNumber___init__) (defBody s_InvalidNumber___init__) (defScope s_InvalidNumber___init__) .none kVIN dcIN pmIN anIN cdIN ctIN), slIN⟩)
    (wc_IN : PySem.W.codeIn K cdIN "InvalidNumber.__init__" = true)
    (wq_IN : PySem.W.keepIn K (.ref fIN) = true)
    (wf_IN : PySem.W.findIn K (.ref aIN) "given" = some none)
    (wxf_IN : xfB K aIN = true)
    (wm_LL : PySem.W.exmOne K (.ref aIL) (.ref aIL) = some true)
    (wm_NL : PySem.W.exmOne K (.ref aIN) (.ref aIL) = some false)
    (wm_NN : PySem.W.exmOne K (.ref aIN) (.ref aIN) = some true)
    (hne : pt34 ≠ pt35)
    : LawG l w K CX0 14 63 "script" mg fa h := by
  have e := hfa.symm.trans (PySem.W.mg_of X G a35)
  cases e
  have F0 := fun_mk (st := s_is_integer) l0 c0 k0
  have b0 := F0.binds (ps := ["value"]) fun _ _ _ _ _ _ us hl => match us, hl with | [_], _ => rfl
  have F1 := fun_mk (st := s_is_within) l1 c1 k1
  have b1 := F1.binds (ps := ["value", "low", "high"]) fun _ _ _ _ _ _ us hl => match us, hl with | [_, _, _], _ => rfl
  have F2 := fun_mk (st := s_is_whole) l2 c2 k2
  have b2 := F2.binds (ps := ["value"]) fun _ _ _ _ _ _ us hl => match us, hl with | [_], _ => rfl
  have F3 := fun_mk (st := s_need_whole) l3 c3 k3
  have b3 := F3.binds (ps := ["value"]) fun _ _ _ _ _ _ us hl => match us, hl with | [_], _ => rfl
  have F4 := fun_mk (st := s_need_within) l4 c4 k4
  have b4 := F4.binds (ps := ["value", "low", "high"]) fun _ _ _ _ _ _ us hl => match us, hl with | [_, _, _], _ => rfl
  have F5 := fun_mk (st := s_is_luck) l5 c5 k5
  have b5 := F5.binds (ps := ["value"]) fun _ _ _ _ _ _ us hl => match us, hl with | [_], _ => rfl
  have F6 := fun_mk (st := s_need_luck) l6 c6 k6
  have b6 := F6.binds (ps := ["value"]) fun _ _ _ _ _ _ us hl => match us, hl with | [_], _ => rfl
  have F7 := fun_mk (st := s_power) l7 c7 k7
  have b7 := F7.binds (ps := ["base", "exponent"]) fun _ _ _ _ _ _ us hl => match us, hl with | [_, _], _ => rfl
  have F8 := fun_mk (st := s_next_luck) l8 c8 k8
  have b8 := F8.binds (ps := ["luck"]) fun _ _ _ _ _ _ us hl => match us, hl with | [_], _ => rfl
  have F9 := fun_mk (st := s_following) l9 c9 k9
  have b9 := F9.binds (ps := ["luck"]) fun _ _ _ _ _ _ us hl => match us, hl with | [_], _ => rfl
  have F10 := fun_mk (st := s_luck_ahead) l10 c10 k10
  have b10 := F10.binds (ps := ["luck"]) fun _ _ _ _ _ _ us hl => match us, hl with | [_], _ => rfl
  have F11 := fun_mk (st := s_luck_after) l11 c11 k11
  have b11 := F11.binds (ps := ["luck", "many"]) fun _ _ _ _ _ _ us hl => match us, hl with | [_, _], _ => rfl
  have F12 := fun_mk (st := s_luck_before) l12 c12 k12
  have b12 := F12.binds (ps := ["luck", "many"]) fun _ _ _ _ _ _ us hl => match us, hl with | [_, _], _ => rfl
  have F13 := fun_mk (st := s_along) l13 c13 k13
  have b13 := F13.binds (ps := ["luck", "many"]) fun _ _ _ _ _ _ us hl => match us, hl with | [_, _], _ => rfl
  have F14 := fun_mk (st := s_lucks_between) l14 c14 k14
  have b14 := F14.binds (ps := ["one", "other"]) fun _ _ _ _ _ _ us hl => match us, hl with | [_, _], _ => rfl
  have F15 := fun_mk (st := s_logarithm) l15 c15 k15
  have b15 := F15.binds (ps := ["result"]) fun _ _ _ _ _ _ us hl => match us, hl with | [_], _ => rfl
  have F16 := fun_mk (st := s_turns_to) l16 c16 k16
  have b16 := F16.binds (ps := ["base", "result", "part"]) fun _ _ _ _ _ _ us hl => match us, hl with | [_, _, _], _ => rfl
  have F17 := fun_mk (st := s_inverse) l17 c17 k17
  have b17 := F17.binds (ps := ["number", "part"]) fun _ _ _ _ _ _ us hl => match us, hl with | [_, _], _ => rfl
  have F18 := fun_mk (st := s_stirred) l18 c18 k18
  have b18 := F18.binds (ps := ["luck"]) fun _ _ _ _ _ _ us hl => match us, hl with | [_], _ => rfl
  have F19 := fun_mk (st := s_stir) l19 c19 k19
  have b19 := F19.binds (ps := ["luck"]) fun _ _ _ _ _ _ us hl => match us, hl with | [_], _ => rfl
  have F20 := fun_mk (st := s_unstirred) l20 c20 k20
  have b20 := F20.binds (ps := ["luck"]) fun _ _ _ _ _ _ us hl => match us, hl with | [_], _ => rfl
  have F21 := fun_mk (st := s_unstir) l21 c21 k21
  have b21 := F21.binds (ps := ["luck"]) fun _ _ _ _ _ _ us hl => match us, hl with | [_], _ => rfl
  have F22 := fun_mk (st := s_spot_number) l22 c22 k22
  have b22 := F22.binds (ps := ["luck", "entry", "thing", "turn"]) fun _ _ _ _ _ _ us hl => match us, hl with | [_, _, _, _], _ => rfl
  have F23 := fun_mk (st := s_spot) l23 c23 k23
  have b23 := F23.binds (ps := ["luck", "entry", "thing", "turn"]) fun _ _ _ _ _ _ us hl => match us, hl with | [_, _, _, _], _ => rfl
  have F24 := fun_mk (st := s_run_number) l24 c24 k24
  have b24 := F24.binds (ps := ["luck", "entry", "thing"]) fun _ _ _ _ _ _ us hl => match us, hl with | [_, _, _], _ => rfl
  have F25 := fun_mk (st := s_turn_of) l25 c25 k25
  have b25 := F25.binds (ps := ["luck", "entry", "thing", "number"]) fun _ _ _ _ _ _ us hl => match us, hl with | [_, _, _, _], _ => rfl
  have F26 := fun_mk (st := s_drawn) l26 c26 k26
  have b26 := F26.binds (ps := ["luck", "entry", "thing", "turn", "sides"]) fun _ _ _ _ _ _ us hl => match us, hl with | [_, _, _, _, _], _ => rfl
  have F27 := fun_mk (st := s_draw) l27 c27 k27
  have b27 := F27.binds (ps := ["luck", "entry", "thing", "turn", "sides"]) fun _ _ _ _ _ _ us hl => match us, hl with | [_, _, _, _, _], _ => rfl
  have F28 := fun_mk (st := s_law_dice) l28 c28 k28
  have b28 := F28.binds (ps := ["script", "spot_v"]) fun _ _ _ _ _ _ us hl => match us, hl with | [_, _], _ => rfl
  have F29 := fun_mk (st := s_law_roll) l29 c29 k29
  have b29 := F29.binds (ps := ["dice", "total"]) fun _ _ _ _ _ _ us hl => match us, hl with | [_, _], _ => rfl
  have F30 := fun_mk (st := s_law_pick) l30 c30 k30
  have b30 := F30.binds (ps := ["dice", "items"]) fun _ _ _ _ _ _ us hl => match us, hl with | [_, _], _ => rfl
  have F31 := fun_mk (st := s_law_met) l31 c31 k31
  have b31 := F31.binds (ps := ["call"]) fun _ _ _ _ _ _ us hl => match us, hl with | [_], _ => rfl
  have F32 := fun_mk (st := s_law_no_luck) l32 c32 k32
  have b32 := F32.binds (ps := ["dice"]) fun _ _ _ _ _ _ us hl => match us, hl with | [_], _ => rfl
  have F33 := fun_mk (st := s_law_no_index) l33 c33 k33
  have b33 := F33.binds (ps := ["dice"]) fun _ _ _ _ _ _ us hl => match us, hl with | [_], _ => rfl
  have F34 := fun_mk (st := s_law_right) l34 c34 k34
  have b34 := F34.binds (ps := ["dice"]) fun _ _ _ _ _ _ us hl => match us, hl with | [_], _ => rfl
  have F35 := fun_mk (st := s_law) l35 c35 k35
  let T : Txt K mg w := {
    a_is_integer := f0
    fd_is_integer := _
    F_is_integer := F0
    g_is_integer := PySem.W.mg_of X G a0
    b_is_integer := b0
    a_is_within := f1
    fd_is_within := _
    F_is_within := F1
    g_is_within := PySem.W.mg_of X G a1
    b_is_within := b1
    a_is_whole := f2
    fd_is_whole := _
    F_is_whole := F2
    g_is_whole := PySem.W.mg_of X G a2
    b_is_whole := b2
    a_need_whole := f3
    fd_need_whole := _
    F_need_whole := F3
    g_need_whole := PySem.W.mg_of X G a3
    b_need_whole := b3
    a_need_within := f4
    fd_need_within := _
    F_need_within := F4
    g_need_within := PySem.W.mg_of X G a4
    b_need_within := b4
    a_is_luck := f5
    fd_is_luck := _
    F_is_luck := F5
    g_is_luck := PySem.W.mg_of X G a5
    b_is_luck := b5
    a_need_luck := f6
    fd_need_luck := _
    F_need_luck := F6
    g_need_luck := PySem.W.mg_of X G a6
    b_need_luck := b6
    a_power := f7
    fd_power := _
    F_power := F7
    g_power := PySem.W.mg_of X G a7
    b_power := b7
    a_next_luck := f8
    fd_next_luck := _
    F_next_luck := F8
    g_next_luck := PySem.W.mg_of X G a8
    b_next_luck := b8
    a_following := f9
    fd_following := _
    F_following := F9
    g_following := PySem.W.mg_of X G a9
    b_following := b9
    a_luck_ahead := f10
    fd_luck_ahead := _
    F_luck_ahead := F10
    g_luck_ahead := PySem.W.mg_of X G a10
    b_luck_ahead := b10
    a_luck_after := f11
    fd_luck_after := _
    F_luck_after := F11
    g_luck_after := PySem.W.mg_of X G a11
    b_luck_after := b11
    a_luck_before := f12
    fd_luck_before := _
    F_luck_before := F12
    g_luck_before := PySem.W.mg_of X G a12
    b_luck_before := b12
    a_along := f13
    fd_along := _
    F_along := F13
    g_along := PySem.W.mg_of X G a13
    b_along := b13
    a_lucks_between := f14
    fd_lucks_between := _
    F_lucks_between := F14
    g_lucks_between := PySem.W.mg_of X G a14
    b_lucks_between := b14
    a_logarithm := f15
    fd_logarithm := _
    F_logarithm := F15
    g_logarithm := PySem.W.mg_of X G a15
    b_logarithm := b15
    a_turns_to := f16
    fd_turns_to := _
    F_turns_to := F16
    g_turns_to := PySem.W.mg_of X G a16
    b_turns_to := b16
    a_inverse := f17
    fd_inverse := _
    F_inverse := F17
    g_inverse := PySem.W.mg_of X G a17
    b_inverse := b17
    a_stirred := f18
    fd_stirred := _
    F_stirred := F18
    g_stirred := PySem.W.mg_of X G a18
    b_stirred := b18
    a_stir := f19
    fd_stir := _
    F_stir := F19
    g_stir := PySem.W.mg_of X G a19
    b_stir := b19
    a_unstirred := f20
    fd_unstirred := _
    F_unstirred := F20
    g_unstirred := PySem.W.mg_of X G a20
    b_unstirred := b20
    a_unstir := f21
    fd_unstir := _
    F_unstir := F21
    g_unstir := PySem.W.mg_of X G a21
    b_unstir := b21
    a_spot_number := f22
    fd_spot_number := _
    F_spot_number := F22
    g_spot_number := PySem.W.mg_of X G a22
    b_spot_number := b22
    a_spot := f23
    fd_spot := _
    F_spot := F23
    g_spot := PySem.W.mg_of X G a23
    b_spot := b23
    a_run_number := f24
    fd_run_number := _
    F_run_number := F24
    g_run_number := PySem.W.mg_of X G a24
    b_run_number := b24
    a_turn_of := f25
    fd_turn_of := _
    F_turn_of := F25
    g_turn_of := PySem.W.mg_of X G a25
    b_turn_of := b25
    a_drawn := f26
    fd_drawn := _
    F_drawn := F26
    g_drawn := PySem.W.mg_of X G a26
    b_drawn := b26
    a_draw := f27
    fd_draw := _
    F_draw := F27
    g_draw := PySem.W.mg_of X G a27
    b_draw := b27
    a_law_dice := f28
    fd_law_dice := _
    F_law_dice := F28
    g_law_dice := PySem.W.mg_of X G a28
    b_law_dice := b28
    a_law_roll := f29
    fd_law_roll := _
    F_law_roll := F29
    g_law_roll := PySem.W.mg_of X G a29
    b_law_roll := b29
    a_law_pick := f30
    fd_law_pick := _
    F_law_pick := F30
    g_law_pick := PySem.W.mg_of X G a30
    b_law_pick := b30
    a_law_met := f31
    fd_law_met := _
    F_law_met := F31
    g_law_met := PySem.W.mg_of X G a31
    b_law_met := b31
    a_law_no_luck := f32
    fd_law_no_luck := _
    F_law_no_luck := F32
    g_law_no_luck := PySem.W.mg_of X G a32
    b_law_no_luck := b32
    a_law_no_index := f33
    fd_law_no_index := _
    F_law_no_index := F33
    g_law_no_index := PySem.W.mg_of X G a33
    b_law_no_index := b33
    a_law_right := f34
    fd_law_right := _
    F_law_right := F34
    g_law_right := PySem.W.mg_of X G a34
    b_law_right := b34
    z_abs := PySem.W.mg_none_of X G z_abs
    z_max := PySem.W.mg_none_of X G z_max
    z_min := PySem.W.mg_none_of X G z_min
    z_int := PySem.W.mg_none_of X G z_int
    z_len := PySem.W.mg_none_of X G z_len
    z_range := PySem.W.mg_none_of X G z_range
    z_repr := PySem.W.mg_none_of X G z_repr
    z_isinstance := PySem.W.mg_none_of X G z_isinstance
    z_bool := PySem.W.mg_none_of X G z_bool
    t_MODULUS := t_MODULUS
    g_MODULUS := PySem.W.mg_of X G v_MODULUS
    t_SUMMAND := t_SUMMAND
    g_SUMMAND := PySem.W.mg_of X G v_SUMMAND
    t_FACTOR := t_FACTOR
    g_FACTOR := PySem.W.mg_of X G v_FACTOR
    t_STILL := t_STILL
    g_STILL := PySem.W.mg_of X G v_STILL
    t_MAX_SIDES := t_MAX_SIDES
    g_MAX_SIDES := PySem.W.mg_of X G v_MAX_SIDES
    t_FIFTH_ROOT := t_FIFTH_ROOT
    g_FIFTH_ROOT := PySem.W.mg_of X G v_FIFTH_ROOT
    C_IL := aIL
    g_InvalidLuck := PySem.W.mg_of X G wg_IL
    x_IL := wx_IL
    k_IL := wk_IL
    e_IL := we_IL
    y_IL := wy_IL
    C_IN := aIN
    g_InvalidNumber := PySem.W.mg_of X G wg_IN
    o_IN := ⟨oxB_ok wo_IN, ws_IN, we_IN, wy_IN, wk_IN⟩
    a_InvalidNumber___init__ := fIN
    fd_InvalidNumber___init__ := _
    F_InvalidNumber___init__ := (fun_mk (st := s_InvalidNumber___init__) wl_IN wc_IN wq_IN)
    b_InvalidNumber___init__ := (fun_mk (st := s_InvalidNumber___init__) wl_IN wc_IN wq_IN).binds (ps := ["self", "given"]) fun _ _ _ _ _ _ us hl => match us, hl with | [_, _], _ => rfl
    i_IN := wi_IN
    t_IN := wt_IN
    f_IN := wf_IN
    x_IN := xfB_ok wxf_IN
    m_LL := wm_LL
    m_NL := wm_NL
    m_NN := wm_NN
  }
  have L34 : FunL K "_law_right" "_law_right" s_law_right cc34 _ _ := ⟨⟨_, _, _, _, _, _, _, _, rfl, l34, c34⟩, k34⟩
  have L35 : FunL K "law" "law" s_law cc35 _ _ := ⟨⟨_, _, _, _, _, _, _, _, rfl, l35, c35⟩, k35⟩
  refine ⟨_, [(cc34, pt34), (cc35, pt35)], spLaw K pt34 pt35, (List.forall_mem_cons.mpr ⟨r34, List.forall_mem_cons.mpr ⟨r35, fun _ h => nomatch h⟩⟩), (List.forall_mem_cons.mpr ⟨fr34, List.forall_mem_cons.mpr ⟨fr35, fun _ h => nomatch h⟩⟩), (List.forall_mem_cons.mpr ⟨PySem.W.codeHd_of_K X y34, List.forall_mem_cons.mpr ⟨PySem.W.codeHd_of_K X y35, fun _ h => nomatch h⟩⟩), fun s v => .of_eq rfl, fun H a ns hl hq hS => ⟨a, ns, rfl, hS, hl, fun p hp => ?_, fun _ => rfl⟩, fun base _ _ TB => ok_law T (TB _ (List.mem_cons_self ..)) (TB _ (List.mem_cons_of_mem _ (List.mem_cons_self ..))) hne L34 L35⟩
  rcases List.mem_cons.mp hp with rfl | hp
  · exact LamX.TabS.nil (hq _ (List.mem_cons_self ..))
  · rw [List.mem_singleton.mp hp]; exact LamX.TabS.nil (hq _ (List.mem_cons_of_mem _ (List.mem_cons_self ..)))
end Kz
open PySem PySem.W PyProof.Rows
set_option maxHeartbeats 0 in
theorem PySem.Challenge.cw_settledplay_k05_errors_of_luck_holds : PySem.Challenge.rw_settledplay_k05_errors_of_luck.Holds := by
  w_on; o_law; k_head; (case hw => w_witness2)
  k_fill
  refine L2.walk_ofG (l := PySem.Challenge.rw_settledplay_k05_errors_of_luck) (n := 63) (k := 14) (x := "script") (CX := fun _ => L2.CX0) rfl (by decide) rfl ⟨rfl, by decide, by decide⟩ (fun w h Y => PySem.W.km_in_of Y) ?F (fun _ _ _ _ _ h => h)
  case F =>
    intro w mg fa h Y KX G hmg
    have hT8 := PySem.W.km_tabs_of Y
    refine' Kz.all_mk KX G hmg ?a0 ?l0 ?c0 ?k0 ?a1 ?l1 ?c1 ?k1 ?a2 ?l2 ?c2 ?k2 ?a3 ?l3 ?c3 ?k3 ?a4 ?l4 ?c4 ?k4 ?a5 ?l5 ?c5 ?k5 ?a6 ?l6 ?c6 ?k6 ?a7 ?l7 ?c7 ?k7 ?a8 ?l8 ?c8 ?k8 ?a9 ?l9 ?c9 ?k9 ?a10 ?l10 ?c10 ?k10 ?a11 ?l11 ?c11 ?k11 ?a12 ?l12 ?c12 ?k12 ?a13 ?l13 ?c13 ?k13 ?a14 ?l14 ?c14 ?k14 ?a15 ?l15 ?c15 ?k15 ?a16 ?l16 ?c16 ?k16 ?a17 ?l17 ?c17 ?k17 ?a18 ?l18 ?c18 ?k18 ?a19 ?l19 ?c19 ?k19 ?a20 ?l20 ?c20 ?k20 ?a21 ?l21 ?c21 ?k21 ?a22 ?l22 ?c22 ?k22 ?a23 ?l23 ?c23 ?k23 ?a24 ?l24 ?c24 ?k24 ?a25 ?l25 ?c25 ?k25 ?a26 ?l26 ?c26 ?k26 ?a27 ?l27 ?c27 ?k27 ?a28 ?l28 ?c28 ?k28 ?a29 ?l29 ?c29 ?k29 ?a30 ?l30 ?c30 ?k30 ?a31 ?l31 ?c31 ?k31 ?a32 ?l32 ?c32 ?k32 ?a33 ?l33 ?c33 ?k33 ?a34 ?l34 ?c34 ?k34 ?u34 ?w34 ?y34 ?r34 ?fr34 ?a35 ?l35 ?c35 ?k35 ?u35 ?w35 ?y35 ?r35 ?fr35 ?z_abs ?z_max ?z_min ?z_int ?z_len ?z_range ?z_repr ?z_isinstance ?z_bool ?v_MODULUS ?v_SUMMAND ?v_FACTOR ?v_STILL ?v_MAX_SIDES ?v_FIFTH_ROOT ?wg_IL ?wx_IL ?wk_IL ?we_IL ?wy_IL ?wg_IN ?wo_IN ?ws_IN ?wk_IN ?we_IN ?wy_IN ?wi_IN ?wt_IN ?wl_IN ?wc_IN ?wq_IN ?wf_IN ?wxf_IN ?wm_LL ?wm_NL ?wm_NN ?hne
    (case a0 => k_is)
    (case l0 => k_is)
    (case c0 => k_is)
    (case k0 => k_is)
    (case a1 => k_is)
    (case l1 => k_is)
    (case c1 => k_is)
    (case k1 => k_is)
    (case a2 => k_is)
    (case l2 => k_is)
    (case c2 => k_is)
    (case k2 => k_is)
    (case a3 => k_is)
    (case l3 => k_is)
    (case c3 => k_is)
    (case k3 => k_is)
    (case a4 => k_is)
    (case l4 => k_is)
    (case c4 => k_is)
    (case k4 => k_is)
    (case a5 => k_is)
    (case l5 => k_is)
    (case c5 => k_is)
    (case k5 => k_is)
    (case a6 => k_is)
    (case l6 => k_is)
    (case c6 => k_is)
    (case k6 => k_is)
    (case a7 => k_is)
    (case l7 => k_is)
    (case c7 => k_is)
    (case k7 => k_is)
    (case a8 => k_is)
    (case l8 => k_is)
    (case c8 => k_is)
    (case k8 => k_is)
    (case a9 => k_is)
    (case l9 => k_is)
    (case c9 => k_is)
    (case k9 => k_is)
    (case a10 => k_is)
    (case l10 => k_is)
    (case c10 => k_is)
    (case k10 => k_is)
    (case a11 => k_is)
    (case l11 => k_is)
    (case c11 => k_is)
    (case k11 => k_is)
    (case a12 => k_is)
    (case l12 => k_is)
    (case c12 => k_is)
    (case k12 => k_is)
    (case a13 => k_is)
    (case l13 => k_is)
    (case c13 => k_is)
    (case k13 => k_is)
    (case a14 => k_is)
    (case l14 => k_is)
    (case c14 => k_is)
    (case k14 => k_is)
    (case a15 => k_is)
    (case l15 => k_is)
    (case c15 => k_is)
    (case k15 => k_is)
    (case a16 => k_is)
    (case l16 => k_is)
    (case c16 => k_is)
    (case k16 => k_is)
    (case a17 => k_is)
    (case l17 => k_is)
    (case c17 => k_is)
    (case k17 => k_is)
    (case a18 => k_is)
    (case l18 => k_is)
    (case c18 => k_is)
    (case k18 => k_is)
    (case a19 => k_is)
    (case l19 => k_is)
    (case c19 => k_is)
    (case k19 => k_is)
    (case a20 => k_is)
    (case l20 => k_is)
    (case c20 => k_is)
    (case k20 => k_is)
    (case a21 => k_is)
    (case l21 => k_is)
    (case c21 => k_is)
    (case k21 => k_is)
    (case a22 => k_is)
    (case l22 => k_is)
    (case c22 => k_is)
    (case k22 => k_is)
    (case a23 => k_is)
    (case l23 => k_is)
    (case c23 => k_is)
    (case k23 => k_is)
    (case a24 => k_is)
    (case l24 => k_is)
    (case c24 => k_is)
    (case k24 => k_is)
    (case a25 => k_is)
    (case l25 => k_is)
    (case c25 => k_is)
    (case k25 => k_is)
    (case a26 => k_is)
    (case l26 => k_is)
    (case c26 => k_is)
    (case k26 => k_is)
    (case a27 => k_is)
    (case l27 => k_is)
    (case c27 => k_is)
    (case k27 => k_is)
    (case a28 => k_is)
    (case l28 => k_is)
    (case c28 => k_is)
    (case k28 => k_is)
    (case a29 => k_is)
    (case l29 => k_is)
    (case c29 => k_is)
    (case k29 => k_is)
    (case a30 => k_is)
    (case l30 => k_is)
    (case c30 => k_is)
    (case k30 => k_is)
    (case a31 => k_is)
    (case l31 => k_is)
    (case c31 => k_is)
    (case k31 => k_is)
    (case a32 => k_is)
    (case l32 => k_is)
    (case c32 => k_is)
    (case k32 => k_is)
    (case a33 => k_is)
    (case l33 => k_is)
    (case c33 => k_is)
    (case k33 => k_is)
    (case a34 => k_is)
    (case l34 => k_is)
    (case c34 => k_is)
    (case k34 => k_is)
    (case u34 => k_is)
    (case w34 => first | rfl | kernel_rfl)
    (case y34 => kernel_rfl)
    (case r34 => exact hT8 _ (by decide))
    (case fr34 => kernel_rfl)
    (case a35 => k_is)
    (case l35 => k_is)
    (case c35 => k_is)
    (case k35 => k_is)
    (case u35 => k_is)
    (case w35 => first | rfl | kernel_rfl)
    (case y35 => kernel_rfl)
    (case r35 => exact hT8 _ (by decide))
    (case fr35 => kernel_rfl)
    (case z_abs => k_is)
    (case z_max => k_is)
    (case z_min => k_is)
    (case z_int => k_is)
    (case z_len => k_is)
    (case z_range => k_is)
    (case z_repr => k_is)
    (case z_isinstance => k_is)
    (case z_bool => k_is)
    (case v_MODULUS => k_is)
    (case v_SUMMAND => k_is)
    (case v_FACTOR => k_is)
    (case v_STILL => k_is)
    (case v_MAX_SIDES => k_is)
    (case v_FIFTH_ROOT => k_is)
    (case wg_IL => k_is)
    (case wx_IL => k_exc)
    (case wk_IL => k_is)
    (case we_IL => k_is)
    (case wy_IL => k_is)
    (case wg_IN => k_is)
    (case wo_IN => kernel_rfl)
    (case ws_IN => first | rfl | k_is)
    (case wk_IN => k_is)
    (case we_IN => k_is)
    (case wy_IN => k_is)
    (case wi_IN => k_is)
    (case wt_IN => k_is)
    (case wl_IN => k_is)
    (case wc_IN => k_is)
    (case wq_IN => k_is)
    (case wf_IN => k_is)
    (case wxf_IN => kernel_rfl)
    (case wm_LL => kernel_rfl)
    (case wm_NL => kernel_rfl)
    (case wm_NN => kernel_rfl)
    (case hne => decide)
