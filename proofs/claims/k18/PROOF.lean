import PyProof.Rows.All
import Wide.All
import OpenK.AllK
import Wide.FinOn
import HandS.ForMost
import HandS.Wide
import HandS.Evl
import HandS.IsInst
import HandS.RaiseMore
import HandS.More
import HandS.CallLocal
import HandS.Style
import HandS.TupAny
import HandS.Strs
import HandS.Walk
import HandS.Iter
import KE.GoesMore
import HandS.Star
import HandS.Defaults
import HandS.MakeKwOnly
import PySem.Challenge.RW_settledplay_k18_whole_boxes_that_go
set_option linter.all false
set_option maxRecDepth 100000
namespace Pm
/-! ### 999999937 is a prime number -/
def chk : Nat → Nat → Bool
  | 0, lo => 999999937 % lo != 0
  | k + 1, lo => chk k lo && chk k (lo + 2 ^ k)
theorem chk_ok : ∀ {k lo : Nat}, chk k lo = true → ∀ d, lo ≤ d → d < lo + 2 ^ k → 999999937 % d ≠ 0
  | 0, lo, h, d, h1, h2 => by
    have e : d = lo := by simp at h2; omega
    subst e
    simpa [chk] using h
  | k + 1, lo, h, d, h1, h2 => by
    have h := Bool.and_eq_true_iff.mp (show (chk k lo && chk k (lo + 2 ^ k)) = true from h)
    by_cases hd : d < lo + 2 ^ k
    · exact chk_ok h.1 d h1 hd
    · exact chk_ok h.2 d (by omega) (by rw [Nat.pow_succ] at h2; omega)
theorem chk_all : chk 15 2 = true := by decide +kernel
abbrev p : Nat := 999999937
theorem dvd_p {d : Nat} (h : d ∣ p) : d = 1 ∨ d = p := by
  obtain ⟨e, he⟩ := h
  have no : ∀ x, x ∣ p → 2 ≤ x → x < 32770 → False := fun x hx h2 h3 => chk_ok chk_all x h2 (by omega) (Nat.mod_eq_zero_of_dvd hx)
  by_cases h1 : d < 2
  · have : d ≠ 0 := by rintro rfl; simp at he
    left; omega
  · by_cases h2 : d < 32770
    · exact (no d ⟨e, he⟩ (by omega) h2).elim
    · by_cases h3 : e < 2
      · have : e ≠ 0 := by rintro rfl; simp at he
        have e1 : e = 1 := by omega
        subst e1
        right; omega
      · by_cases h4 : e < 32770
        · exact (no e ⟨d, by rw [he, Nat.mul_comm]⟩ (by omega) h4).elim
        · have h5 : 32770 * 32770 ≤ d * e := Nat.mul_le_mul (by omega) (by omega)
          have h6 : 999999937 = d * e := he
          omega
theorem euclid {a b : Nat} (h : p ∣ a * b) : p ∣ a ∨ p ∣ b := by
  rcases dvd_p (Nat.gcd_dvd_left p a) with e | e
  · exact .inr (Nat.Coprime.dvd_of_dvd_mul_left (show Nat.Coprime p a from e) h)
  · exact .inl (e ▸ Nat.gcd_dvd_right p a)
theorem dvd_small {a : Nat} (h : p ∣ a) (h1 : a < p) : a = 0 := Nat.eq_zero_of_dvd_of_lt h h1
theorem cancel {a x y : Nat} (ha : ¬ p ∣ a) (h : a * x % p = a * y % p) : x % p = y % p := by
  have go : ∀ {x y : Nat}, x ≤ y → a * x % p = a * y % p → x % p = y % p := fun {x y} hxy h => by
    have hd : p ∣ a * (y - x) := by
      rw [Nat.mul_sub]
      exact Nat.dvd_of_mod_eq_zero (Nat.sub_mod_eq_zero_of_mod_eq h.symm)
    rcases euclid hd with z | z
    · exact absurd z ha
    · obtain ⟨k, hk⟩ := z
      have e : y = x + p * k := by omega
      rw [e, Nat.add_mul_mod_self_left]
  rcases Nat.le_total x y with q | q
  · exact go q h
  · exact (go q h.symm).symm
/-! ### products -/
def prod (l : List Nat) : Nat := l.foldr (· * ·) 1
theorem prod_perm {l m : List Nat} (h : l.Perm m) : prod l = prod m := by
  induction h with
  | nil => rfl
  | cons x _ ih => exact congrArg (x * ·) ih
  | swap x y l => show y * (x * prod l) = x * (y * prod l); rw [Nat.mul_left_comm]
  | trans _ _ h1 h2 => exact h1.trans h2
theorem prod_map (a : Nat) : ∀ l : List Nat, prod (l.map fun i => a * i % p) % p = a ^ l.length * prod l % p
  | [] => by simp [prod]
  | x :: l => by
    show (a * x % p) * prod (l.map fun i => a * i % p) % p = a ^ (l.length + 1) * (x * prod l) % p
    rw [Nat.mul_mod, prod_map a l, Nat.mod_mod, ← Nat.mul_mod]
    congr 1
    rw [Nat.pow_succ]
    simp only [Nat.mul_assoc, Nat.mul_left_comm, Nat.mul_comm]
theorem prod_no : ∀ l : List Nat, (∀ x ∈ l, ¬ p ∣ x) → ¬ p ∣ prod l
  | [], _ => by decide
  | x :: l, h => fun hd => by
    rcases euclid (show p ∣ x * prod l from hd) with z | z
    · exact h x (by simp) z
    · exact prod_no l (fun y hy => h y (by simp [hy])) z
/-! ### Fermat -/
/-- a map of the numbers 1 .. p - 1 into themselves that parts them is onto -/
theorem onto {l : List Nat} (hn : l.Nodup) (hs : ∀ x ∈ l, 1 ≤ x ∧ x < p) (hl : l.length = p - 1) {x : Nat} (h1 : 1 ≤ x) (h2 : x < p) : x ∈ l := by
  by_cases h : x ∈ l
  · exact h
  · have h3 : (x :: l).Nodup := List.nodup_cons.mpr ⟨h, hn⟩
    have h4 : (x :: l) ⊆ List.range' 1 (p - 1) := fun y hy => by
      rw [List.mem_range'_1]
      rcases List.mem_cons.mp hy with z | z
      · subst z; exact ⟨h1, by simp only [p] at *; omega⟩
      · have := hs y z; exact ⟨this.1, by simp only [p] at *; omega⟩
    have h5 := h3.length_le_of_subset h4
    rw [List.length_cons, List.length_range', hl] at h5
    omega
theorem nodup_map {f : Nat → Nat} {l : List Nat} (hn : l.Nodup) (hf : ∀ x ∈ l, ∀ y ∈ l, f x = f y → x = y) : (l.map f).Nodup := by
  rw [List.Nodup, List.pairwise_map]
  exact hn.imp_of_mem fun {a b} ha hb hab e => hab (hf a ha b hb e)
theorem fermat {a : Nat} (ha : ¬ p ∣ a) : a ^ (p - 1) % p = 1 := by
  generalize hL : List.range' 1 (p - 1) = L
  have mem : ∀ x, x ∈ L ↔ 1 ≤ x ∧ x < p := fun x => by
    rw [← hL, List.mem_range'_1]
    simp only [p]
  have nd : L.Nodup := by rw [← hL]; exact List.nodup_range' 1
  have len : L.length = p - 1 := by rw [← hL, List.length_range']
  have nm : (L.map fun i => a * i % p).Nodup := nodup_map nd fun x hx y hy e => by
    have := cancel ha e
    rwa [Nat.mod_eq_of_lt ((mem x).mp hx).2, Nat.mod_eq_of_lt ((mem y).mp hy).2] at this
  have sub : ∀ x ∈ L.map fun i => a * i % p, 1 ≤ x ∧ x < p := fun x hx => by
    obtain ⟨i, hi, rfl⟩ := List.mem_map.mp hx
    refine ⟨?_, Nat.mod_lt _ (by decide)⟩
    by_cases h0 : a * i % p = 0
    · rcases euclid (Nat.dvd_of_mod_eq_zero h0) with z | z
      · exact absurd z ha
      · have := (mem i).mp hi
        have := dvd_small z this.2
        omega
    · omega
  have hp : (L.map fun i => a * i % p).Perm L := (List.perm_ext_iff_of_nodup nm nd).mpr fun x => ⟨fun h => (mem x).mpr (sub x h), fun h => onto nm sub (by rw [List.length_map, len]) ((mem x).mp h).1 ((mem x).mp h).2⟩
  have h1 := prod_map a L
  rw [prod_perm hp, len] at h1
  have h2 : prod L * (a ^ (p - 1)) % p = prod L * 1 % p := by rw [Nat.mul_comm, Nat.mul_one, ← h1]
  have h3 := cancel (prod_no L fun x hx z => by
    have := (mem x).mp hx
    have := dvd_small z this.2
    omega) h2
  rw [h3]
  rfl
/-! ### the fifth power, there and back -/
def stirN (x : Nat) : Nat := (x ^ 5 + 271829) % p
theorem pow_root {x : Nat} (h : x < p) : x ^ (5 * 799999949) % p = x := by
  by_cases h0 : x = 0
  · subst h0
    rw [Nat.zero_pow (by decide)]
    rfl
  · have ha : ¬ p ∣ x := fun z => h0 (dvd_small z h)
    have e : 5 * 799999949 = (p - 1) * 4 + 1 := by decide
    rw [e, Nat.pow_succ, Nat.pow_mul, Nat.mul_mod, Nat.pow_mod, fermat ha, Nat.one_pow, show 1 % p = 1 from rfl, Nat.one_mul, Nat.mod_mod, Nat.mod_eq_of_lt h]
def unstirN (y : Nat) : Nat := ((y + (p - 271829)) % p) ^ 799999949 % p
theorem unstir_stir {x : Nat} (h : x < p) : unstirN (stirN x) = x := by
  unfold unstirN stirN
  have e : ((x ^ 5 + 271829) % p + (p - 271829)) % p = x ^ 5 % p := by
    rw [Nat.mod_add_mod, Nat.add_assoc, show 271829 + (p - 271829) = p from by decide, Nat.add_mod_right]
  rw [e, ← Nat.pow_mod, ← Nat.pow_mul, pow_root h]
theorem stir_unstir {y : Nat} (h : y < p) : stirN (unstirN y) = y := by
  unfold unstirN stirN
  have hz : (y + (p - 271829)) % p < p := Nat.mod_lt _ (by decide)
  have e : (((y + (p - 271829)) % p) ^ 799999949 % p) ^ 5 % p = (y + (p - 271829)) % p := by
    rw [← Nat.pow_mod, ← Nat.pow_mul, Nat.mul_comm, pow_root hz]
  rw [Nat.add_mod, e, ← Nat.add_mod, Nat.add_assoc, show p - 271829 + 271829 = p from by decide, Nat.add_mod_right, Nat.mod_eq_of_lt h]
theorem stir_inj {x y : Nat} (hx : x < p) (hy : y < p) (h : stirN x = stirN y) : x = y := by
  rw [← unstir_stir hx, ← unstir_stir hy, h]
end Pm
set_option Elab.async false
set_option linter.all false
set_option maxRecDepth 100000
set_option maxHeartbeats 4000000
namespace Vr
open PySem PySem.Spec PyProof.Rows L2 Evl
/-! ### rules of calls whose answer is one -/
section
variable {X : Cx}
def rI1 (g : Int → V) : List V → Hp → VK → Prop := fun xs H Q => ∃ i, xs = [.int i] ∧ Q (g i) H
def rB1 (g : Bool → V) : List V → Hp → VK → Prop := fun xs H Q => ∃ i, xs = [.bl i] ∧ Q (g i) H
def rI2 (g : Int → Int → V) : List V → Hp → VK → Prop := fun xs H Q => ∃ i j, xs = [.int i, .int j] ∧ Q (g i j) H
theorem callR_mono {f : Value} {r r' : List V → Hp → VK → Prop} (h : CallR X f r) (k : ∀ vs H Q, r' vs H Q → r vs H Q) : CallR X f r' :=
  fun pins s σ H xs us Q I rv q => h pins s σ H xs us Q I rv (k _ _ _ q)
theorem c_int : CallR X (.type "int") (rI1 fun i => .int i) := callR_mono call_int1 fun _ _ _ h => .inl h
theorem c_intB : CallR X (.type "int") (rB1 fun k => .int (if k then 1 else 0)) := callR_mono call_int1 fun _ _ _ h => .inr h
theorem c_abs : CallR X (.builtin "abs") (rI1 fun i => .int (if i < 0 then -i else i)) := call_abs
theorem c_max (hc : X.calm = true) : CallR X (.builtin "max") (rI2 fun i j => .int (if j > i then j else i)) := call_max2 hc
theorem c_min (hc : X.calm = true) : CallR X (.builtin "min") (rI2 fun i j => .int (if j < i then j else i)) := call_min2 hc
def rRepr : List V → Hp → VK → Prop := fun xs H Q => ∃ i : Int, xs = [.int i] ∧ i.natAbs.log2 < 1920 ∧ Q (.str (toString i)) H
theorem c_repr : CallR X (.builtin "repr") rRepr := SkE.call_repr_int
theorem c_len : CallR X (.builtin "len") (rLenS X.K) := call_len_seq
end
section
variable {K : PySem.W.Frag} {σ : L2.St} {H H' : Hp} {ta tb tc te : TE} {t u : TT} {x y z v : V} {r r' : R2} {D : Ends}
theorem sc_mul {i j : Int} (h : -18446744073709551616 < i ∧ i < 18446744073709551616) : CMul i j := .inl h
theorem sc_div {i j : Int} (h : 0 < j) (h2 : j.natAbs.log2 < 9000) : CDivW i j := ⟨h, h2⟩
theorem rc_I1 {g : Int → V} {i : Int} : RC (rI1 g) [.int i] H (g i) := fun H1 _ _ q => ⟨i, rfl, q H1 (Ex.refl H1)⟩
theorem rc_B1 {g : Bool → V} {i : Bool} : RC (rB1 g) [.bl i] H (g i) := fun H1 _ _ q => ⟨i, rfl, q H1 (Ex.refl H1)⟩
theorem rc_I2 {g : Int → Int → V} {i j : Int} : RC (rI2 g) [.int i, .int j] H (g i j) := fun H1 _ _ q => ⟨i, j, rfl, q H1 (Ex.refl H1)⟩
theorem rc_repr {i : Int} (h : i.natAbs.log2 < 1920) : RC rRepr [.int i] H (.str (toString i)) := fun H1 _ _ q => ⟨i, rfl, h, q H1 (Ex.refl H1)⟩
theorem rc_lenL {p : Addr} {xs : List V} (h : SqL K H p xs) : RC (rLenS K) [.ref p] H (.int (xs.length : Int)) := fun H1 e _ q => ⟨p, xs, rfl, .inl (ex_l e h), q H1 (Ex.refl H1)⟩
theorem ev_chain {a b : Bool} (h1 : Ev ta σ H x) (h2 : Ev tb σ H y) (r1 : RV r x y H (.bl a)) (h3 : Ev tc σ H z) (r2 : RV r' y z H (.bl b)) : Ev (tChain r r' ta tb tc) σ H (.bl (a && b)) := fun H1 e Q q =>
  h1 H1 e _ fun H2 e2 => h2 H2 (e.trans e2) _ fun H3 e3 => r1 H3 ((e.trans e2).trans e3) _ fun H4 e4 => ⟨a, rfl, by
    cases a with
    | true =>
      rw [if_pos rfl]
      exact h3 H4 (((e.trans e2).trans e3).trans e4) _ fun H5 e5 => r2 H5 ((((e.trans e2).trans e3).trans e4).trans e5) _ fun H6 e6 => q H6 ((((e2.trans e3).trans e4).trans e5).trans e6)
    | false =>
      rw [if_neg Bool.false_ne_true]
      exact q H4 ((e2.trans e3).trans e4)⟩
/-- an expression that evaluates, then what follows -/
theorem go {Q : VK} (h : Ev te σ H v) (k : ∀ H1, Ex H H1 → Q v H1) : te σ H Q := h H (Ex.refl H) Q k
theorem goT {b : Bool} {Q : Bool → Hp → Prop} (h : EvT t σ H b) (k : ∀ H1, Ex H H1 → Q b H1) : t σ H Q := h H (Ex.refl H) Q k
theorem goA {ts : TA} {vs : List V} {Q : List V → Hp → Prop} (h : EvA ts σ H vs) (k : ∀ H1, Ex H H1 → Q vs H1) : ts σ H Q := h H (Ex.refl H) Q k
/-! ### promises of defs that answer by their arguments, whatever else they make -/
def Pure (ok : List V → Hp → V → Prop) : Sp := fun vs H Q _ => ∃ z, ok vs H z ∧ ∀ H', Ex H H' → Q z H'
theorem ev_callP {ok : List V → Hp → V → Prop} {E : XK} {ts : TA} {vs : List V} (h : EvA ts σ H vs) (ho : ∀ H1, Ex H H1 → ok vs H1 z) : Ev (tCall (Pure ok) [] E ts) σ H z := fun H1 e Q q =>
  h H1 e _ fun H2 e2 => by
    show Pure ok (vs ++ []) H2 Q E
    rw [List.append_nil]
    exact ⟨z, ho H2 (e.trans e2), fun H3 e3 => q H3 (e2.trans e3)⟩
theorem fin {Q : VK} (k : ∀ H', Ex H H' → Q z H') (e : Ex H H') : Q z H' := k H' e
/-! ### the dice: a list of three ints at p, all else as it was -/
def Exd (p : Addr) (H H' : Hp) : Prop := ∀ a o, a ≠ p → H a = some o → H' a = some o
theorem Exd.refl (p : Addr) (H : Hp) : Exd p H H := fun _ _ _ h => h
theorem Exd.trans {p : Addr} {H H1 H2 : Hp} (a : Exd p H H1) (b : Exd p H1 H2) : Exd p H H2 := fun c o n h => b c o n (a c o n h)
theorem Exd.of {p : Addr} (e : Ex H H') : Exd p H H' := fun a o _ h => e a o h
theorem Exd.upd {p : Addr} {o : HO} : Exd p H (upd H p o) := fun a u n h => by rw [upd_ne n]; exact h
def Dice (p : Addr) (H : Hp) : Prop := ∃ a b c : Int, H p = some (.lst [.int a, .int b, .int c])
theorem Dice.ex {p : Addr} (e : Ex H H') (d : Dice p H) : Dice p H' := by
  obtain ⟨a, b, c, h⟩ := d
  exact ⟨a, b, c, e _ _ h⟩
theorem Exd.l {p a : Addr} {xs : List V} (e : Exd p H H') (n : a ≠ p) (h : SqL K H a xs) : SqL K H' a xs := by
  rcases h with (h | ⟨o, h⟩) | h
  · exact .inl (.inl (e _ _ n h))
  · exact .inl (.inr ⟨o, e _ _ n h⟩)
  · exact .inr h
/-! ### more values -/
theorem ev_ite {b : Bool} {v1 v2 : V} (h : EvT t σ H b) (h1 : b = true → Ev ta σ H v1) (h2 : b = false → Ev tb σ H v2) : Ev (tIf t ta tb) σ H (if b = true then v1 else v2) :=
  ev_if h (fun e => by rw [if_pos e]; exact h1 e) (fun e => by rw [if_neg (by rw [e]; exact Bool.false_ne_true)]; exact h2 e)
theorem ev_pow {a b c : Int} (h : 0 ≤ b ∧ b ≤ 1000000 ∧ a.natAbs < 2 ^ 64) (e : a ^ b.toNat = c) : Ev (tOp (rI CPow fun i j => .int (i ^ j.toNat)) (tC (.int a)) (tC (.int b))) σ H (.int c) := by
  rw [← e]
  exact ev_op ev_c ev_c (rv_I h)
/-- the type of a value, and what isinstance says of int and bool -/
def isIB : V → Bool
  | .int _ => true
  | .bl _ => true
  | _ => false
def isB : V → Bool
  | .bl _ => true
  | _ => false
def isS : V → Bool
  | .str _ => true
  | _ => false
/-- a plain value: its type is a built-in one -/
def Plain (K : PySem.W.Frag) (H : Hp) (x : V) : Prop := ∃ n, TyX K H x (.type n)
theorem isi_int {n : String} (h : TyX K H x (.type n)) : PySem.W.kitOne K (.type n) (.type "int") = some (isIB x) := by
  cases h with
  | base b => cases b <;> first | exact kit_ty (r := false) (by decide +kernel) | exact kit_ty (r := true) (by decide +kernel)
  | byt _ => first | exact kit_ty (r := false) (by decide +kernel) | exact kit_ty (r := true) (by decide +kernel)
  | set _ => first | exact kit_ty (r := false) (by decide +kernel) | exact kit_ty (r := true) (by decide +kernel)
  | kList _ _ => first | exact kit_ty (r := false) (by decide +kernel) | exact kit_ty (r := true) (by decide +kernel)
  | kTuple _ _ => first | exact kit_ty (r := false) (by decide +kernel) | exact kit_ty (r := true) (by decide +kernel)
  | kDict _ _ => first | exact kit_ty (r := false) (by decide +kernel) | exact kit_ty (r := true) (by decide +kernel)
  | fTuple _ => first | exact kit_ty (r := false) (by decide +kernel) | exact kit_ty (r := true) (by decide +kernel)
  | fDict _ => first | exact kit_ty (r := false) (by decide +kernel) | exact kit_ty (r := true) (by decide +kernel)
theorem isi_bool {n : String} (h : TyX K H x (.type n)) : PySem.W.kitOne K (.type n) (.type "bool") = some (isB x) := by
  cases h with
  | base b => cases b <;> first | exact kit_ty (r := false) (by decide +kernel) | exact kit_ty (r := true) (by decide +kernel)
  | byt _ => first | exact kit_ty (r := false) (by decide +kernel) | exact kit_ty (r := true) (by decide +kernel)
  | set _ => first | exact kit_ty (r := false) (by decide +kernel) | exact kit_ty (r := true) (by decide +kernel)
  | kList _ _ => first | exact kit_ty (r := false) (by decide +kernel) | exact kit_ty (r := true) (by decide +kernel)
  | kTuple _ _ => first | exact kit_ty (r := false) (by decide +kernel) | exact kit_ty (r := true) (by decide +kernel)
  | kDict _ _ => first | exact kit_ty (r := false) (by decide +kernel) | exact kit_ty (r := true) (by decide +kernel)
  | fTuple _ => first | exact kit_ty (r := false) (by decide +kernel) | exact kit_ty (r := true) (by decide +kernel)
  | fDict _ => first | exact kit_ty (r := false) (by decide +kernel) | exact kit_ty (r := true) (by decide +kernel)
theorem ty_ex {u : Value} (e : Ex H H') (h : TyX K H x u) : TyX K H' x u := by
  cases h with
  | base b =>
    cases b with
    | non => exact .base .non
    | bl y => exact .base (.bl y)
    | int y => exact .base (.int y)
    | str y => exact .base (.str y)
    | flt y => exact .base (.flt y)
    | lst h => exact .base (.lst (e _ _ h))
    | frz h => exact .base (.frz (e _ _ h))
    | tup h => exact .base (.tup (e _ _ h))
    | dK h => exact .base (.dK (e _ _ h))
    | dT h => exact .base (.dT (e _ _ h))
    | ins h a b c d f => exact .base (.ins (e _ _ h) a b c d f)
  | byt b => exact .byt b
  | set h => exact .set (e _ _ h)
  | kList h c => exact .kList h c
  | kTuple h c => exact .kTuple h c
  | kDict h c => exact .kDict h c
  | fTuple h => exact .fTuple (e _ _ h)
  | fDict h => exact .fDict (e _ _ h)
theorem Plain.ex (e : Ex H H') (h : Plain K H x) : Plain K H' x := by
  obtain ⟨n, h⟩ := h
  exact ⟨n, ty_ex e h⟩
theorem rc_isiInt (h : Plain K H x) : RC (rIsi K) [x, .ty "int"] H (.bl (isIB x)) := fun H1 e Q q => by
  obtain ⟨n, h⟩ := h.ex e
  exact ⟨x, .ty "int", .type n, .type "int", _, rfl, .ty _, h, isi_int h, q H1 (Ex.refl H1)⟩
theorem rc_isiBool (h : Plain K H x) : RC (rIsi K) [x, .ty "bool"] H (.bl (isB x)) := fun H1 e Q q => by
  obtain ⟨n, h⟩ := h.ex e
  exact ⟨x, .ty "bool", .type n, .type "bool", _, rfl, .ty _, h, isi_bool h, q H1 (Ex.refl H1)⟩
/-- an integer of at most sixty digits -/
def isIntV : V → Bool
  | .int i => decide (-1000000000000000000000000000000000000000000000000000000000000 < i) && decide (i < 1000000000000000000000000000000000000000000000000000000000000)
  | _ => false
def isWithin (lo hi : Int) : V → Bool
  | .int i => isIntV (.int i) && (decide (lo ≤ i) && decide (i ≤ hi))
  | _ => false
theorem pl_int {i : Int} : Plain K H (.int i) := ⟨_, .base (.int i)⟩
theorem pl_bl {i : Bool} : Plain K H (.bl i) := ⟨_, .base (.bl i)⟩
theorem pl_str {i : Str} : Plain K H (.str i) := ⟨_, .base (.str i)⟩
theorem pl_non : Plain K H .non := ⟨_, .base .non⟩
theorem pl_lst {a : Addr} {xs : List V} (h : H a = some (.lst xs)) : Plain K H (.ref a) := ⟨_, .base (.lst h)⟩
theorem pl_tup {a : Addr} {xs : List V} (h : H a = some (.tup xs)) : Plain K H (.ref a) := ⟨_, .base (.tup h)⟩
theorem pl_dK {a : Addr} {xs : List (Key × V)} (h : H a = some (.dK xs)) : Plain K H (.ref a) := ⟨_, .base (.dK h)⟩
/-! ### loops over a new tuple -/
variable {tu tw tz : TS} {g : TG}
theorem s_forNU {xs : List V} {tl : TE} (h : EvU tl σ H xs) (Pv : Addr → Nat → L2.St → Hp → Prop) (h0 : ∀ p H1, H p = none → Ex H H1 → H1 p = some (.tup xs) → Pv p 0 σ H1) (hl : ∀ p i σ' H', i ≤ xs.length → Pv p i σ' H' → SqT K H' p xs)
    (hs : ∀ p i x σ' H', xs[i]? = some x → Pv p i σ' H' → g x σ' H' fun σ2 H2 => tu { D with nx := Pv p (i + 1), ct := Pv p (i + 1), bk := D.nx } σ2 H2) (hd : ∀ p σ' H', Pv p xs.length σ' H' → D.nx σ' H') : tFor (iTup K tl) g tu D σ H :=
  h H (Ex.refl H) _ fun p H1 hp e h1 => ⟨p, rfl, ⟨xs, st_of h1⟩, for_tup (Pv p) (h0 p H1 hp e h1) (hl p) (hs p) (hd p)⟩
theorem q_forNU {xs : List V} {tl : TE} (h : EvU tl σ H xs) (Pv : Addr → Nat → L2.St → Hp → Prop) (h0 : ∀ p H1, H p = none → Ex H H1 → H1 p = some (.tup xs) → Pv p 0 σ H1) (hl : ∀ p i σ' H', i ≤ xs.length → Pv p i σ' H' → SqT K H' p xs)
    (hs : ∀ p i x σ' H', xs[i]? = some x → Pv p i σ' H' → g x σ' H' fun σ2 H2 => tu { D with nx := Pv p (i + 1), ct := Pv p (i + 1), bk := tz D } σ2 H2) (hd : ∀ p σ' H', Pv p xs.length σ' H' → tz D σ' H') : tSeq (tFor (iTup K tl) g tu) tz D σ H :=
  s_forNU (D := { D with nx := tz D }) h Pv h0 hl hs hd
/-! ### what draws from the dice -/
def Dv (p : Addr) (te : TE) (σ : L2.St) (H : Hp) (R : V → Prop) : Prop := ∀ H1, Exd p H H1 → Dice p H1 → ∀ Q : VK, (∀ v H2, R v → Exd p H1 H2 → Dice p H2 → Q v H2) → te σ H1 Q
def DvA (p : Addr) (ta : TA) (σ : L2.St) (H : Hp) (R : List V → Prop) : Prop := ∀ H1, Exd p H H1 → Dice p H1 → ∀ Q : List V → Hp → Prop, (∀ v H2, R v → Exd p H1 H2 → Dice p H2 → Q v H2) → ta σ H1 Q
theorem dv_ev {p : Addr} {R : V → Prop} (h : ∀ H1, Exd p H H1 → Dice p H1 → Ev te σ H1 v) (hr : R v) : Dv p te σ H R := fun H1 e d Q q => h H1 e d H1 (Ex.refl H1) Q fun H2 e2 => q v H2 hr (Exd.of e2) (d.ex e2)
theorem Dv.mono {p : Addr} {R R' : V → Prop} (h : Dv p te σ H R) (k : ∀ v, R v → R' v) : Dv p te σ H R' := fun H1 e d Q q => h H1 e d Q fun v H2 r => q v H2 (k v r)
theorem da_nil {p : Addr} {P : V → Prop} : DvA p tNil σ H (fun vs => vs.length = 0 ∧ ∀ v ∈ vs, P v) := fun H1 e d Q q => q [] H1 ⟨rfl, fun _ h => by cases h⟩ (Exd.refl p H1) d
theorem da_cons {p : Addr} {n : Nat} {P : V → Prop} {tr : TA} (h : Dv p te σ H P) (hr : DvA p tr σ H (fun vs => vs.length = n ∧ ∀ v ∈ vs, P v)) : DvA p (tCons te tr) σ H (fun vs => vs.length = n + 1 ∧ ∀ v ∈ vs, P v) := fun H1 e d Q q =>
  h H1 e d _ fun v H2 r e2 d2 => hr H2 (e.trans e2) d2 _ fun vs H3 rs e3 d3 => q (v :: vs) H3 ⟨by rw [List.length_cons, rs.1], fun x hx => by
    rcases List.mem_cons.mp hx with z | z
    · rw [z]; exact r
    · exact rs.2 x z⟩ (e2.trans e3) d3
theorem Exd.none {p a : Addr} (e : Exd p H H') (n : a ≠ p) (h : H' a = none) : H a = none := by
  cases q : H a with
  | none => rfl
  | some o => rw [e a o n q] at h; cases h
theorem Dice.ne {p a : Addr} (d : Dice p H) (h : H a = none) : a ≠ p := by
  obtain ⟨x, y, z, hp⟩ := d
  intro e
  rw [e, hp] at h
  cases h
/-- the call of a def that draws: what it promises of its answer -/
def Draws (ok : List V → Hp → Addr → (V → Prop) → Prop) : Sp := fun vs H Q _ => ∃ (p : Addr) (R : V → Prop), ok vs H p R ∧ Dice p H ∧ ∀ v H', R v → Exd p H H' → Dice p H' → Q v H'
theorem dv_call {ok : List V → Hp → Addr → (V → Prop) → Prop} {E : XK} {ts : TA} {p : Addr} {R : V → Prop} {vs : List V} (h : ∀ H1, Exd p H H1 → Dice p H1 → EvA ts σ H1 vs) (ho : ∀ H1, Exd p H H1 → Dice p H1 → ok vs H1 p R) : Dv p (tCall (Draws ok) [] E ts) σ H R := fun H1 e d Q q =>
  h H1 e d H1 (Ex.refl H1) _ fun H2 e2 => by
    show Draws ok (vs ++ []) H2 Q E
    rw [List.append_nil]
    exact ⟨p, R, ho H2 (e.trans (Exd.of e2)) (d.ex e2), d.ex e2, fun v H3 r e3 d3 => q v H3 r ((Exd.of e2).trans e3) d3⟩
theorem sc_mulr {i j : Int} (h : -18446744073709551616 < j ∧ j < 18446744073709551616) : CMul i j := .inr h
theorem q_asgI {i : Nat} (h : ∃ c : Int, Ev te σ H (.int c)) (k : ∀ (c : Int) H1, Ex H H1 → tz D (σ.set i (some (.int c))) H1) : tSeq (tAsg te (gName i)) tz D σ H := by
  obtain ⟨c, h⟩ := h
  exact q_asg h (k c)
/-! ### data of any depth -/
mutual
theorem dp_ex (e : Ex H H') : ∀ {d : PyData} {x : V}, Dp K H x d → Dp K H' x d
  | _, _, .non => .non
  | _, _, .bl b => .bl b
  | _, _, .int i => .int i
  | _, _, .str z => .str z
  | _, _, .lst h a => .lst (ex_l e h) (dpa_ex e a)
  | _, _, .tup h a => .tup (ex_t e h) (dpa_ex e a)
theorem dpa_ex (e : Ex H H') : ∀ {ds : List PyData} {xs : List V}, DpAll K H xs ds → DpAll K H' xs ds
  | _, _, .nil => .nil
  | _, _, .cons h t => .cons (dp_ex e h) (dpa_ex e t)
end
def EvD (K : PySem.W.Frag) (te : TE) (σ : L2.St) (H : Hp) (d : PyData) : Prop := ∀ H1, Ex H H1 → ∀ Q : VK, (∀ v H2, Ex H1 H2 → Dp K H2 v d → Q v H2) → te σ H1 Q
def EvDA (K : PySem.W.Frag) (ta : TA) (σ : L2.St) (H : Hp) (ds : List PyData) : Prop := ∀ H1, Ex H H1 → ∀ Q : List V → Hp → Prop, (∀ vs H2, Ex H1 H2 → DpAll K H2 vs ds → Q vs H2) → ta σ H1 Q
theorem dpa_len : ∀ {vs : List V} {ds : List PyData}, DpAll K H vs ds → vs.length = ds.length
  | _, _, .nil => rfl
  | _, _, .cons _ t => congrArg (· + 1) (dpa_len t)
theorem evd_of {d : PyData} (h : Ev te σ H v) (hd : ∀ H1, Ex H H1 → Dp K H1 v d) : EvD K te σ H d := fun H1 e Q q => h H1 e Q fun H2 e2 => q v H2 e2 (hd H2 (e.trans e2))
theorem evd_int {i : Int} (h : Ev te σ H (.int i)) : EvD K te σ H (.int i) := evd_of h fun _ _ => .int i
theorem evd_bl {b : Bool} (h : Ev te σ H (.bl b)) : EvD K te σ H (.bool b) := evd_of h fun _ _ => .bl b
theorem evd_str {z : Str} (h : Ev te σ H (.str z)) : EvD K te σ H (.str z) := evd_of h fun _ _ => .str z
theorem evd_non (h : Ev te σ H .non) : EvD K te σ H .none := evd_of h fun _ _ => .non
theorem evda_nil : EvDA K tNil σ H [] := fun H1 _ _ q => q [] H1 (Ex.refl H1) .nil
theorem evda_cons {d : PyData} {ds : List PyData} {tr : TA} (h : EvD K te σ H d) (hr : EvDA K tr σ H ds) : EvDA K (tCons te tr) σ H (d :: ds) := fun H1 e Q q =>
  h H1 e _ fun v H2 e2 hv => hr H2 (e.trans e2) _ fun vs H3 e3 hs => q (v :: vs) H3 (e2.trans e3) (.cons (dp_ex e3 hv) hs)
theorem evd_tup {ds : List PyData} {ts : TA} (h : EvDA K ts σ H ds) (hl : ds.length ≤ 100000) : EvD K (tTup ts) σ H (.tuple ds) := fun H1 e Q q =>
  h H1 e _ fun vs H2 e2 hs => ⟨by rw [dpa_len hs]; exact sz_of hl, fun p hp => q _ _ (e2.trans (Ex.new hp)) (.tup (st_of upd_same) (dpa_ex (Ex.new hp) hs))⟩
theorem evd_lst {ds : List PyData} {ts : TA} (h : EvDA K ts σ H ds) (hl : ds.length ≤ 100000) : EvD K (tLst ts) σ H (.list ds) := fun H1 e Q q =>
  h H1 e _ fun vs H2 e2 hs => ⟨by rw [dpa_len hs]; exact sz_of hl, fun p hp => q _ _ (e2.trans (Ex.new hp)) (.lst (sq_of upd_same) (dpa_ex (Ex.new hp) hs))⟩
theorem ev_eqD {d e : PyData} (h1 : EvD K ta σ H d) (h2 : EvD K tb σ H e) (s1 : SeqAt.shaped d = true) (s2 : SeqAt.shaped e = true) : Ev (tOp (rEqD K) ta tb) σ H (.bl (PyData.eqv d e)) := fun H1 x Q q =>
  h1 H1 x _ fun v H2 x2 hv => h2 H2 (x.trans x2) _ fun u H3 x3 hu => ⟨d, e, dp_ex x3 hv, hu, s1, s2, q H3 (x2.trans x3)⟩
theorem ev_neD {d e : PyData} (h1 : EvD K ta σ H d) (h2 : EvD K tb σ H e) (s1 : SeqAt.shaped d = true) (s2 : SeqAt.shaped e = true) : Ev (tOp (rNeD K) ta tb) σ H (.bl (!PyData.eqv d e)) := fun H1 x Q q =>
  h1 H1 x _ fun v H2 x2 hv => h2 H2 (x.trans x2) _ fun u H3 x3 hu => ⟨d, e, dp_ex x3 hv, hu, s1, s2, q H3 (x2.trans x3)⟩
/-! ### dicts laid on the way -/
def EvPs (trs : List (TE × TE)) (σ : L2.St) (H : Hp) (ps : List (V × V)) : Prop := ∀ H1, Ex H H1 → ∀ Q : List (V × V) → Hp → Prop, (∀ H2, Ex H1 H2 → Q ps H2) → tPairs trs σ H1 Q
theorem eps_nil : EvPs [] σ H [] := fun H1 _ _ q => q H1 (Ex.refl H1)
theorem eps_cons {trs : List (TE × TE)} {ps : List (V × V)} (h1 : Ev ta σ H x) (h2 : Ev tb σ H y) (hr : EvPs trs σ H ps) : EvPs ((ta, tb) :: trs) σ H ((x, y) :: ps) := fun H1 e Q q =>
  h1 H1 e _ fun H2 e2 => h2 H2 (e.trans e2) _ fun H3 e3 => hr H3 ((e.trans e2).trans e3) _ fun H4 e4 => q H4 ((e2.trans e3).trans e4)
def EvK (te : TE) (σ : L2.St) (H : Hp) (kvs : List (Key × V)) : Prop := ∀ H1, Ex H H1 → ∀ Q : VK, (∀ p H2, H1 p = none → Ex H1 H2 → H2 p = some (.dK kvs) → Q (.ref p) H2) → te σ H1 Q
theorem ek_disp {trs : List (TE × TE)} {ps : List (V × V)} (kvs : List (Key × V)) (h : EvPs trs σ H ps) (e : ps = kvs.map fun kv => (kV kv.1, kv.2)) (hl : kvs.length ≤ 15) : EvK (tDisp trs) σ H (mergeK [] kvs) := fun H1 x Q q p hp =>
  h (upd H1 p (.dK [])) (x.trans (Ex.new hp)) _ fun H2 x2 => ⟨x2 _ _ upd_same, kvs, e, hl, q p _ hp (fun a o ha => by rw [upd_ne (ne_of_none ha hp)]; exact x2 _ _ (Ex.new hp _ _ ha)) upd_same⟩
theorem ev_dgetK {kvs : List (Key × V)} {k : Key} (h1 : EvK ta σ H kvs) (h2 : Ev tb σ H (kV k)) (hv : valV kvs k = some v) : Ev (tDGet ta tb) σ H v := fun H1 e Q q =>
  h1 H1 e _ fun p H2 hp e2 h => h2 H2 (e.trans e2) _ fun H3 e3 => ⟨p, v, rfl, by rw [← hv]; exact DGet.k (e3 _ _ h), q H3 (e2.trans e3)⟩
/-! ### sorted ints, an item of a new list -/
theorem el_sorted {tl : TE} {ns ms : List Int} (h : EvL tl σ H (ns.map V.int)) (hl : ns.length < 64) (hp : ms.Perm ns) (hs : ms.Pairwise (· ≤ ·)) : EvL (tCB (rSorted K) (tCons tl tNil)) σ H (ms.map V.int) := fun H1 e Q q =>
  h H1 e _ fun p H2 hp2 e2 h2 => ⟨p, ns, rfl, sq_of h2, hl, fun ns' a hp' hs' ha => by
    have z : ns' = ms := PySem.W.ksm_same (hp'.trans hp.symm) hs' hs
    rw [z]
    exact q a _ (fresh_back e2 ha) (e2.trans (Ex.new ha)) upd_same⟩
theorem ev_ixN {xs : List V} {i : Int} (h : EvL ta σ H xs) (hb : ∀ H1, Ex H H1 → Ev tb σ H1 (.int i)) (ha : atI xs i = some v) : Ev (tOp (rIxL K) ta tb) σ H v := ev_opL1 h hb fun p H1 hp _ => rv_ixL (sq_of hp) ha
theorem q_asgDL {p : Addr} {i : Nat} {ts : TA} {R : List V → Prop} (h : DvA p ts σ H R) (hd : Dice p H) (hl : ∀ vs, R vs → vs.length ≤ 100000) (k : ∀ l xs H1, R xs → Exd p H H1 → Dice p H1 → H1 l = some (.lst xs) → l ≠ p → tz D (σ.set i (some (.ref l))) H1) : tSeq (tAsg (tLst ts) (gName i)) tz D σ H :=
  h H (Exd.refl p H) hd _ fun xs H1 hx e1 d1 => ⟨sz_of (hl xs hx), fun l hl => k l xs _ hx (e1.trans (Exd.of (Ex.new hl))) (d1.ex (Ex.new hl)) upd_same (d1.ne hl)⟩
/-- xs + [drawn things]: a new list of both -/
theorem cat_go {p : Addr} {ts : TA} {R : List V → Prop} {l : Addr} {i : Nat} {xs : List V} {Q : VK} (h : DvA p ts σ H R) (hd : Dice p H) (hx : H l = some (.lst xs)) (hlp : l ≠ p) (hi : σ[i]? = some (some (.ref l))) (hl : ∀ ys, R ys → xs.length + ys.length ≤ 100000)
    (k : ∀ ys l4 H', R ys → Exd p H H' → Dice p H' → H' l4 = some (.lst (xs ++ ys)) → l4 ≠ p → Q (.ref l4) H') : tOp rCat (tVar i) (tLst ts) σ H Q :=
  ⟨.ref l, hi, h H (Exd.refl p H) hd _ fun ys H3 hy e3 d3 => ⟨sz_of (Nat.le_trans (Nat.le_add_left _ _) (hl ys hy)), fun l2 hl2 => ⟨l, l2, xs, ys, rfl, rfl, Ex.new hl2 _ _ (e3 _ _ hlp hx), upd_same, sz_of (hl ys hy), fun l4 hl4 =>
    k ys l4 _ hy (e3.trans ((Exd.of (Ex.new hl2)).trans (Exd.of (Ex.new hl4)))) ((d3.ex (Ex.new hl2)).ex (Ex.new hl4)) upd_same ((d3.ex (Ex.new hl2)).ne hl4)⟩⟩⟩
/-- a if t else b, as a test -/
def tIfT (t u1 u2 : TT) : TT := fun σ H Q => t σ H fun c H1 => if c = true then u1 σ H1 Q else u2 σ H1 Q
theorem pt_ifExp {X : Cx} {c a b : Expr} {pos : Pos} {tA t1 t2 : TT} (hc : PT X c tA) (ha : PT X a t1) (hb : PT X b t2) : PT X (.IfExp c a b pos) (tIfT tA t1 t2) := by
  refine ⟨fun pins s σ H Q I h => ?_⟩
  refine isTrue_IfExp (thn (hc.run pins s σ H _ I h) fun d s1 ⟨H1, I1, q1⟩ => ?_)
  cases d with
  | true => exact ha.run pins s1 σ H1 Q I1 q1
  | false => exact hb.run pins s1 σ H1 Q I1 q1
theorem et_ifT {u1 u2 : TT} {b c : Bool} (h : EvT t σ H b) (h1 : b = true → EvT u1 σ H c) (h2 : b = false → EvT u2 σ H c) : EvT (tIfT t u1 u2) σ H c := fun H1 e Q q => h H1 e _ fun H2 e2 => by
  cases b with
  | true =>
    rw [if_pos rfl]
    exact h1 rfl H2 (e.trans e2) Q fun H3 e3 => q H3 (e2.trans e3)
  | false =>
    rw [if_neg Bool.false_ne_true]
    exact h2 rfl H2 (e.trans e2) Q fun H3 e3 => q H3 (e2.trans e3)
/-- a, b = a new tuple of two -/
theorem q_asg2U {i j : Nat} {v1 v2 : V} (h : EvU te σ H [v1, v2]) (k : ∀ H1, Ex H H1 → tz D ((σ.set i (some v1)).set j (some v2)) H1) : tSeq (tAsg te (gTup K 2 (gCons (gName i) (gCons (gName j) gNil)))) tz D σ H :=
  h H (Ex.refl H) _ fun p H1 hp e hl => ⟨p, [v1, v2], rfl, st_of hl, rfl, v1, [v2], rfl, v2, [], rfl, rfl, k H1 e⟩
/-! ### tests that hang on the dice, calls with a new tuple -/
def DvT (p : Addr) (t : TT) (σ : L2.St) (H : Hp) : Prop := ∀ H1, Exd p H H1 → Dice p H1 → ∀ Q : Bool → Hp → Prop, (∀ b H2, Exd p H1 H2 → Dice p H2 → Q b H2) → t σ H1 Q
def IntV (v : V) : Prop := ∃ n : Int, v = .int n
theorem dvt_eq {p : Addr} {k : Int} (h : Dv p ta σ H IntV) : DvT p (tTest (tOp rEq ta (tC (.int k)))) σ H := fun H1 e d Q q =>
  h H1 e d _ fun v H2 hv e2 d2 => by
    obtain ⟨n, rfl⟩ := hv
    exact ⟨rfl, _, rfl, q _ H2 e2 d2⟩
theorem dv_if {p : Addr} {R : V → Prop} (h : DvT p t σ H) (h1 : Dv p ta σ H R) (h2 : Dv p tb σ H R) : Dv p (tIf t ta tb) σ H R := fun H1 e d Q q =>
  h H1 e d _ fun b H2 e2 d2 => by
    cases b with
    | true =>
      rw [if_pos rfl]
      exact h1 H2 (e.trans e2) d2 Q fun v H3 r e3 d3 => q v H3 r (e2.trans e3) d3
    | false =>
      rw [if_neg Bool.false_ne_true]
      exact h2 H2 (e.trans e2) d2 Q fun v H3 r e3 d3 => q v H3 r (e2.trans e3) d3
theorem dv_op {p : Addr} {R1 R2' R : V → Prop} (h1 : Dv p ta σ H R1) (h2 : Dv p tb σ H R2') (hr : ∀ x y H1, R1 x → R2' y → ∃ z, RV r x y H1 z ∧ R z) : Dv p (tOp r ta tb) σ H R := fun H1 e d Q q =>
  h1 H1 e d _ fun x H2 hx e2 d2 => h2 H2 (e.trans e2) d2 _ fun y H3 hy e3 d3 => by
    obtain ⟨z, hz, rz⟩ := hr x y H3 hx hy
    exact hz H3 (Ex.refl H3) Q fun H4 e4 => q z H4 rz ((e2.trans e3).trans (Exd.of e4)) (d3.ex e4)
theorem dv_c {p : Addr} {R : V → Prop} (hr : R v) : Dv p (tC v) σ H R := dv_ev (fun H1 _ _ => ev_c) hr
theorem dv_var {p : Addr} {i : Nat} {R : V → Prop} (h : σ[i]? = some (some v)) (hr : R v) : Dv p (tVar i) σ H R := dv_ev (fun H1 _ _ => ev_var h) hr
theorem ev_callU {ok : List V → Hp → V → Prop} {E : XK} {xs : List V} (h1 : Ev ta σ H x) (h2 : EvU tb σ H xs) (ho : ∀ p H1, Ex H H1 → H1 p = some (.tup xs) → ok [x, .ref p] H1 z) : Ev (tCall (Pure ok) [] E (tCons ta (tCons tb tNil))) σ H z := fun H1 e Q q =>
  h1 H1 e _ fun H2 e2 => h2 H2 (e.trans e2) _ fun p H3 hp e3 h3 => ⟨z, ho p H3 ((e.trans e2).trans e3) h3, fun H4 e4 => q H4 ((e2.trans e3).trans e4)⟩
/-- a call that draws, whose last argument is a new list -/
theorem dv_pickL {ok : List V → Hp → Addr → (V → Prop) → Prop} {E : XK} {p : Addr} {R : V → Prop} {xs : List V} {i : Nat} (hs : σ[i]? = some (some (.ref p))) (h : ∀ H1, Exd p H H1 → Dice p H1 → EvL tb σ H1 xs) (ho : ∀ l H1, Exd p H H1 → Dice p H1 → l ≠ p → H1 l = some (.lst xs) → ok [.ref p, .ref l] H1 p R) :
    Dv p (tCall (Draws ok) [] E (tCons (tVar i) (tCons tb tNil))) σ H R := fun H1 e d Q q => ⟨.ref p, hs, h H1 e d H1 (Ex.refl H1) _ fun l H2 hl e2 h2 => ⟨p, R, ho l H2 (e.trans (Exd.of e2)) (d.ex e2) (d.ne hl) h2, d.ex e2, fun v H3 r e3 d3 => q v H3 r ((Exd.of e2).trans e3) d3⟩⟩
theorem q_asgDv {p : Addr} {i : Nat} {R : V → Prop} (h : Dv p te σ H R) (hd : Dice p H) (k : ∀ v H1, R v → Exd p H H1 → Dice p H1 → tz D (σ.set i (some v)) H1) : tSeq (tAsg te (gName i)) tz D σ H := h H (Exd.refl p H) hd _ fun v H1 r e1 d1 => k v H1 r e1 d1
theorem s_retDv {p : Addr} {R : V → Prop} (h : Dv p te σ H R) (hd : Dice p H) (k : ∀ v H1, R v → Exd p H H1 → Dice p H1 → D.rt v H1) : tRet te D σ H := h H (Exd.refl p H) hd _ fun v H1 r e1 d1 => k v H1 r e1 d1
theorem q_par {ts : TA} {i j : Nat} {v1 v2 : V} (h : EvA ts σ H [v1, v2]) (k : ∀ H1, Ex H H1 → tz D ((σ.set i (some v1)).set j (some v2)) H1) : tSeq (tPar i j ts) tz D σ H := h H (Ex.refl H) _ fun H1 e1 => ⟨v1, v2, rfl, k H1 e1⟩
theorem q_parDv {p : Addr} {i j : Nat} {R1 R2' : V → Prop} (h1 : Dv p ta σ H R1) (h2 : Dv p tb σ H R2') (hd : Dice p H) (k : ∀ v1 v2 H1, R1 v1 → R2' v2 → Exd p H H1 → Dice p H1 → tz D ((σ.set i (some v1)).set j (some v2)) H1) : tSeq (tPar i j (tCons ta (tCons tb tNil))) tz D σ H :=
  h1 H (Exd.refl p H) hd _ fun v1 H1 r1 e1 d1 => h2 H1 e1 d1 _ fun v2 H2 r2 e2 d2 => ⟨v1, v2, rfl, k v1 v2 H2 r1 r2 (e1.trans e2) d2⟩
/-! ### tests that are known, whatever the dice did -/
def DvF (p : Addr) (t : TT) (σ : L2.St) (H : Hp) (b : Bool) : Prop := ∀ H1, Exd p H H1 → Dice p H1 → ∀ Q : Bool → Hp → Prop, (∀ H2, Exd p H1 H2 → Dice p H2 → Q b H2) → t σ H1 Q
theorem dvf_et {p : Addr} {b : Bool} (h : ∀ H1, Exd p H H1 → Dice p H1 → EvT t σ H1 b) : DvF p t σ H b := fun H1 e d Q q => h H1 e d H1 (Ex.refl H1) Q fun H2 e2 => q H2 (Exd.of e2) (d.ex e2)
theorem dvf_or {p : Addr} {b : Bool} (h1 : DvF p t σ H false) (h2 : DvF p u σ H b) : DvF p (tOr t u) σ H b := fun H1 e d Q q => h1 H1 e d _ fun H2 e2 d2 => by
  rw [if_neg Bool.false_ne_true]
  exact h2 H2 (e.trans e2) d2 Q fun H3 e3 d3 => q H3 (e2.trans e3) d3
theorem dvf_not {p : Addr} {b : Bool} (h : DvF p t σ H b) : DvF p (tNot t) σ H (!b) := fun H1 e d Q q => h H1 e d _ fun H2 e2 d2 => q H2 e2 d2
theorem dvf_B {p : Addr} {b : Bool} (h : Dv p te σ H (fun v => v = .bl b)) : DvF p (tB te) σ H b := fun H1 e d Q q => h H1 e d _ fun v H2 hv e2 d2 => ⟨b, hv, q H2 e2 d2⟩
theorem q_whenF {p : Addr} (h : DvF p t σ H false) (hd : Dice p H) (k : ∀ H1, Exd p H H1 → Dice p H1 → tz D σ H1) : tSeq (tIfS t tu tNext) tz D σ H := h H (Exd.refl p H) hd _ fun H1 e1 d1 => by
  rw [if_neg Bool.false_ne_true]
  exact k H1 e1 d1
/-! ### tuples, whatever the dice did -/
def DvU (K : PySem.W.Frag) (p : Addr) (te : TE) (σ : L2.St) (H : Hp) (R : List V → Prop) : Prop := ∀ H1, Exd p H H1 → Dice p H1 → ∀ Q : VK, (∀ b xs H2, R xs → b ≠ p → Exd p H1 H2 → Dice p H2 → SqT K H2 b xs → Q (.ref b) H2) → te σ H1 Q
theorem Exd.tt {p a : Addr} {xs : List V} (e : Exd p H H') (n : a ≠ p) (h : SqT K H a xs) : SqT K H' a xs := by
  rcases h with (h | ⟨o, h⟩) | h
  · exact .inl (.inl (e _ _ n h))
  · exact .inl (.inr ⟨o, e _ _ n h⟩)
  · exact .inr h
theorem du_sl {p a : Addr} {i : Nat} {xs : List V} {lo hi : Option Int} {tl th : TO} (hs : σ[i]? = some (some (.ref a))) (hap : a ≠ p) (hT : SqT K H a xs) (hl : ∀ H1, EvO tl σ H1 lo) (hh : ∀ H1, EvO th σ H1 hi) (hc : HT.sIx xs.length 0 lo = 0 ∧ HT.sIx xs.length xs.length hi = xs.length → cutV xs lo hi = xs) :
    DvU K p (tSl (rSlA K) (tVar i) tl th) σ H (fun ys => ys = cutV xs lo hi) := fun H1 e d Q q => ⟨.ref a, hs, hl H1 H1 (Ex.refl H1) _ fun H2 e2 => hh H2 H2 (Ex.refl H2) _ fun H3 e3 => ⟨a, xs, rfl, ex_t (e2.trans e3) (e.tt hap hT),
  fun z => q a xs H3 (hc z).symm hap (Exd.of (e2.trans e3)) (d.ex (e2.trans e3)) (ex_t (e2.trans e3) (e.tt hap hT)),
  fun _ b hb => q b _ _ rfl ((d.ex (e2.trans e3)).ne hb) (Exd.of ((e2.trans e3).trans (Ex.new hb))) (d.ex ((e2.trans e3).trans (Ex.new hb))) (st_of upd_same)⟩⟩
theorem du_one {p : Addr} {R : V → Prop} (h : Dv p te σ H R) : DvU K p (tTup (tCons te tNil)) σ H (fun ys => ∃ v, ys = [v] ∧ R v) := fun H1 e d Q q => h H1 e d _ fun v H2 hv e2 d2 => ⟨by show 1 ≤ sizeLine; decide, fun b hb => q b [v] _ ⟨v, rfl, hv⟩ (d2.ne hb) (e2.trans (Exd.of (Ex.new hb))) (d2.ex (Ex.new hb)) (st_of upd_same)⟩
theorem du_cat {p : Addr} {R1 R2' R : List V → Prop} (h1 : DvU K p ta σ H R1) (h2 : DvU K p tb σ H R2') (hr : ∀ xs ys, R1 xs → R2' ys → R (xs ++ ys) ∧ xs.length + ys.length ≤ 100000) : DvU K p (tOp (rCatA K) ta tb) σ H R := fun H1 e d Q q =>
  h1 H1 e d _ fun a xs H2 hx ha e2 d2 h2x => h2 H2 (e.trans e2) d2 _ fun b ys H3 hy hb e3 d3 h3y => by
    obtain ⟨r1, r2⟩ := hr xs ys hx hy
    refine ⟨a, b, xs, ys, rfl, rfl, e3.tt ha h2x, h3y, sz_of r2, fun z => ?_, fun _ z => ?_, fun _ _ c hc => ?_⟩
    · subst z
      exact q b ys H3 r1 hb (e2.trans e3) d3 h3y
    · subst z
      rw [List.append_nil] at r1
      exact q a xs H3 r1 ha (e2.trans e3) d3 (e3.tt ha h2x)
    · exact q c _ _ r1 (d3.ne hc) ((e2.trans e3).trans (Exd.of (Ex.new hc))) (d3.ex (Ex.new hc)) (st_of upd_same)
theorem q_asgU2 {p : Addr} {i : Nat} {R : List V → Prop} (h : DvU K p te σ H R) (hd : Dice p H) (k : ∀ b xs H1, R xs → b ≠ p → Exd p H H1 → Dice p H1 → SqT K H1 b xs → tz D (σ.set i (some (.ref b))) H1) : tSeq (tAsg te (gName i)) tz D σ H := h H (Exd.refl p H) hd _ fun b xs H1 hx hb e1 d1 hT => k b xs H1 hx hb e1 d1 hT
def rTupL (K : PySem.W.Frag) : List V → Hp → VK → Prop := fun xs H Q => ∃ p ys, xs = [.ref p] ∧ SqL K H p ys ∧ ∀ l, H l = none → Q (.ref l) (upd H l (.tup ys))
theorem c_tupL {X : Cx} : CallR X (.type "tuple") (rTupL X.K) := callR_mono call_tuple_of fun vs H Q h => by
  obtain ⟨p, ys, e, hs, k⟩ := h
  exact ⟨p, ys, e, .inl ⟨hs, k⟩⟩
/-- [e for x in range(n)], each e drawn -/
theorem dl_lcR {p : Addr} {n j : Nat} {vs : List Nat} {R : V → Prop} {Q : VK} (hw : ∀ x, wipe ((wipe σ vs).set j (some x)) vs = wipe σ vs) (hn : n ≤ 1000) (he : ∀ i : Nat, i < n → Dv p te ((wipe σ vs).set j (some (.int (0 + (i : Int))))) H R) (hd : Dice p H)
    (k : ∀ l xs H2, (xs.length = n ∧ ∀ v ∈ xs, R v) → l ≠ p → Exd p H H2 → Dice p H2 → H2 l = some (.lst xs) → Q (.ref l) H2) : tLc (iRng1 (tCons (tC (.int n)) tNil)) (gName j) tYes te vs σ H Q :=
  ⟨n, rfl, by omega, by omega, fun Dl hD => by
    have hDp : Dl ≠ p := hd.ne hD
    rw [show ((n : Int).toNat) = n from Int.toNat_natCast n]
    refine lc_range (fun i H' => Exd p H H' ∧ Dice p H' ∧ ∃ acc, H' Dl = some (.lst acc) ∧ acc.length = i ∧ ∀ v ∈ acc, R v) ⟨Exd.of (Ex.new hD), hd.ex (Ex.new hD), [], upd_same, rfl, fun _ h => by cases h⟩ ?_ ?_
    · rintro i H' hi ⟨e', d', acc, hacc, hlen, hR⟩
      refine ⟨hw _, ?_⟩
      unfold tYes
      dsimp only
      rw [if_pos rfl]
      refine he i hi H' e' d' _ fun v H4 hv e4 d4 => ⟨acc, e4 _ _ hDp hacc, sz_lt (by omega), fun a o ha ho => ?_, ?_, acc ++ [v], upd_same, by rw [List.length_append, hlen]; rfl, fun x hx => ?_⟩
      · rw [upd_ne (ne_of_none ho hD)]
        exact e4 _ _ ha (e' _ _ ha ho)
      · obtain ⟨x, y, z, h⟩ := d4
        exact ⟨x, y, z, by rw [upd_ne (Ne.symm hDp)]; exact h⟩
      · rcases List.mem_append.mp hx with z | z
        · exact hR x z
        · rw [List.mem_singleton.mp z]; exact hv
    · rintro H' ⟨e', d', acc, hacc, hlen, hR⟩
      exact k Dl acc H' ⟨hlen, hR⟩ hDp e' d' hacc⟩
theorem du_tupLc {p : Addr} {n j : Nat} {vs : List Nat} {R : V → Prop} (hw : ∀ x, wipe ((wipe σ vs).set j (some x)) vs = wipe σ vs) (hn : n ≤ 1000) (he : ∀ i : Nat, i < n → Dv p te ((wipe σ vs).set j (some (.int (0 + (i : Int))))) H R) :
    DvU K p (tCB (rTupL K) (tCons (tLc (iRng1 (tCons (tC (.int n)) tNil)) (gName j) tYes te vs) tNil)) σ H (fun ys => ys.length = n ∧ ∀ v ∈ ys, R v) := fun H1 e d Q q =>
  dl_lcR (Q := fun x H2 => rTupL K [x] H2 Q) hw hn (fun i hi H2 e2 => he i hi H2 (e.trans e2)) d fun l xs H2 hx hl e2 d2 h2 => ⟨l, xs, rfl, sq_of h2, fun b hb => q b xs _ hx (d2.ne hb) (e2.trans (Exd.of (Ex.new hb))) (d2.ex (Ex.new hb)) (st_of upd_same)⟩
theorem q_parU {p : Addr} {i j : Nat} {R1 : V → Prop} {R2' : List V → Prop} (h1 : Dv p ta σ H R1) (h2 : DvU K p tb σ H R2') (hd : Dice p H) (k : ∀ v1 b xs H1, R1 v1 → R2' xs → b ≠ p → Exd p H H1 → Dice p H1 → SqT K H1 b xs → tz D ((σ.set i (some v1)).set j (some (.ref b))) H1) : tSeq (tPar i j (tCons ta (tCons tb tNil))) tz D σ H :=
  h1 H (Exd.refl p H) hd _ fun v1 H1 r1 e1 d1 => h2 H1 e1 d1 _ fun b xs H2 hx hb e2 d2 hT => ⟨v1, .ref b, rfl, k v1 b xs H2 r1 hx hb (e1.trans e2) d2 hT⟩
theorem s_retCallDv {p : Addr} {ok : List V → Hp → V → Prop} {E : XK} {R : V → Prop} {i j : Nat} {x1 x2 : V} (h1 : σ[i]? = some (some x1)) (h2 : σ[j]? = some (some x2)) (h3 : Dv p te σ H R) (hd : Dice p H) (k : ∀ v H1, R v → Exd p H H1 → Dice p H1 → ok [x1, x2, v] H1 z) (q : ∀ H1, Exd p H H1 → Dice p H1 → D.rt z H1) :
    tRet (tCall (Pure ok) [] E (tCons (tVar i) (tCons (tVar j) (tCons te tNil)))) D σ H := ⟨x1, h1, x2, h2, h3 H (Exd.refl p H) hd _ fun v H1 r e1 d1 => ⟨z, k v H1 r e1 d1, fun H2 e2 => q H2 (e1.trans (Exd.of e2)) (d1.ex e2)⟩⟩
theorem s_whenF {p : Addr} (h : DvF p t σ H false) (hd : Dice p H) (k : ∀ H1, Exd p H H1 → Dice p H1 → D.nx σ H1) : tIfS t tu tNext D σ H := h H (Exd.refl p H) hd _ fun H1 e1 d1 => by
  rw [if_neg Bool.false_ne_true]
  exact k H1 e1 d1
/-- what the dice did is nothing to a heap that has not got them -/
theorem Exd.out {p : Addr} {H0 : Hp} (e : Exd p H H') (e0 : Ex H0 H) (h : H0 p = Option.none) : Ex H0 H' := fun a o ho => e a o (fun z => by rw [z, h] at ho; cases ho) (e0 a o ho)
theorem dpa_ints : ∀ ns : List Int, DpAll K H (ns.map V.int) (ns.map PyData.int)
  | [] => .nil
  | n :: ns => .cons (.int n) (dpa_ints ns)
theorem evd_ints {ns : List Int} (h : EvL te σ H (ns.map V.int)) : EvD K te σ H (.list (ns.map PyData.int)) := fun H1 e Q q => h H1 e Q fun p H2 _ e2 h2 => q _ H2 e2 (.lst (sq_of h2) (dpa_ints ns))
end
end Vr
set_option Elab.async false
set_option linter.all false
set_option maxRecDepth 100000
set_option maxHeartbeats 4000000
namespace En
open PySem PySem.Spec PyProof.Rows L2 Evl Vr
theorem meets_newT (l : Addr) (items : Array Value) :
    Meets (Builtin.«enumerate.__new__» ⟨[.type "enumerate", .ref l], []⟩) (fun _ R s => s.heap.IsTuple l items ∧
      R (.ok (.ret (.ref (s.heap.push { cls := .type "tuple_iterator", data := .fields #[.ref l, .int 0 0] }).objs.size)))
        { s with heap := (s.heap.push { cls := .type "tuple_iterator", data := .fields #[.ref l, .int 0 0] }).push { cls := .type "enumerate", data := .fields #[.none, .bool false, .ref s.heap.objs.size, rawInt 0, .none, .none] } }) :=
  .of_wp fun prog w A R s h => by
    obtain ⟨hp, g, d, tk, os⟩ := s; obtain ⟨hl, h⟩ := h
    have hsub := sub_enumerate
    have q1 : ∀ {A' : Around} {E : Value → Shared → Prop} {Q : Value → Shared → Prop}, Q (.ref hp.objs.size) ⟨hp.push { cls := .type "tuple_iterator", data := .fields #[.ref l, .int 0 0] }, g, d, tk, os⟩ → wpAny (model prog w) A' (pyIter (.ref l)) Q E ⟨hp, g, d, tk, os⟩ :=
      fun q => wpAny_pyIter_tuple (s := ⟨hp, g, d, tk, os⟩) hl q
    wp_walk using q1
    refine wpAny_stack_any fun st => wpAny_pure ?_
    split
    · rename_i c _ _ _ _ _
      cases (c == Value.type "enumerate")
      · wp_walk using q1
        exact ⟨_, rfl, h⟩
      · wp_walk using q1
        exact ⟨_, rfl, h⟩
    · wp_walk using q1
      exact ⟨_, rfl, h⟩
theorem call_enumT {prog : Program} {w : World} {A : Around} {E : Value → Shared → Prop} {s : Shared} {l : Addr} {items : Array Value} {Q : Value → Shared → Prop} (hL : s.heap.IsTuple l items)
    (h : ∀ h', IsEnum h' (s.heap.objs.size + 1) s.heap.objs.size 0 .none → h'.IsTupleIter s.heap.objs.size l 0 → h'.objs.size = s.heap.objs.size + 2 →
      (∀ b o, s.heap.get? b = some o → h'.get? b = some o) → Q (.ref (s.heap.objs.size + 1)) { s with heap := h' }) :
    wpAny (model prog w) A (call (.type "enumerate") [.ref l]) Q E s := by
  refine callType_new F.called_enumerate (by decide) (F.typeCall_enumerate_1 _) (F.newCall_enumerate_1 _) (fun obj => F.args_object_init_2 obj _) F.entry_enumerate_new
    (meets_newT l items) ⟨hL, ?_⟩
  have hz : (s.heap.push { cls := .type "tuple_iterator", data := .fields #[.ref l, .int 0 0] }).objs.size = s.heap.objs.size + 1 := Heap.size_push ..
  show _ ∧ _
  rw [hz]
  have he : IsEnum ((s.heap.push { cls := .type "tuple_iterator", data := .fields #[.ref l, .int 0 0] }).push
      { cls := .type "enumerate", data := .fields #[.none, .bool false, .ref s.heap.objs.size, rawInt 0, .none, .none] }) (s.heap.objs.size + 1) s.heap.objs.size 0 .none := by
    have := Heap.get?_push_size (s.heap.push { cls := .type "tuple_iterator", data := .fields #[.ref l, .int 0 0] })
      (o := { cls := .type "enumerate", data := .fields #[.none, .bool false, .ref s.heap.objs.size, rawInt 0, .none, .none] }) rfl
    rw [hz] at this; exact this
  refine ⟨⟨_, he, rfl⟩, h _ he ⟨_, Heap.get?_push_of_some _ (Heap.get?_push_size _ rfl), rfl, rfl⟩ (by rw [Heap.size_push, hz]) fun b o x => Heap.get?_push_of_some _ (Heap.get?_push_of_some _ x)⟩
/-- the tuple at a, each item in a new pair -/
def IteT (K : PySem.W.Frag) (a : Addr) : It :=
  ⟨fun i H => ∃ (xs : List V) (x : V), SqT K H a xs ∧ xs[i]? = some x, fun i H v H' => ∃ T x, v = .ref T ∧ H T = none ∧ H' = upd H T (.tup [.int (i : Nat), x]) ∧ ∀ xs, SqT K H a xs → xs[i]? = some x, fun i H => ∃ xs : List V, SqT K H a xs ∧ xs.length ≤ i⟩
theorem turn_enumT {P : Program} {w : World} {K : PySem.W.Frag} {elts : List Expr} {kk : Nat} {tpos : Pos} (a e it : Addr) :
    Turn P w K (.Tuple elts kk tpos) (IteT K a) [e, it] e (fun i h => (∃ old, IsEnum h e it ((i : Nat) : Int) old) ∧ h.IsTupleIter it a i ∧ e ≠ it) where
  mem := by simp
  obj := fun i h st b hb => by
    obtain ⟨⟨old, he⟩, ⟨o, ho, hc, hd⟩, _⟩ := st
    have e' : b = e ∨ b = it := by simpa using hb
    rcases e' with z | z
    · rw [z]; exact ⟨_, he, fun v q => nomatch q⟩
    · rw [z]; exact ⟨o, ho, fun v q => by rw [hd] at q; cases q⟩
  keep := fun i h h' st k => let ⟨⟨old, he⟩, hi, hne⟩ := st; ⟨⟨old, k e (by simp) _ he⟩, hi.at fun o q => k it (by simp) o q, hne⟩
  item := by
    intro X hP hw hK hc i pins s σ H E I hf st hg
    subst hP hw hK
    obtain ⟨⟨old, he⟩, hit, hne⟩ := st
    obtain ⟨xs, x, hq, hx⟩ := hg
    obtain ⟨its, rv, p, hz⟩ := I.tuple hq
    have p : s.heap.IsTuple a its.toArray := p
    obtain ⟨u, hu, ru⟩ := rv.get hx
    have hel : e < s.heap.objs.size := Heap.lt_size he
    have hil : it < s.heap.objs.size := by obtain ⟨_, q, _⟩ := hit; exact Heap.lt_size q
    have hai : a ≠ it := by
      intro z
      obtain ⟨o, ho, hc1, _⟩ := hit
      obtain ⟨o2, ho2, hc2, _⟩ := p
      rw [z, ho] at ho2
      cases ho2
      rw [hc1] at hc2
      exact absurd hc2 (by decide)
    have hae : e ≠ a := by
      intro z
      obtain ⟨o2, ho2, hc2, _⟩ := p
      have he' : s.heap.get? e = _ := he
      rw [z, ho2] at he'
      cases he'
      exact absurd (show Value.type "enumerate" = Value.type "tuple" from hc2) (by decide)
    have hh : X.A.handled = none := I.ok.hd hc
    have Dr := Draws.tuple (prog := X.prog) (w := X.w) (A := X.A.in1) (by simp [hh]) it a hai its.toArray
    have hlt : i < its.toArray.size := by
      have := (List.getElem?_eq_some_iff.mp hu).1
      simpa using this
    refine wpAny_pyNext_enum_itemD Dr he ⟨hit, p⟩ hlt hne (by simp [hne, hae]) fun x' h' tk hPx ho hit' hT hsz hk => ?_
    have hxu : x' = u := by
      have h1 : its[i]? = some x' := by simpa using hPx
      rw [hu] at h1
      exact (Option.some.inj h1).symm
    subst hxu
    obtain ⟨hit', _⟩ := hit'
    refine ⟨_, rfl, wpAny_letOwnedTupleGo_enum (s := { s with heap := h', toks := tk + 1 }) ho fun h'' he' sb => ?_⟩
    have hT2 : h''.get? s.heap.objs.size = some { cls := .type "tuple", data := .seq #[.int i tk, x'] } := (sb.2 _ (Nat.ne_of_gt hel)).trans hT
    have new : ObjOk X.prog X.w (upd H s.heap.objs.size (.tup [.int (i : Nat), x])) h'' s.heap.objs.size (.tup [.int (i : Nat), x]) :=
      ⟨by show 2 ≤ sizeLine; decide, [.int i tk, x'], .cons ⟨_, rfl⟩ (.cons ru .nil), ⟨_, hT2, rfl, _, rfl⟩⟩
    have I1 : Inv X pins σ (upd H s.heap.objs.size (.tup [.int (i : Nat), x])) { s with heap := h'', toks := tk + 1 } :=
      I.turnedNew (ch := [e, it]) (fun b ob hb q => (sb.2 b (fun z => hb (by simp [z]))).trans (hk b ob (fun z => hb (by simp [z])) (fun z => hb (by simp [z])) q)) hf (Nat.le_refl _) new
    refine ⟨.ref s.heap.objs.size, _, I1, rfl, ⟨_, x, rfl, I.hok.fresh (Nat.le_refl _), rfl, fun ys hy => by rw [I.tuple_inj hy hq]; exact hx⟩, ⟨⟨x', ?_⟩, hit'.at fun o q => (sb.2 it (Ne.symm hne)).trans q, hne⟩, fun b hb => ?_⟩
    · have e1 : ((i + 1 : Nat) : Int) = (i : Int) + 1 := by omega
      rw [e1]; exact he'
    · have hb' : b < s.heap.objs.size := by
        have e' : b = e ∨ b = it := by simpa using hb
        rcases e' with z | z
        · rw [z]; exact hel
        · rw [z]; exact hil
      rw [upd_ne (Nat.ne_of_lt hb')]
      exact (hf b hb).1
  done := by
    intro X hP hw hK hc i pins s σ H E I hf st hg
    subst hP hw hK
    obtain ⟨⟨old, he⟩, hit, hne⟩ := st
    obtain ⟨xs, hq, hx⟩ := hg
    obtain ⟨its, rv, p, hz⟩ := I.tuple hq
    have p : s.heap.IsTuple a its.toArray := p
    obtain ⟨f0, f1, f2, f3, f4, f5⟩ := hf it (by simp)
    have hl := rv.length
    have hT : s.TypeIs (.ref e) "enumerate" := ⟨_, he, rfl⟩
    have hh : X.A.handled = none := I.ok.hd hc
    unfold pyNext
    refine wpAny_bind (wpAny_attempt (wpAny_callSpecial?_slot (name := Str.ofString "__next__") hT F.slot_enumerate_next
      (wpAny_call_entry F.slot_enumerate_next hT F.entry_enumerate_next ?_ (F.args_enumerate_next_1 _))))
    show wpAny _ _ (field (.ref e) 2 >>= _) _ _ _
    refine wpAny_bind (wpAny_field he rfl (x := .ref it) rfl ?_)
    refine wpAny_bind (wpAny_nextOf_tuple_end (by simp [hh]) hit p (by simp; omega) fun h' x he' hx' => ?_)
    obtain ⟨o, ho, hc⟩ := hx'
    refine wpAny_bind (wpAny_isInstance (T := "StopIteration") (b := true) ⟨o, ho, hc⟩ isSubtype_stop ?_)
    exact wpAny_pure ⟨rfl, I.turned (t' := s.toks) (fun b o hb q => he' b o hb q) f0 f1 f3 f4 f5⟩
  self := fun A i s Q E st h => let ⟨⟨_, he⟩, _⟩ := st; wpAny_pyIter_enum he h
def iEnumT (K : PySem.W.Frag) (ta : TA) : TI := fun σ H R => ta σ H fun vs H1 => ∃ a xs, vs = [.ref a] ∧ SqT K H1 a xs ∧ R (IteT K a) H1
theorem pi_enumT {X : Cx} {e : Expr} {ta : TA} {p pos tpos : Pos} {elts : List Expr} {kk : Nat} (hg : Gl X "enumerate") (hm : X.mg "enumerate" = none) (ha : PA X [e] ta) (hs : starEach [e] X.env = [(false, eval e X.env)] := by rfl) :
    PI X (.Tuple elts kk tpos) (.Call (.Name "enumerate" p) [e] [] pos) (iEnumT X.K ta) := by
  refine ⟨fun pins s σ H R I h => ?_⟩
  refine Call_ (ld_blt I hg hm boot_enumerate (PyProof.Rows.callWith_type1 (thn (ha.run pos pins s σ H _ I h) fun us s1 ⟨vs, H1, I1, r1, q1⟩ => ?_) hs rfl))
  obtain ⟨a, xs, ex, hq, q⟩ := q1
  subst ex
  cases r1 with
  | cons r rr =>
    cases rr
    cases r
    obtain ⟨its, rv, p', hz⟩ := I1.tuple hq
    have p' : s1.heap.IsTuple a its.toArray := p'
    refine call_enumT p' fun h' he hit hsz hk => wpAny_pyIter_enum he ?_
    have I2 : Inv X pins σ H1 { s1 with heap := h' } := I1.kept (t' := s1.toks) hk
    refine ⟨s1.heap.objs.size + 1, [s1.heap.objs.size + 1, s1.heap.objs.size], _, _, H1, rfl, I2, turn_enumT a (s1.heap.objs.size + 1) s1.heap.objs.size, ⟨⟨.none, he⟩, hit, Nat.succ_ne_self _⟩, fun b hb => ?_, q⟩
    have e' : b = s1.heap.objs.size + 1 ∨ b = s1.heap.objs.size := by simpa using hb
    have hle : s1.heap.objs.size ≤ b := by
      rcases e' with z | z
      · rw [z]; exact Nat.le_add_right _ _
      · rw [z]; exact Nat.le_refl _
    exact I1.fpOk hle (I1.hok.fresh hle)
theorem walk_enumT {K : PySem.W.Frag} {a : Addr} {xs : List V} : Walk (IteT K a) xs.length (fun H => SqT K H a xs) (YPair (fun i => some (.int (i : Nat))) (fun i => xs[i]?)) := by
  refine ⟨fun i _ hi q => ⟨xs, xs[i], q, by simp [hi]⟩, fun _ q => ⟨xs, q, Nat.le_refl _⟩, fun i H v H' _ q y => ?_⟩
  obtain ⟨T, x, h1, h2, h3, h4⟩ := y
  exact ⟨T, .int (i : Nat), x, h1, h2, h3, rfl, h4 xs q⟩
/-- [e for i, x in enumerate(tuple) if t] -/
theorem el_lcEnumT {σ : L2.St} {H : Hp} {te : TE} {t : TT} {K : PySem.W.Frag} {a : Addr} {xs : List V} {ta : TA} {j l : Nat} {vs : List Nat} (f : Nat → Bool) (v : Nat → V) (h : EvA ta σ H [.ref a]) (hx : SqT K H a xs) (hz : xs.length ≤ 40000)
    (hw : ∀ x y, wipe (((wipe σ vs).set j (some x)).set l (some y)) vs = wipe σ vs)
    (ht : ∀ (i : Nat) (x : V) H1, Ex H H1 → xs[i]? = some x → EvT t (((wipe σ vs).set j (some (.int (i : Nat)))).set l (some x)) H1 (f i)) (he : ∀ (i : Nat) (x : V) H1, Ex H H1 → xs[i]? = some x → f i = true → Ev te (((wipe σ vs).set j (some (.int (i : Nat)))).set l (some x)) H1 (v i)) :
    EvL (tLc (iEnumT K ta) (gTup K 2 (gCons (gName j) (gCons (gName l) gNil))) t te vs) σ H (given xs.length f v) := fun H0 e Q q => h H0 e _ fun H1 e1 => ⟨a, xs, rfl, ex_t (e.trans e1) hx, fun Dl hD =>
  lc_it walk_enumT (Cw H1 f v Dl) ⟨hD, Ex.new hD, upd_same⟩ (fun i H' _ p => ex_t ((e.trans e1).trans p.2.1) hx) (fun i x H' H'' hi p y => by
    obtain ⟨T, y1, y2, rfl, hT, rfl, h3, h4⟩ := y
    have h3 : y1 = .int (i : Nat) := (Option.some.inj h3).symm
    subst h3
    have eT : Ex H' (upd H' T (.tup [.int (i : Nat), y2])) := Ex.new hT
    refine ⟨T, [.int (i : Nat), y2], rfl, st_of upd_same, rfl, .int (i : Nat), [y2], rfl, y2, [], rfl, rfl, hw _ _, ?_⟩
    have p' : Cw H1 f v Dl i (upd H' T (.tup [.int (i : Nat), y2])) := ⟨p.1, p.2.1.trans eT, eT _ _ p.2.2⟩
    exact cw_turn p' (by omega) (ht i y2 H1 (e.trans e1) h4) (fun hf => he i y2 H1 (e.trans e1) h4 hf))
    (fun H' p => q Dl H' (fresh_back e1 p.1) (e1.trans p.2.1) p.2.2)⟩
end En
set_option Elab.async false
set_option linter.all false
set_option maxRecDepth 100000
set_option maxHeartbeats 4000000
set_option exponentiation.threshold 500
namespace Kz
open PySem PySem.Spec PyProof.Rows L2 Evl Vr
def top (i : Nat) : Stmt := PySem.Challenge.pw_settledplay_k18_whole_boxes_that_go.main.body.getD i (.Pass ⟨0, 0, 0, 0⟩)
abbrev s_InvalidNumber___init__ : Stmt := inClass (top 3) 0
theorem sc_InvalidNumber___init__ : FnScope ["self", "given"] ["self", "given"] (defScope s_InvalidNumber___init__) := ⟨rfl, rfl, rfl, by decide +kernel, rfl, by decide +kernel, by decide +kernel⟩
abbrev s_UnknownName___init__ : Stmt := inClass (top 4) 0
theorem sc_UnknownName___init__ : FnScope ["self", "wanted"] ["self", "wanted"] (defScope s_UnknownName___init__) := ⟨rfl, rfl, rfl, by decide +kernel, rfl, by decide +kernel, by decide +kernel⟩
abbrev s_TooMany___init__ : Stmt := inClass (top 5) 0
theorem sc_TooMany___init__ : FnScope ["self", "limit"] ["self", "limit"] (defScope s_TooMany___init__) := ⟨rfl, rfl, rfl, by decide +kernel, rfl, by decide +kernel, by decide +kernel⟩
abbrev s_is_integer : Stmt := top 7
theorem sc_is_integer : FnScope ["value"] ["value"] (defScope s_is_integer) := ⟨rfl, rfl, rfl, by decide +kernel, rfl, by decide +kernel, by decide +kernel⟩
abbrev s_is_within : Stmt := top 8
theorem sc_is_within : FnScope ["value", "low", "high"] ["value", "low", "high"] (defScope s_is_within) := ⟨rfl, rfl, rfl, by decide +kernel, rfl, by decide +kernel, by decide +kernel⟩
abbrev s_need_within : Stmt := top 9
theorem sc_need_within : FnScope ["value", "low", "high"] ["value", "low", "high"] (defScope s_need_within) := ⟨rfl, rfl, rfl, by decide +kernel, rfl, by decide +kernel, by decide +kernel⟩
abbrev s_is_number : Stmt := top 12
theorem sc_is_number : FnScope ["value"] ["value"] (defScope s_is_number) := ⟨rfl, rfl, rfl, by decide +kernel, rfl, by decide +kernel, by decide +kernel⟩
abbrev s_is_arena : Stmt := top 16
theorem sc_is_arena : FnScope ["value", "length"] ["value"] (defScope s_is_arena) := ⟨rfl, rfl, rfl, by decide +kernel, rfl, by decide +kernel, by decide +kernel⟩
abbrev s_is_box : Stmt := top 23
theorem sc_is_box : FnScope ["value"] ["value"] (defScope s_is_box) := ⟨rfl, rfl, rfl, by decide +kernel, rfl, by decide +kernel, by decide +kernel⟩
abbrev s_need_box : Stmt := top 24
theorem sc_need_box : FnScope ["value"] ["value"] (defScope s_need_box) := ⟨rfl, rfl, rfl, by decide +kernel, rfl, by decide +kernel, by decide +kernel⟩
abbrev s_need_number : Stmt := top 25
theorem sc_need_number : FnScope ["value"] ["value"] (defScope s_need_number) := ⟨rfl, rfl, rfl, by decide +kernel, rfl, by decide +kernel, by decide +kernel⟩
abbrev s_need_among : Stmt := top 26
theorem sc_need_among : FnScope ["arena", "box", "others", "other"] ["arena", "box", "others"] (defScope s_need_among) := ⟨rfl, rfl, rfl, by decide +kernel, rfl, by decide +kernel, by decide +kernel⟩
abbrev s_need_way : Stmt := top 27
theorem sc_need_way : FnScope ["arena", "box", "others", "side", "many"] ["arena", "box", "others", "side", "many"] (defScope s_need_way) := ⟨rfl, rfl, rfl, by decide +kernel, rfl, by decide +kernel, by decide +kernel⟩
abbrev s_are_meeting : Stmt := top 28
theorem sc_are_meeting : FnScope ["one", "other", "grown"] ["one", "other", "grown"] (defScope s_are_meeting) := ⟨rfl, rfl, rfl, by decide +kernel, rfl, by decide +kernel, by decide +kernel⟩
abbrev s_do_meet : Stmt := top 29
theorem sc_do_meet : FnScope ["one", "other", "grown"] ["one", "other", "grown"] (defScope s_do_meet) := ⟨rfl, rfl, rfl, by decide +kernel, rfl, by decide +kernel, by decide +kernel⟩
abbrev s_do_share : Stmt := top 30
theorem sc_do_share : FnScope ["one", "other", "axis", "grown", "low", "high"] ["one", "other", "axis", "grown"] (defScope s_do_share) := ⟨rfl, rfl, rfl, by decide +kernel, rfl, by decide +kernel, by decide +kernel⟩
abbrev s_shifted : Stmt := top 31
theorem sc_shifted : FnScope ["box", "side", "units", "axis", "way", "x", "y", "width", "height"] ["box", "side", "units"] (defScope s_shifted) := ⟨rfl, rfl, rfl, by decide +kernel, rfl, by decide +kernel, by decide +kernel⟩
abbrev s_border_gap : Stmt := top 32
theorem sc_border_gap : FnScope ["arena", "box", "side", "axis", "way", "inside"] ["arena", "box", "side"] (defScope s_border_gap) := ⟨rfl, rfl, rfl, by decide +kernel, rfl, by decide +kernel, by decide +kernel⟩
abbrev s_box_gaps : Stmt := top 33
theorem sc_box_gaps : FnScope ["box", "others", "side", "axis", "way", "gaps", "other", "low", "high", "gap"] ["box", "others", "side"] (defScope s_box_gaps) := ⟨rfl, rfl, rfl, by decide +kernel, rfl, by decide +kernel, by decide +kernel⟩
abbrev s_units_free : Stmt := top 34
theorem sc_units_free : FnScope ["arena", "box", "others", "side", "many"] ["arena", "box", "others", "side", "many"] (defScope s_units_free) := ⟨rfl, rfl, rfl, by decide +kernel, rfl, by decide +kernel, by decide +kernel⟩
abbrev s_reach : Stmt := top 35
theorem sc_reach : FnScope ["arena", "box", "others", "side", "many"] ["arena", "box", "others", "side", "many"] (defScope s_reach) := ⟨rfl, rfl, rfl, by decide +kernel, rfl, by decide +kernel, by decide +kernel⟩
abbrev s_reach_by_units : Stmt := top 36
theorem sc_reach_by_units : FnScope ["arena", "box", "others", "side", "many", "gone"] ["arena", "box", "others", "side", "many"] (defScope s_reach_by_units) := ⟨rfl, rfl, rfl, by decide +kernel, rfl, by decide +kernel, by decide +kernel⟩
abbrev s_is_barred : Stmt := top 37
theorem sc_is_barred : FnScope ["arena", "box", "others", "side", "other"] ["arena", "box", "others", "side"] (defScope s_is_barred) := ⟨rfl, rfl, rfl, by decide +kernel, rfl, by decide +kernel, by decide +kernel⟩
abbrev s_is_border_ahead : Stmt := top 38
theorem sc_is_border_ahead : FnScope ["arena", "box", "side", "axis", "way", "after"] ["arena", "box", "side"] (defScope s_is_border_ahead) := ⟨rfl, rfl, rfl, by decide +kernel, rfl, by decide +kernel, by decide +kernel⟩
abbrev s_does_bar : Stmt := top 39
theorem sc_does_bar : FnScope ["box", "other", "side"] ["box", "other", "side"] (defScope s_does_bar) := ⟨rfl, rfl, rfl, by decide +kernel, rfl, by decide +kernel, by decide +kernel⟩
abbrev s_barrier : Stmt := top 40
theorem sc_barrier : FnScope ["arena", "box", "others", "side", "many", "units", "stopped", "barring", "at", "other"] ["arena", "box", "others", "side", "many"] (defScope s_barrier) := ⟨rfl, rfl, rfl, by decide +kernel, rfl, by decide +kernel, by decide +kernel⟩
abbrev s_moved_box : Stmt := top 41
theorem sc_moved_box : FnScope ["arena", "box", "others", "dx", "dy"] ["arena", "box", "others", "dx", "dy"] (defScope s_moved_box) := ⟨rfl, rfl, rfl, by decide +kernel, rfl, by decide +kernel, by decide +kernel⟩
abbrev s_moved : Stmt := top 42
theorem sc_moved : FnScope ["arena", "box", "others", "dx", "dy", "across", "there", "along"] ["arena", "box", "others", "dx", "dy"] (defScope s_moved) := ⟨rfl, rfl, rfl, by decide +kernel, rfl, by decide +kernel, by decide +kernel⟩
abbrev s_law_dice : Stmt := top 44
theorem sc_law_dice : FnScope ["script", "spot", "cell", "left"] ["script", "spot"] (defScope s_law_dice) := ⟨rfl, rfl, rfl, by decide +kernel, rfl, by decide +kernel, by decide +kernel⟩
abbrev s_law_roll : Stmt := top 45
theorem sc_law_roll : FnScope ["dice", "total", "found", "one", "two"] ["dice", "total"] (defScope s_law_roll) := ⟨rfl, rfl, rfl, by decide +kernel, rfl, by decide +kernel, by decide +kernel⟩
abbrev s_law_pick : Stmt := top 46
theorem sc_law_pick : FnScope ["dice", "items"] ["dice", "items"] (defScope s_law_pick) := ⟨rfl, rfl, rfl, by decide +kernel, rfl, by decide +kernel, by decide +kernel⟩
abbrev s_law_bo_meet : Stmt := top 47
theorem sc_law_bo_meet : FnScope ["one", "other", "across"] ["one", "other"] (defScope s_law_bo_meet) := ⟨rfl, rfl, rfl, by decide +kernel, rfl, by decide +kernel, by decide +kernel⟩
abbrev s_law_bo_swept : Stmt := top 48
theorem sc_law_bo_swept : FnScope ["box", "side", "many", "x", "y", "width", "height"] ["box", "side", "many"] (defScope s_law_bo_swept) := ⟨rfl, rfl, rfl, by decide +kernel, rfl, by decide +kernel, by decide +kernel⟩
abbrev s_law_bo_put : Stmt := top 49
theorem sc_law_bo_put : FnScope ["box", "side", "many", "x", "y", "width", "height"] ["box", "side", "many"] (defScope s_law_bo_put) := ⟨rfl, rfl, rfl, by decide +kernel, rfl, by decide +kernel, by decide +kernel⟩
abbrev s_law_bo_is_beyond : Stmt := top 50
theorem sc_law_bo_is_beyond : FnScope ["arena", "box", "side"] ["arena", "box", "side"] (defScope s_law_bo_is_beyond) := ⟨rfl, rfl, rfl, by decide +kernel, rfl, by decide +kernel, by decide +kernel⟩
abbrev s_law_bo_is_free : Stmt := top 51
theorem sc_law_bo_is_free : FnScope ["arena", "box", "others", "side", "many", "swept", "other"] ["arena", "box", "others", "side", "many"] (defScope s_law_bo_is_free) := ⟨rfl, rfl, rfl, by decide +kernel, rfl, by decide +kernel, by decide +kernel⟩
abbrev s_law_bo_reach : Stmt := top 52
theorem sc_law_bo_reach : FnScope ["arena", "box", "others", "side", "many", "least", "most", "half"] ["arena", "box", "others", "side", "many"] (defScope s_law_bo_reach) := ⟨rfl, rfl, rfl, by decide +kernel, rfl, by decide +kernel, by decide +kernel⟩
abbrev s_law_bo_barrier : Stmt := top 53
theorem sc_law_bo_barrier : FnScope ["arena", "box", "others", "side", "many", "gone", "here", "later", "at", "other"] ["arena", "box", "others", "side", "many"] (defScope s_law_bo_barrier) := ⟨rfl, rfl, rfl, by decide +kernel, rfl, by decide +kernel, by decide +kernel⟩
abbrev s_law_bo_moved : Stmt := top 54
theorem sc_law_bo_moved : FnScope ["arena", "box", "others", "dx", "dy", "side"] ["arena", "box", "others", "dx", "dy"] (defScope s_law_bo_moved) := ⟨rfl, rfl, rfl, by decide +kernel, rfl, by decide +kernel, by decide +kernel⟩
abbrev s_law_bo_grown : Stmt := top 55
theorem sc_law_bo_grown : FnScope ["box", "grown_here"] ["box", "grown_here"] (defScope s_law_bo_grown) := ⟨rfl, rfl, rfl, by decide +kernel, rfl, by decide +kernel, by decide +kernel⟩
abbrev s_law_bo_number : Stmt := top 56
theorem sc_law_bo_number : FnScope ["dice", "most", "way"] ["dice", "most"] (defScope s_law_bo_number) := ⟨rfl, rfl, rfl, by decide +kernel, rfl, by decide +kernel, by decide +kernel⟩
abbrev s_law_bo_drawn : Stmt := top 57
theorem sc_law_bo_drawn : FnScope ["dice", "arena", "sizes", "turn"] ["dice", "arena"] (defScope s_law_bo_drawn) := ⟨rfl, rfl, rfl, by decide +kernel, rfl, by decide +kernel, by decide +kernel⟩
abbrev s_law_bo_arena : Stmt := top 58
theorem sc_law_bo_arena : FnScope ["dice"] ["dice"] (defScope s_law_bo_arena) := ⟨rfl, rfl, rfl, by decide +kernel, rfl, by decide +kernel, by decide +kernel⟩
abbrev s_law_bo_pace : Stmt := top 59
theorem sc_law_bo_pace : FnScope ["dice", "way"] ["dice"] (defScope s_law_bo_pace) := ⟨rfl, rfl, rfl, by decide +kernel, rfl, by decide +kernel, by decide +kernel⟩
abbrev s_law_ways_right : Stmt := top 60
theorem sc_law_ways_right : FnScope ["dice", "arena", "box", "others", "side", "many", "due"] ["dice", "arena", "box", "others"] (defScope s_law_ways_right) := ⟨rfl, rfl, rfl, by decide +kernel, rfl, by decide +kernel, by decide +kernel⟩
abbrev s_law_meetings_right : Stmt := top 61
theorem sc_law_meetings_right : FnScope ["dice", "box", "others", "other", "grown_here"] ["dice", "box", "others"] (defScope s_law_meetings_right) := ⟨rfl, rfl, rfl, by decide +kernel, rfl, by decide +kernel, by decide +kernel⟩
abbrev s_law_right : Stmt := top 62
theorem sc_law_right : FnScope ["dice", "arena", "box", "turn", "others", "dx", "dy"] ["dice"] (defScope s_law_right) := ⟨rfl, rfl, rfl, by decide +kernel, rfl, by decide +kernel, by decide +kernel⟩
abbrev s_law : Stmt := top 63
theorem sc_law : FnScope ["script", "spot", "wall", "ball", "room", "told", "grown_here"] ["script"] (defScope s_law) := ⟨rfl, rfl, rfl, by decide +kernel, rfl, by decide +kernel, by decide +kernel⟩
structure Txt (K : PySem.W.Frag) (mg : Str → Option Value) (w : World) where
  a_is_integer : Addr
  fd_is_integer : FuncData
  F_is_integer : Fun K "is_integer" "is_integer" s_is_integer a_is_integer fd_is_integer
  g_is_integer : mg "is_integer" = some (.ref a_is_integer)
  b_is_integer : Binds K fd_is_integer ["value"] []
  a_is_within : Addr
  fd_is_within : FuncData
  F_is_within : Fun K "is_within" "is_within" s_is_within a_is_within fd_is_within
  g_is_within : mg "is_within" = some (.ref a_is_within)
  b_is_within : Binds K fd_is_within ["value", "low", "high"] []
  a_need_within : Addr
  fd_need_within : FuncData
  F_need_within : Fun K "need_within" "need_within" s_need_within a_need_within fd_need_within
  g_need_within : mg "need_within" = some (.ref a_need_within)
  b_need_within : Binds K fd_need_within ["value", "low", "high"] []
  a_is_number : Addr
  fd_is_number : FuncData
  F_is_number : Fun K "is_number" "is_number" s_is_number a_is_number fd_is_number
  g_is_number : mg "is_number" = some (.ref a_is_number)
  b_is_number : Binds K fd_is_number ["value"] []
  a_is_arena : Addr
  fd_is_arena : FuncData
  F_is_arena : Fun K "is_arena" "is_arena" s_is_arena a_is_arena fd_is_arena
  g_is_arena : mg "is_arena" = some (.ref a_is_arena)
  b_is_arena : Binds K fd_is_arena ["value"] []
  a_is_box : Addr
  fd_is_box : FuncData
  F_is_box : Fun K "is_box" "is_box" s_is_box a_is_box fd_is_box
  g_is_box : mg "is_box" = some (.ref a_is_box)
  b_is_box : Binds K fd_is_box ["value"] []
  a_need_box : Addr
  fd_need_box : FuncData
  F_need_box : Fun K "need_box" "need_box" s_need_box a_need_box fd_need_box
  g_need_box : mg "need_box" = some (.ref a_need_box)
  b_need_box : Binds K fd_need_box ["value"] []
  a_need_number : Addr
  fd_need_number : FuncData
  F_need_number : Fun K "need_number" "need_number" s_need_number a_need_number fd_need_number
  g_need_number : mg "need_number" = some (.ref a_need_number)
  b_need_number : Binds K fd_need_number ["value"] []
  a_need_among : Addr
  fd_need_among : FuncData
  F_need_among : Fun K "need_among" "need_among" s_need_among a_need_among fd_need_among
  g_need_among : mg "need_among" = some (.ref a_need_among)
  b_need_among : Binds K fd_need_among ["arena", "box", "others"] []
  a_need_way : Addr
  fd_need_way : FuncData
  F_need_way : Fun K "need_way" "need_way" s_need_way a_need_way fd_need_way
  g_need_way : mg "need_way" = some (.ref a_need_way)
  b_need_way : Binds K fd_need_way ["arena", "box", "others", "side", "many"] []
  a_are_meeting : Addr
  fd_are_meeting : FuncData
  F_are_meeting : Fun K "are_meeting" "are_meeting" s_are_meeting a_are_meeting fd_are_meeting
  g_are_meeting : mg "are_meeting" = some (.ref a_are_meeting)
  ds_are_meeting : List Value
  vd_are_meeting : Vals [V.int (0)] ds_are_meeting
  b_are_meeting : Binds K fd_are_meeting ["one", "other", "grown"] ds_are_meeting
  kb_are_meeting : KBn K fd_are_meeting ["one", "other", "grown"] 2 ["grown"] (fun us ws => us ++ ws) (fun vs zs => vs ++ zs)
  a_do_meet : Addr
  fd_do_meet : FuncData
  F_do_meet : Fun K "do_meet" "do_meet" s_do_meet a_do_meet fd_do_meet
  g_do_meet : mg "do_meet" = some (.ref a_do_meet)
  b_do_meet : Binds K fd_do_meet ["one", "other", "grown"] []
  a_do_share : Addr
  fd_do_share : FuncData
  F_do_share : Fun K "do_share" "do_share" s_do_share a_do_share fd_do_share
  g_do_share : mg "do_share" = some (.ref a_do_share)
  b_do_share : Binds K fd_do_share ["one", "other", "axis", "grown"] []
  a_shifted : Addr
  fd_shifted : FuncData
  F_shifted : Fun K "shifted" "shifted" s_shifted a_shifted fd_shifted
  g_shifted : mg "shifted" = some (.ref a_shifted)
  b_shifted : Binds K fd_shifted ["box", "side", "units"] []
  a_border_gap : Addr
  fd_border_gap : FuncData
  F_border_gap : Fun K "border_gap" "border_gap" s_border_gap a_border_gap fd_border_gap
  g_border_gap : mg "border_gap" = some (.ref a_border_gap)
  b_border_gap : Binds K fd_border_gap ["arena", "box", "side"] []
  a_box_gaps : Addr
  fd_box_gaps : FuncData
  F_box_gaps : Fun K "box_gaps" "box_gaps" s_box_gaps a_box_gaps fd_box_gaps
  g_box_gaps : mg "box_gaps" = some (.ref a_box_gaps)
  b_box_gaps : Binds K fd_box_gaps ["box", "others", "side"] []
  a_units_free : Addr
  fd_units_free : FuncData
  F_units_free : Fun K "units_free" "units_free" s_units_free a_units_free fd_units_free
  g_units_free : mg "units_free" = some (.ref a_units_free)
  b_units_free : Binds K fd_units_free ["arena", "box", "others", "side", "many"] []
  a_reach : Addr
  fd_reach : FuncData
  F_reach : Fun K "reach" "reach" s_reach a_reach fd_reach
  g_reach : mg "reach" = some (.ref a_reach)
  b_reach : Binds K fd_reach ["arena", "box", "others", "side", "many"] []
  a_reach_by_units : Addr
  fd_reach_by_units : FuncData
  F_reach_by_units : Fun K "reach_by_units" "reach_by_units" s_reach_by_units a_reach_by_units fd_reach_by_units
  g_reach_by_units : mg "reach_by_units" = some (.ref a_reach_by_units)
  b_reach_by_units : Binds K fd_reach_by_units ["arena", "box", "others", "side", "many"] []
  a_is_barred : Addr
  fd_is_barred : FuncData
  F_is_barred : Fun K "is_barred" "is_barred" s_is_barred a_is_barred fd_is_barred
  g_is_barred : mg "is_barred" = some (.ref a_is_barred)
  b_is_barred : Binds K fd_is_barred ["arena", "box", "others", "side"] []
  a_is_border_ahead : Addr
  fd_is_border_ahead : FuncData
  F_is_border_ahead : Fun K "is_border_ahead" "is_border_ahead" s_is_border_ahead a_is_border_ahead fd_is_border_ahead
  g_is_border_ahead : mg "is_border_ahead" = some (.ref a_is_border_ahead)
  b_is_border_ahead : Binds K fd_is_border_ahead ["arena", "box", "side"] []
  a_does_bar : Addr
  fd_does_bar : FuncData
  F_does_bar : Fun K "does_bar" "does_bar" s_does_bar a_does_bar fd_does_bar
  g_does_bar : mg "does_bar" = some (.ref a_does_bar)
  b_does_bar : Binds K fd_does_bar ["box", "other", "side"] []
  a_barrier : Addr
  fd_barrier : FuncData
  F_barrier : Fun K "barrier" "barrier" s_barrier a_barrier fd_barrier
  g_barrier : mg "barrier" = some (.ref a_barrier)
  b_barrier : Binds K fd_barrier ["arena", "box", "others", "side", "many"] []
  a_moved_box : Addr
  fd_moved_box : FuncData
  F_moved_box : Fun K "moved_box" "moved_box" s_moved_box a_moved_box fd_moved_box
  g_moved_box : mg "moved_box" = some (.ref a_moved_box)
  b_moved_box : Binds K fd_moved_box ["arena", "box", "others", "dx", "dy"] []
  a_moved : Addr
  fd_moved : FuncData
  F_moved : Fun K "moved" "moved" s_moved a_moved fd_moved
  g_moved : mg "moved" = some (.ref a_moved)
  b_moved : Binds K fd_moved ["arena", "box", "others", "dx", "dy"] []
  a_law_dice : Addr
  fd_law_dice : FuncData
  F_law_dice : Fun K "_law_dice" "_law_dice" s_law_dice a_law_dice fd_law_dice
  g_law_dice : mg "_law_dice" = some (.ref a_law_dice)
  b_law_dice : Binds K fd_law_dice ["script", "spot"] []
  a_law_roll : Addr
  fd_law_roll : FuncData
  F_law_roll : Fun K "_law_roll" "_law_roll" s_law_roll a_law_roll fd_law_roll
  g_law_roll : mg "_law_roll" = some (.ref a_law_roll)
  b_law_roll : Binds K fd_law_roll ["dice", "total"] []
  a_law_pick : Addr
  fd_law_pick : FuncData
  F_law_pick : Fun K "_law_pick" "_law_pick" s_law_pick a_law_pick fd_law_pick
  g_law_pick : mg "_law_pick" = some (.ref a_law_pick)
  b_law_pick : Binds K fd_law_pick ["dice", "items"] []
  a_law_bo_meet : Addr
  fd_law_bo_meet : FuncData
  F_law_bo_meet : Fun K "_law_bo_meet" "_law_bo_meet" s_law_bo_meet a_law_bo_meet fd_law_bo_meet
  g_law_bo_meet : mg "_law_bo_meet" = some (.ref a_law_bo_meet)
  b_law_bo_meet : Binds K fd_law_bo_meet ["one", "other"] []
  a_law_bo_swept : Addr
  fd_law_bo_swept : FuncData
  F_law_bo_swept : Fun K "_law_bo_swept" "_law_bo_swept" s_law_bo_swept a_law_bo_swept fd_law_bo_swept
  g_law_bo_swept : mg "_law_bo_swept" = some (.ref a_law_bo_swept)
  b_law_bo_swept : Binds K fd_law_bo_swept ["box", "side", "many"] []
  a_law_bo_put : Addr
  fd_law_bo_put : FuncData
  F_law_bo_put : Fun K "_law_bo_put" "_law_bo_put" s_law_bo_put a_law_bo_put fd_law_bo_put
  g_law_bo_put : mg "_law_bo_put" = some (.ref a_law_bo_put)
  b_law_bo_put : Binds K fd_law_bo_put ["box", "side", "many"] []
  a_law_bo_is_beyond : Addr
  fd_law_bo_is_beyond : FuncData
  F_law_bo_is_beyond : Fun K "_law_bo_is_beyond" "_law_bo_is_beyond" s_law_bo_is_beyond a_law_bo_is_beyond fd_law_bo_is_beyond
  g_law_bo_is_beyond : mg "_law_bo_is_beyond" = some (.ref a_law_bo_is_beyond)
  b_law_bo_is_beyond : Binds K fd_law_bo_is_beyond ["arena", "box", "side"] []
  a_law_bo_is_free : Addr
  fd_law_bo_is_free : FuncData
  F_law_bo_is_free : Fun K "_law_bo_is_free" "_law_bo_is_free" s_law_bo_is_free a_law_bo_is_free fd_law_bo_is_free
  g_law_bo_is_free : mg "_law_bo_is_free" = some (.ref a_law_bo_is_free)
  b_law_bo_is_free : Binds K fd_law_bo_is_free ["arena", "box", "others", "side", "many"] []
  a_law_bo_reach : Addr
  fd_law_bo_reach : FuncData
  F_law_bo_reach : Fun K "_law_bo_reach" "_law_bo_reach" s_law_bo_reach a_law_bo_reach fd_law_bo_reach
  g_law_bo_reach : mg "_law_bo_reach" = some (.ref a_law_bo_reach)
  b_law_bo_reach : Binds K fd_law_bo_reach ["arena", "box", "others", "side", "many"] []
  a_law_bo_barrier : Addr
  fd_law_bo_barrier : FuncData
  F_law_bo_barrier : Fun K "_law_bo_barrier" "_law_bo_barrier" s_law_bo_barrier a_law_bo_barrier fd_law_bo_barrier
  g_law_bo_barrier : mg "_law_bo_barrier" = some (.ref a_law_bo_barrier)
  b_law_bo_barrier : Binds K fd_law_bo_barrier ["arena", "box", "others", "side", "many"] []
  a_law_bo_moved : Addr
  fd_law_bo_moved : FuncData
  F_law_bo_moved : Fun K "_law_bo_moved" "_law_bo_moved" s_law_bo_moved a_law_bo_moved fd_law_bo_moved
  g_law_bo_moved : mg "_law_bo_moved" = some (.ref a_law_bo_moved)
  b_law_bo_moved : Binds K fd_law_bo_moved ["arena", "box", "others", "dx", "dy"] []
  a_law_bo_grown : Addr
  fd_law_bo_grown : FuncData
  F_law_bo_grown : Fun K "_law_bo_grown" "_law_bo_grown" s_law_bo_grown a_law_bo_grown fd_law_bo_grown
  g_law_bo_grown : mg "_law_bo_grown" = some (.ref a_law_bo_grown)
  b_law_bo_grown : Binds K fd_law_bo_grown ["box", "grown_here"] []
  a_law_bo_number : Addr
  fd_law_bo_number : FuncData
  F_law_bo_number : Fun K "_law_bo_number" "_law_bo_number" s_law_bo_number a_law_bo_number fd_law_bo_number
  g_law_bo_number : mg "_law_bo_number" = some (.ref a_law_bo_number)
  b_law_bo_number : Binds K fd_law_bo_number ["dice", "most"] []
  a_law_bo_drawn : Addr
  fd_law_bo_drawn : FuncData
  F_law_bo_drawn : Fun K "_law_bo_drawn" "_law_bo_drawn" s_law_bo_drawn a_law_bo_drawn fd_law_bo_drawn
  g_law_bo_drawn : mg "_law_bo_drawn" = some (.ref a_law_bo_drawn)
  b_law_bo_drawn : Binds K fd_law_bo_drawn ["dice", "arena"] []
  a_law_bo_arena : Addr
  fd_law_bo_arena : FuncData
  F_law_bo_arena : Fun K "_law_bo_arena" "_law_bo_arena" s_law_bo_arena a_law_bo_arena fd_law_bo_arena
  g_law_bo_arena : mg "_law_bo_arena" = some (.ref a_law_bo_arena)
  b_law_bo_arena : Binds K fd_law_bo_arena ["dice"] []
  a_law_bo_pace : Addr
  fd_law_bo_pace : FuncData
  F_law_bo_pace : Fun K "_law_bo_pace" "_law_bo_pace" s_law_bo_pace a_law_bo_pace fd_law_bo_pace
  g_law_bo_pace : mg "_law_bo_pace" = some (.ref a_law_bo_pace)
  b_law_bo_pace : Binds K fd_law_bo_pace ["dice"] []
  a_law_ways_right : Addr
  fd_law_ways_right : FuncData
  F_law_ways_right : Fun K "_law_ways_right" "_law_ways_right" s_law_ways_right a_law_ways_right fd_law_ways_right
  g_law_ways_right : mg "_law_ways_right" = some (.ref a_law_ways_right)
  b_law_ways_right : Binds K fd_law_ways_right ["dice", "arena", "box", "others"] []
  a_law_meetings_right : Addr
  fd_law_meetings_right : FuncData
  F_law_meetings_right : Fun K "_law_meetings_right" "_law_meetings_right" s_law_meetings_right a_law_meetings_right fd_law_meetings_right
  g_law_meetings_right : mg "_law_meetings_right" = some (.ref a_law_meetings_right)
  b_law_meetings_right : Binds K fd_law_meetings_right ["dice", "box", "others"] []
  a_law_right : Addr
  fd_law_right : FuncData
  F_law_right : Fun K "_law_right" "_law_right" s_law_right a_law_right fd_law_right
  g_law_right : mg "_law_right" = some (.ref a_law_right)
  b_law_right : Binds K fd_law_right ["dice"] []
  z_abs : mg "abs" = none
  z_max : mg "max" = none
  z_min : mg "min" = none
  z_int : mg "int" = none
  z_len : mg "len" = none
  z_range : mg "range" = none
  z_repr : mg "repr" = none
  z_isinstance : mg "isinstance" = none
  z_bool : mg "bool" = none
  z_tuple : mg "tuple" = none
  z_any : mg "any" = none
  z_all : mg "all" = none
  z_enumerate : mg "enumerate" = none
  t_MOST : Tok
  g_MOST : mg "MOST" = some (.int 1000000000 t_MOST)
  t_MAX_ARENA : Tok
  g_MAX_ARENA : mg "MAX_ARENA" = some (.int 400 t_MAX_ARENA)
  t_MAX_BODY : Tok
  g_MAX_BODY : mg "MAX_BODY" = some (.int 40 t_MAX_BODY)
  t_MOST_UNITS : Tok
  g_MOST_UNITS : mg "MOST_UNITS" = some (.int 1000 t_MOST_UNITS)
  t_MOST_OTHERS : Tok
  g_MOST_OTHERS : mg "MOST_OTHERS" = some (.int 24 t_MOST_OTHERS)
  t_MOST_MANY : Tok
  g_MOST_MANY : mg "MOST_MANY" = some (.int 1000000000 t_MOST_MANY)
  a_SIDES : Addr
  g_SIDES : mg "SIDES" = some (.ref a_SIDES)
  o_SIDES : ∀ H, SqT K H a_SIDES [.str "left", .str "right", .str "low", .str "high"]
  a_WAYS : Addr
  g_WAYS : mg "WAYS" = some (.ref a_WAYS)
  w_left : Addr
  o_left : KDct K w a_WAYS "left" (.ref w_left)
  p_left : ∀ H, SqT K H w_left [.int 0, .int (-1)]
  w_right : Addr
  o_right : KDct K w a_WAYS "right" (.ref w_right)
  p_right : ∀ H, SqT K H w_right [.int 0, .int (1)]
  w_low : Addr
  o_low : KDct K w a_WAYS "low" (.ref w_low)
  p_low : ∀ H, SqT K H w_low [.int 1, .int (-1)]
  w_high : Addr
  o_high : KDct K w a_WAYS "high" (.ref w_high)
  p_high : ∀ H, SqT K H w_high [.int 1, .int (1)]
end Kz
set_option Elab.async false
set_option linter.all false
set_option maxRecDepth 100000
set_option maxHeartbeats 4000000
set_option exponentiation.threshold 500
namespace Kz
open PySem PySem.Spec PyProof.Rows L2 Evl Vr
local macro_rules | `(tactic| walk_at "sc") => `(tactic| first | (with_reducible assumption) | (with_reducible exact sc_mul (by omega)) | (with_reducible exact sc_mulr (by omega)) | (with_reducible exact sc_div (by omega) (by decide)) | (show (0 : Int) < _; omega) | (show _ ≠ (0 : Int); omega) | (with_reducible rfl) | decide)
local macro_rules | `(tactic| walk_at "sq") => `(tactic| first | assumption | exact sq_of (by assumption) | exact st_of (by assumption))
local macro_rules | `(tactic| walk_at "pl") => `(tactic| first | assumption | exact pl_int | exact pl_bl | exact pl_str | exact pl_non | exact pl_lst (by assumption) | exact pl_tup (by assumption) | exact pl_dK (by assumption))
local macro_rules | `(tactic| walk_at "rv") => `(tactic| first
  | with_reducible exact rv_I0
  | with_reducible exact ru_neg
  | ((with_reducible apply rv_I); walk_at "sc")
  | ((with_reducible apply rv_ixL); walk_at "sq"; first | rfl | assumption)
  | ((with_reducible apply rv_ixT); walk_at "sq"; first | rfl | assumption)
  | ((with_reducible apply rv_eq); rfl) | ((with_reducible apply rv_ne); rfl))
local macro_rules | `(tactic| walk_at "rc") => `(tactic| first
  | with_reducible exact rc_I1 | with_reducible exact rc_B1 | with_reducible exact rc_I2 | ((with_reducible apply rc_repr); walk_at "sc") | ((with_reducible apply rc_lenL); walk_at "sq")
  | ((with_reducible apply rc_isiInt); walk_at "pl") | ((with_reducible apply rc_isiBool); walk_at "pl"))
local macro_rules | `(tactic| walk_at "ea") => `(tactic| first
  | with_reducible exact ea_nil | ((with_reducible apply ea_cons); walk_at "ev"; walk_at "ea"))
local macro_rules | `(tactic| walk_at "pow") => `(tactic| first
  | with_reducible exact ev_pow (a := 10) (b := 9) (c := 1000000000) (by decide +kernel) (by decide +kernel)
  | with_reducible exact ev_pow (a := 10) (b := 10) (c := 10000000000) (by decide +kernel) (by decide +kernel)
  | with_reducible exact ev_pow (a := 10) (b := 12) (c := 1000000000000) (by decide +kernel) (by decide +kernel)
  | with_reducible exact ev_pow (a := 10) (b := 17) (c := 100000000000000000) (by decide +kernel) (by decide +kernel)
  | with_reducible exact ev_pow (a := 10) (b := 20) (c := 100000000000000000000) (by decide +kernel) (by decide +kernel)
  | with_reducible exact ev_pow (a := 10) (b := 29) (c := 100000000000000000000000000000) (by decide +kernel) (by decide +kernel)
  | with_reducible exact ev_pow (a := 10) (b := 30) (c := 1000000000000000000000000000000) (by decide +kernel) (by decide +kernel)
  | with_reducible exact ev_pow (a := 10) (b := 40) (c := 10000000000000000000000000000000000000000) (by decide +kernel) (by decide +kernel)
  | with_reducible exact ev_pow (a := 10) (b := 57) (c := 1000000000000000000000000000000000000000000000000000000000) (by decide +kernel) (by decide +kernel)
  | with_reducible exact ev_pow (a := 10) (b := 58) (c := 10000000000000000000000000000000000000000000000000000000000) (by decide +kernel) (by decide +kernel)
  | with_reducible exact ev_pow (a := 10) (b := 59) (c := 100000000000000000000000000000000000000000000000000000000000) (by decide +kernel) (by decide +kernel)
  | with_reducible exact ev_pow (a := 10) (b := 60) (c := 1000000000000000000000000000000000000000000000000000000000000) (by decide +kernel) (by decide +kernel))
local macro_rules | `(tactic| walk_at "call") => `(tactic| (intro H9 e9; first | exact ⟨_, rfl, rfl⟩ | exact ⟨_, _, rfl, rfl⟩ | exact ⟨_, _, _, rfl, rfl⟩ | exact ⟨_, rfl, by walk_at "pl", rfl⟩ | (refine ⟨_, _, _, rfl, ?_, rfl⟩; first | exact Plain.ex e9 (by assumption) | walk_at "pl") | (refine ⟨_, rfl, ?_, rfl⟩; first | exact Plain.ex e9 (by assumption) | walk_at "pl")))
local macro_rules | `(tactic| walk_at "ev") => `(tactic| first
  | with_reducible exact ev_c
  | exact ev_var rfl
  | walk_at "pow"
  | ((with_reducible apply ev_op); walk_at "ev"; walk_at "ev"; walk_at "rv")
  | ((with_reducible apply ev_un); walk_at "ev"; walk_at "rv")
  | ((with_reducible apply ev_cb); walk_at "ea"; walk_at "rc")
  | ((with_reducible apply ev_callP); walk_at "ea"; walk_at "call")
  | ((with_reducible apply ev_chain); walk_at "ev"; walk_at "ev"; walk_at "rv"; walk_at "ev"; walk_at "rv")
  | ((with_reducible apply ev_andV); walk_at "ev"; intro _; walk_at "ev")
  | ((with_reducible apply ev_orV); walk_at "ev"; intro _; walk_at "ev")
  | ((with_reducible apply ev_ite); walk_at "et"; intro _; walk_at "ev"; intro _; walk_at "ev")
  | ((with_reducible apply ev_notV); walk_at "ev"))
local macro_rules | `(tactic| walk_at "et") => `(tactic| first
  | ((with_reducible apply et_test); walk_at "ev")
  | ((with_reducible apply et_B); walk_at "ev")
  | ((with_reducible apply et_and); walk_at "et"; intro _; walk_at "et")
  | ((with_reducible apply et_or); walk_at "et"; intro _; walk_at "et")
  | ((with_reducible apply et_not); walk_at "et"))
section
variable {P : Program} {w : World} {K : PySem.W.Frag} {mg : Str → Option Value} {base : Heap}
def kIsInteger (K : PySem.W.Frag) (vs : List V) (H : Hp) (z : V) : Prop := ∃ x, vs = [x] ∧ Plain K H x ∧ z = .bl (isIntV x)
theorem ok_is_integer (T : Txt K mg w) : FnOk P w K mg base CX0 1 T.a_is_integer T.fd_is_integer ["value"] (Pure (kIsInteger K)) := by
  refine T.F_is_integer.ok sc_is_integer (fun vs H Q E h => ?_) (fun cdv A outer s H vs Q E hr h => ?_)
  · obtain ⟨_, ⟨a, rfl, _⟩, _⟩ := h; rfl
  · obtain ⟨_, ⟨x, rfl, hp, rfl⟩, q⟩ := h
    refine ⟨_, (pss_one (ps_ret (pe_and (pe_callB call_isi (by rfl) T.z_isinstance (by decide +kernel) (pa_cons (pv 0) (pa_cons (pe_bltn (v := .ty "int") (by rfl) T.z_int (by decide +kernel) rfl) pa_nil))) (pe_and (pe_not (pe_callB call_isi (by rfl) T.z_isinstance (by decide +kernel) (pa_cons (pv 0) (pa_cons (pe_bltn (v := .ty "bool") (by rfl) T.z_bool (by decide +kernel) rfl) pa_nil)))) (pe_one (pe_chain op_lt op_lt (pe_un un_neg (pe_op op_pow pe_int pe_int)) (pv 0) (pe_op op_pow pe_int pe_int))))))), ?_⟩
    refine s_ret (v := .bl (isIntV x)) ?_ q
    cases x with
    | int i =>
      apply ev_is
      walk_at "ev"
      show V.bl (true && (!false && (decide (-1000000000000000000000000000000000000000000000000000000000000 < i) && decide (i < 1000000000000000000000000000000000000000000000000000000000000)))) = _
      rfl
    | bl b =>
      refine ev_andV (a := true) (b := false) (by apply ev_is; walk_at "ev"; rfl) fun _ => ?_
      exact ev_andV (a := false) (b := false) (by apply ev_is; walk_at "ev"; rfl) (fun h => by cases h)
    | non => exact ev_andV (a := false) (b := false) (by apply ev_is; walk_at "ev"; rfl) (fun h => by cases h)
    | str _ => exact ev_andV (a := false) (b := false) (by apply ev_is; walk_at "ev"; rfl) (fun h => by cases h)
    | byt _ => exact ev_andV (a := false) (b := false) (by apply ev_is; walk_at "ev"; rfl) (fun h => by cases h)
    | flt _ => exact ev_andV (a := false) (b := false) (by apply ev_is; walk_at "ev"; rfl) (fun h => by cases h)
    | ref _ => exact ev_andV (a := false) (b := false) (by apply ev_is; walk_at "ev"; rfl) (fun h => by cases h)
    | ty _ => exact ev_andV (a := false) (b := false) (by apply ev_is; walk_at "ev"; rfl) (fun h => by cases h)
def kIsWithin (K : PySem.W.Frag) (vs : List V) (H : Hp) (z : V) : Prop := ∃ x lo hi, vs = [x, .int lo, .int hi] ∧ Plain K H x ∧ z = .bl (isWithin lo hi x)
theorem ok_is_within (T : Txt K mg w) : FnOk P w K mg base CX0 2 T.a_is_within T.fd_is_within ["value", "low", "high"] (Pure (kIsWithin K)) := by
  have G_is_integer := ok_is_integer (P := P) (w := w) (base := base) T
  refine T.F_is_within.ok sc_is_within (fun vs H Q E h => ?_) (fun cdv A outer s H vs Q E hr h => ?_)
  · obtain ⟨_, ⟨a, _, _, rfl, _⟩, _⟩ := h; rfl
  · obtain ⟨_, ⟨x, lo, hi, rfl, hp, rfl⟩, q⟩ := h
    refine ⟨_, (pss_one (ps_ret (pe_and (pe_call G_is_integer (hr.mono (by decide)) (by rfl) T.g_is_integer T.F_is_integer.kp T.b_is_integer .nil pass0 (pa_cons (pv 0) pa_nil)) (pe_one (pe_chain op_le op_le (pv 1) (pv 0) (pv 2)))))), ?_⟩
    refine s_ret (v := .bl (isWithin lo hi x)) ?_ q
    cases x with
    | int i => apply ev_is; walk_at "ev"; rfl
    | bl b => exact ev_andV (a := false) (b := false) (by apply ev_is; walk_at "ev"; rfl) (fun h => by cases h)
    | non => exact ev_andV (a := false) (b := false) (by apply ev_is; walk_at "ev"; rfl) (fun h => by cases h)
    | str _ => exact ev_andV (a := false) (b := false) (by apply ev_is; walk_at "ev"; rfl) (fun h => by cases h)
    | byt _ => exact ev_andV (a := false) (b := false) (by apply ev_is; walk_at "ev"; rfl) (fun h => by cases h)
    | flt _ => exact ev_andV (a := false) (b := false) (by apply ev_is; walk_at "ev"; rfl) (fun h => by cases h)
    | ref _ => exact ev_andV (a := false) (b := false) (by apply ev_is; walk_at "ev"; rfl) (fun h => by cases h)
    | ty _ => exact ev_andV (a := false) (b := false) (by apply ev_is; walk_at "ev"; rfl) (fun h => by cases h)
def kRoll (vs : List V) (_ : Hp) (p : Addr) (R : V → Prop) : Prop := ∃ t : Int, vs = [.ref p, .int t] ∧ 0 < t ∧ t.natAbs < 2 ^ 400 ∧ R = fun v => ∃ r : Int, v = .int r ∧ 0 ≤ r ∧ r < t
theorem ok_roll (T : Txt K mg w) : FnOk P w K mg base CX0 1 T.a_law_roll T.fd_law_roll ["dice", "total"] (Draws kRoll) := by
  refine T.F_law_roll.ok sc_law_roll (fun vs H Q E h => ?_) (fun cdv A outer s H vs Q E hr h => ?_)
  · obtain ⟨p, _, ⟨t, rfl, _⟩, _⟩ := h; rfl
  · obtain ⟨p, _, ⟨t, rfl, h0, h1, rfl⟩, ⟨a, b, c, hp⟩, q0⟩ := h
    have q : ∀ (r : Int) H', 0 ≤ r → r < t → Exd p H H' → Dice p H' → Q (.int r) H' := fun r H' a b => q0 _ H' ⟨r, rfl, a, b⟩
    refine ⟨_, (pss_cons (ps_if (pt_cmpR op_gt (pe_ix ix_list (pv 0) pe_int (fun _ _ => rfl)) pe_int (nomark _)) (pss_cons (ps_set (i := 2) sc_law_roll.nd rfl (.inl rfl) (pe_op op_mod (pe_callTy c_int (by rfl) T.z_int (by decide +kernel) (pa_cons (pe_ix ix_list (pv 0) pe_int (fun _ _ => rfl)) pa_nil)) (pv 1)))
  (pss_cons (ps_asg (pe_op op_fdivW (pe_ix ix_list (pv 0) pe_int (fun _ _ => rfl)) (pv 1)) (pg_sub (pv 0) pe_int set_list))
  (pss_one (ps_ret (pv 2))))) pss_nil)
  (pss_cons (ps_asg (pe_op op_add (pe_ix ix_list (pv 0) pe_int (fun _ _ => rfl)) pe_int) (pg_sub (pv 0) pe_int set_list))
  (pss_cons (ps_set (i := 3) sc_law_roll.nd rfl (.inl rfl) (pe_op op_mod (pe_callTy c_int (by rfl) T.z_int (by decide +kernel) (pa_cons (pe_op op_add (pe_ix ix_list (pv 0) pe_int (fun _ _ => rfl)) (pe_op op_mul pe_int (pe_ix ix_list (pv 0) pe_int (fun _ _ => rfl)))) pa_nil)) pe_int))
  (pss_cons (ps_set (i := 4) sc_law_roll.nd rfl (.inl rfl) (pe_op op_add (pe_op op_mul (pe_op op_mod (pe_callTy c_int (by rfl) T.z_int (by decide +kernel) (pa_cons (pe_op op_add (pe_op op_mul (pv 3) (pv 3)) (pe_op op_mul pe_int (pe_ix ix_list (pv 0) pe_int (fun _ _ => rfl)))) pa_nil)) pe_int) pe_int) (pv 3)))
  (pss_one (ps_ret (pe_op op_mod (pe_callTy c_int (by rfl) T.z_int (by decide +kernel) (pa_cons (pe_op op_fdivW (pv 4) pe_int) pa_nil)) (pv 1)))))))), ?_⟩
    have cd : CDivW a t := wide_div h0 h1 (by decide) (by decide)
    apply q_when
    case h => walk_at "et"
    · intro hb H1 e1
      have hp := e1 _ _ hp
      apply q_asg
      case h => walk_at "ev"
      intro H2 e2
      have hp := e2 _ _ hp
      refine q_setL (j := 0) hp (v := .int (a / t)) (by walk_at "ev") (ev_var rfl) ev_c (by show 0 < 3; decide) fun H3 e3 => ?_
      refine ⟨_, rfl, q _ _ (Int.emod_nonneg _ (by omega)) (Int.emod_lt_of_pos _ h0) ?_ ⟨_, _, _, upd_same⟩⟩
      exact (Exd.of (e1.trans (e2.trans e3))).trans Exd.upd
    · intro hb H1 e1
      have hp := e1 _ _ hp
      refine q_setL (j := 2) hp (v := .int (c + 1)) (by walk_at "ev") (ev_var rfl) ev_c (by show 2 < 3; decide) fun H3 e3 => ?_
      have hq : (upd H3 p (.lst ([.int a, .int b, .int c].set 2 (.int (c + 1))))) p = some (.lst [.int a, .int b, .int (c + 1)]) := upd_same
      have ex := (Exd.of (e1.trans e3)).trans (Exd.upd (p := p) (o := .lst ([.int a, .int b, .int c].set 2 (.int (c + 1)))))
      generalize upd H3 p (.lst ([.int a, .int b, .int c].set 2 (.int (c + 1)))) = H4 at hq ex
      apply q_asg
      case h => walk_at "ev"
      intro H5 e5
      have hq := e5 _ _ hq
      generalize ho : (b + 67867979 * (c + 1)) % 2305843009213693723 = one
      have ho1 : 0 ≤ one := by rw [← ho]; exact Int.emod_nonneg _ (by omega)
      have ho2 : one < 2305843009213693723 := by rw [← ho]; exact Int.emod_lt_of_pos _ (by omega)
      have cm : CMul one one := .inl (by constructor <;> omega)
      apply q_asg
      case h => walk_at "ev"
      intro H6 e6
      have hq := e6 _ _ hq
      apply s_ret
      case h => walk_at "ev"
      intro H7 e7
      exact q _ _ (Int.emod_nonneg _ (by omega)) (Int.emod_lt_of_pos _ h0) (ex.trans (Exd.of (e5.trans (e6.trans e7)))) ⟨_, _, _, e7 _ _ hq⟩
def spDice (K : PySem.W.Frag) : Sp := fun vs H Q _ => ∃ (a : Addr) (ns : List Int) (sp : Nat), vs = [.ref a, .int sp] ∧ SqL K H a (ns.map V.int) ∧ ∀ p H', H p = none → Ex H H' → Dice p H' → Q (.ref p) H'
theorem ok_dice (T : Txt K mg w) : FnOk P w K mg base CX0 1 T.a_law_dice T.fd_law_dice ["script", "spot"] (spDice K) := by
  refine T.F_law_dice.ok sc_law_dice (fun vs H Q E h => ?_) (fun cdv A outer s H vs Q E hr h => ?_)
  · obtain ⟨_, _, _, rfl, _⟩ := h; rfl
  · obtain ⟨a, ns, sp, rfl, hS, q⟩ := h
    refine ⟨_, (pss_cons (ps_set (i := 2) sc_law_dice.nd rfl (.inl rfl) (pe_ifExp (pt_cmpR op_lt (pv 1) (pe_callB c_len (by rfl) T.z_len PySem.boot_len (pa_cons (pv 0) pa_nil)) (nomark _)) (pe_callTy c_int (by rfl) T.z_int (by decide +kernel) (pa_cons (pe_ix ix_list (pv 0) (pv 1) (fun _ _ => rfl)) pa_nil)) (pe_op op_add (pe_op op_mul pe_int (pv 1)) pe_int)))
  (pss_cons (ps_set (i := 3) sc_law_dice.nd rfl (.inl rfl) (pe_op op_mod (pe_callB (c_max rfl) (by rfl) T.z_max (by decide +kernel) (pa_cons pe_int (pa_cons (pe_op op_sub (pe_callB c_abs (by rfl) T.z_abs (by decide +kernel) (pa_cons (pv 2) pa_nil)) (pe_op op_pow pe_int pe_int)) pa_nil))) (pe_op op_mulW (pe_op op_pow pe_int pe_int) (pe_op op_pow pe_int pe_int))))
  (pss_one (ps_ret (pe_lst (pa_cons (pv 3) (pa_cons (pe_op op_add (pe_op op_add (pe_op op_add (pe_op op_mul (pe_op op_mod (pe_callB c_abs (by rfl) T.z_abs (by decide +kernel) (pa_cons (pv 2) pa_nil)) pe_int) pe_int) (pe_op op_mul pe_int (pv 1))) (pe_op op_mul pe_int (pe_callTy c_intB (by rfl) T.z_int (by decide +kernel) (pa_cons (pe_cmpR op_lt (pv 2) pe_int (nomark _)) pa_nil)))) pe_int) (pa_cons pe_int pa_nil)))))))), ?_⟩
    refine q_asgI ?_ fun cell H1 e1 => ?_
    · by_cases hs : sp < ns.length
      · have hx : (ns.map V.int)[sp]? = some (.int ns[sp]) := by rw [List.getElem?_map, List.getElem?_eq_getElem hs]; rfl
        have hi : atI (ns.map V.int) (sp : Int) = some (.int ns[sp]) := atI_nat hx
        refine ⟨ns[sp], ev_if (b := true) ?_ (fun _ => by walk_at "ev") (fun h => by cases h)⟩
        apply et_is
        walk_at "et"
        rw [List.length_map]
        exact decide_eq_true (by omega)
      · refine ⟨_, ev_if (b := false) ?_ (fun h => by cases h) (fun _ => by walk_at "ev")⟩
        apply et_is
        walk_at "et"
        rw [List.length_map]
        exact decide_eq_false (by omega)
    refine q_asgI ⟨_, ev_op (y := .int 1000000000000000000000000000000000000000000000000000000000000000000000000000000000000000000000000000000000000000000000) (by walk_at "ev") (ev_is (ev_op (by walk_at "pow") (by walk_at "pow") (rv_I (by unfold CMulW; decide +kernel))) (by decide +kernel)) (rv_I (by decide))⟩ fun left H2 e2 => ?_
    have hm : ∀ n : Int, CMul (n % 1152921504606846817) 83 := fun n => .inr (by omega)
    have hm2 := hm (if cell < 0 then -cell else cell)
    refine s_retL (el_lst (by walk_at "ea") (by show 3 ≤ 100000; decide)) fun p H3 hp e3 h3 => ?_
    exact q p H3 (fresh_back (e1.trans e2) hp) ((e1.trans e2).trans e3) ⟨_, _, _, h3⟩
def kPick (K : PySem.W.Frag) (vs : List V) (H : Hp) (p : Addr) (R : V → Prop) : Prop := ∃ (a : Addr) (xs : List V), vs = [.ref p, .ref a] ∧ a ≠ p ∧ SqL K H a xs ∧ 0 < xs.length ∧ xs.length < 1000000 ∧ R = fun v => v ∈ xs
theorem ok_pick (T : Txt K mg w) : FnOk P w K mg base CX0 2 T.a_law_pick T.fd_law_pick ["dice", "items"] (Draws (kPick K)) := by
  have G_law_roll := ok_roll (P := P) (w := w) (base := base) T
  refine T.F_law_pick.ok sc_law_pick (fun vs H Q E h => ?_) (fun cdv A outer s H vs Q E hr h => ?_)
  · obtain ⟨p, _, ⟨_, _, rfl, _⟩, _⟩ := h; rfl
  · obtain ⟨p, _, ⟨a, xs, rfl, hne, hS, hl, hl2, rfl⟩, hd, q⟩ := h
    refine ⟨_, (pss_one (ps_ret (pe_ix ix_list (pv 1) (pe_call G_law_roll (hr.mono (by decide)) (by rfl) T.g_law_roll T.F_law_roll.kp T.b_law_roll .nil pass0 (pa_cons (pv 0) (pa_cons (pe_callB c_len (by rfl) T.z_len PySem.boot_len (pa_cons (pv 1) pa_nil)) pa_nil))) (fun _ _ => rfl)))), ?_⟩
    refine ⟨.ref a, rfl, ?_⟩
    refine goA (vs := [.ref p, .int xs.length]) (by walk_at "ea") fun H1 e1 => ?_
    refine ⟨p, _, ⟨(xs.length : Int), rfl, by omega, by rw [Int.natAbs_natCast]; exact Nat.lt_trans hl2 (by decide), rfl⟩, hd.ex e1, ?_⟩
    rintro v H2 ⟨r, rfl, hr0, hr1⟩ e2 d2
    obtain ⟨n, rfl⟩ := Int.eq_ofNat_of_zero_le hr0
    have hn : n < xs.length := by omega
    refine ⟨a, xs, n, xs[n], rfl, rfl, e2.l hne (ex_l e1 hS), atI_nat (List.getElem?_eq_getElem hn), ?_⟩
    exact q _ H2 (List.getElem_mem hn) ((Exd.of e1).trans e2) d2
end
end Kz
set_option Elab.async false
set_option linter.all false
set_option maxRecDepth 100000
set_option maxHeartbeats 4000000
set_option exponentiation.threshold 500
namespace Kz
open PySem PySem.Spec PyProof.Rows L2 Evl Vr
local macro_rules | `(tactic| walk_at "sc") => `(tactic| first | (with_reducible assumption) | (with_reducible exact sc_mul (by omega)) | (with_reducible exact sc_mulr (by omega)) | (with_reducible exact sc_div (by omega) (by decide)) | (show (0 : Int) < _; omega) | (show _ ≠ (0 : Int); omega) | (with_reducible rfl) | decide)
local macro_rules | `(tactic| walk_at "sq") => `(tactic| first | assumption | exact sq_of (by assumption) | exact st_of (by assumption))
local macro_rules | `(tactic| walk_at "pl") => `(tactic| first | assumption | exact pl_int | exact pl_bl | exact pl_str | exact pl_non | exact pl_lst (by assumption) | exact pl_tup (by assumption) | exact pl_dK (by assumption))
local macro_rules | `(tactic| walk_at "rv") => `(tactic| first
  | with_reducible exact rv_I0
  | with_reducible exact ru_neg
  | ((with_reducible apply rv_I); walk_at "sc")
  | ((with_reducible apply rv_ixL); walk_at "sq"; first | rfl | assumption)
  | ((with_reducible apply rv_ixT); walk_at "sq"; first | rfl | assumption)
  | ((with_reducible apply rv_eq); rfl) | ((with_reducible apply rv_ne); rfl))
local macro_rules | `(tactic| walk_at "rc") => `(tactic| first
  | with_reducible exact rc_I1 | with_reducible exact rc_B1 | with_reducible exact rc_I2 | ((with_reducible apply rc_repr); walk_at "sc") | ((with_reducible apply rc_lenL); walk_at "sq")
  | ((with_reducible apply rc_isiInt); walk_at "pl") | ((with_reducible apply rc_isiBool); walk_at "pl"))
local macro_rules | `(tactic| walk_at "ea") => `(tactic| first
  | with_reducible exact ea_nil | ((with_reducible apply ea_cons); walk_at "ev"; walk_at "ea"))
local macro_rules | `(tactic| walk_at "pow") => `(tactic| first
  | with_reducible exact ev_pow (a := 10) (b := 9) (c := 1000000000) (by decide +kernel) (by decide +kernel)
  | with_reducible exact ev_pow (a := 10) (b := 10) (c := 10000000000) (by decide +kernel) (by decide +kernel)
  | with_reducible exact ev_pow (a := 10) (b := 12) (c := 1000000000000) (by decide +kernel) (by decide +kernel)
  | with_reducible exact ev_pow (a := 10) (b := 17) (c := 100000000000000000) (by decide +kernel) (by decide +kernel)
  | with_reducible exact ev_pow (a := 10) (b := 20) (c := 100000000000000000000) (by decide +kernel) (by decide +kernel)
  | with_reducible exact ev_pow (a := 10) (b := 29) (c := 100000000000000000000000000000) (by decide +kernel) (by decide +kernel)
  | with_reducible exact ev_pow (a := 10) (b := 30) (c := 1000000000000000000000000000000) (by decide +kernel) (by decide +kernel)
  | with_reducible exact ev_pow (a := 10) (b := 40) (c := 10000000000000000000000000000000000000000) (by decide +kernel) (by decide +kernel)
  | with_reducible exact ev_pow (a := 10) (b := 57) (c := 1000000000000000000000000000000000000000000000000000000000) (by decide +kernel) (by decide +kernel)
  | with_reducible exact ev_pow (a := 10) (b := 58) (c := 10000000000000000000000000000000000000000000000000000000000) (by decide +kernel) (by decide +kernel)
  | with_reducible exact ev_pow (a := 10) (b := 59) (c := 100000000000000000000000000000000000000000000000000000000000) (by decide +kernel) (by decide +kernel)
  | with_reducible exact ev_pow (a := 10) (b := 60) (c := 1000000000000000000000000000000000000000000000000000000000000) (by decide +kernel) (by decide +kernel))
local macro_rules | `(tactic| walk_at "call") => `(tactic| (intro H9 e9; first | exact ⟨_, rfl, rfl⟩ | exact ⟨_, _, rfl, rfl⟩ | exact ⟨_, _, _, rfl, rfl⟩ | exact ⟨_, rfl, by walk_at "pl", rfl⟩ | (refine ⟨_, _, _, rfl, ?_, rfl⟩; first | exact Plain.ex e9 (by assumption) | walk_at "pl") | (refine ⟨_, rfl, ?_, rfl⟩; first | exact Plain.ex e9 (by assumption) | walk_at "pl")))
local macro_rules | `(tactic| walk_at "ev") => `(tactic| first
  | with_reducible exact ev_c
  | exact ev_var rfl
  | walk_at "pow"
  | ((with_reducible apply ev_op); walk_at "ev"; walk_at "ev"; walk_at "rv")
  | ((with_reducible apply ev_un); walk_at "ev"; walk_at "rv")
  | ((with_reducible apply ev_cb); walk_at "ea"; walk_at "rc")
  | ((with_reducible apply ev_callP); walk_at "ea"; walk_at "call")
  | ((with_reducible apply ev_chain); walk_at "ev"; walk_at "ev"; walk_at "rv"; walk_at "ev"; walk_at "rv")
  | ((with_reducible apply ev_andV); walk_at "ev"; intro _; walk_at "ev")
  | ((with_reducible apply ev_orV); walk_at "ev"; intro _; walk_at "ev")
  | ((with_reducible apply ev_ite); walk_at "et"; intro _; walk_at "ev"; intro _; walk_at "ev")
  | ((with_reducible apply ev_notV); walk_at "ev"))
local macro_rules | `(tactic| walk_at "et") => `(tactic| first
  | ((with_reducible apply et_test); walk_at "ev")
  | ((with_reducible apply et_B); walk_at "ev")
  | ((with_reducible apply et_and); walk_at "et"; intro _; walk_at "et")
  | ((with_reducible apply et_or); walk_at "et"; intro _; walk_at "et")
  | ((with_reducible apply et_not); walk_at "et"))
/-- promises of defs that answer with a new tuple -/
def Tupd (ok : List V → Hp → List V → Prop) : Sp := fun vs H Q _ => ∃ xs, ok vs H xs ∧ ∀ p H', H p = none → Ex H H' → H' p = some (.tup xs) → Q (.ref p) H'
section
variable {σ : L2.St} {H : Hp} {te ta tb tc : TE} {tz : TS} {D : Ends} {K : PySem.W.Frag} {w : World}
theorem eu_callT {ok : List V → Hp → List V → Prop} {E : XK} {ts : TA} {vs xs : List V} (h : EvA ts σ H vs) (ho : ∀ H1, Ex H H1 → ok vs H1 xs) : EvU (tCall (Tupd ok) [] E ts) σ H xs := fun H1 e Q q =>
  h H1 e _ fun H2 e2 => by
    show Tupd ok (vs ++ []) H2 Q E
    rw [List.append_nil]
    exact ⟨xs, ho H2 (e.trans e2), fun p H3 hp e3 h3 => q p H3 (fresh_back e2 hp) (e2.trans e3) h3⟩
/-- a, b = what stands in a tuple that is there -/
theorem q_asg2T {i j : Nat} {p : Addr} {v1 v2 : V} (h : Ev te σ H (.ref p)) (hT : SqT K H p [v1, v2]) (k : ∀ H1, Ex H H1 → tz D ((σ.set i (some v1)).set j (some v2)) H1) : tSeq (tAsg te (gTup K 2 (gCons (gName i) (gCons (gName j) gNil)))) tz D σ H :=
  h H (Ex.refl H) _ fun H1 e => ⟨p, [v1, v2], rfl, ex_t e hT, rfl, v1, [v2], rfl, v2, [], rfl, rfl, k H1 e⟩
theorem q_asg4T {i j l m : Nat} {p : Addr} {v1 v2 v3 v4 : V} (h : Ev te σ H (.ref p)) (hT : SqT K H p [v1, v2, v3, v4]) (k : ∀ H1, Ex H H1 → tz D ((((σ.set i (some v1)).set j (some v2)).set l (some v3)).set m (some v4)) H1) : tSeq (tAsg te (gTup K 4 (gCons (gName i) (gCons (gName j) (gCons (gName l) (gCons (gName m) gNil)))))) tz D σ H :=
  h H (Ex.refl H) _ fun H1 e => ⟨p, [v1, v2, v3, v4], rfl, ex_t e hT, rfl, v1, _, rfl, v2, _, rfl, v3, _, rfl, v4, [], rfl, rfl, k H1 e⟩
theorem rv_ixD {p : Addr} {z : Str} {v : V} (h : KDct K w p z v) : RV (rIxD K w) (.ref p) (.str z) H v := fun H1 _ _ q => ⟨p, z, v, rfl, rfl, h, q H1 (Ex.refl H1)⟩
end
/-- a box -/
structure Bx where
  x : Int
  y : Int
  w : Int
  h : Int
def Bx.v (b : Bx) : List V := [.int b.x, .int b.y, .int b.w, .int b.h]
def Bx.at (b : Bx) (ax : Nat) : Int := if ax = 0 then b.x else b.y
def Bx.sz (b : Bx) (ax : Nat) : Int := if ax = 0 then b.w else b.h
theorem bx_at (b : Bx) {ax : Nat} (h : ax < 2) : atI b.v (ax : Int) = some (.int (b.at ax)) := by
  match ax, h with
  | 0, _ => rfl
  | 1, _ => rfl
theorem bx_sz (b : Bx) {ax : Nat} (h : ax < 2) : atI b.v ((ax : Int) + 2) = some (.int (b.sz ax)) := by
  match ax, h with
  | 0, _ => rfl
  | 1, _ => rfl
abbrev mx (i j : Int) : Int := if j > i then j else i
abbrev mn (i j : Int) : Int := if j < i then j else i
def share (ax : Nat) (g : Int) (b c : Bx) : Bool := decide (mx (b.at ax - g) (c.at ax) < mn (b.at ax + b.sz ax + g) (c.at ax + c.sz ax))
def meet (g : Int) (b c : Bx) : Bool := share 0 g b c && share 1 g b c
/-- the sides: name, axis, way -/
inductive Sd where | left | right | low | high
def Sd.n : Sd → Str | .left => "left" | .right => "right" | .low => "low" | .high => "high"
def Sd.ax : Sd → Nat | .left => 0 | .right => 0 | .low => 1 | .high => 1
def Sd.wy : Sd → Int | .left => -1 | .right => 1 | .low => -1 | .high => 1
theorem Sd.ax2 (s : Sd) : s.ax < 2 := by cases s <;> decide
def Bx.go (b : Bx) (s : Sd) (u : Int) : Bx := if s.ax = 0 then ⟨b.x + s.wy * u, b.y, b.w, b.h⟩ else ⟨b.x, b.y + s.wy * u, b.w, b.h⟩
section
variable {P : Program} {w : World} {K : PySem.W.Frag} {mg : Str → Option Value} {base : Heap}
theorem ways (T : Txt K mg w) (s : Sd) : ∃ p, KDct K w T.a_WAYS s.n (.ref p) ∧ ∀ H, SqT K H p [.int s.ax, .int s.wy] := by
  cases s
  · exact ⟨T.w_left, T.o_left, T.p_left⟩
  · exact ⟨T.w_right, T.o_right, T.p_right⟩
  · exact ⟨T.w_low, T.o_low, T.p_low⟩
  · exact ⟨T.w_high, T.o_high, T.p_high⟩
def kShare (K : PySem.W.Frag) (vs : List V) (H : Hp) (z : V) : Prop := ∃ (p q : Addr) (b c : Bx) (ax : Nat) (g : Int), vs = [.ref p, .ref q, .int ax, .int g] ∧ SqT K H p b.v ∧ SqT K H q c.v ∧ ax < 2 ∧ z = .bl (share ax g b c)
theorem ok_do_share (T : Txt K mg w) : FnOk P w K mg base CX0 1 T.a_do_share T.fd_do_share ["one", "other", "axis", "grown"] (Pure (kShare K)) := by
  refine T.F_do_share.ok sc_do_share (fun vs H Q E h => ?_) (fun cdv A outer s H vs Q E hr h => ?_)
  · obtain ⟨_, ⟨_, _, _, _, _, _, rfl, _⟩, _⟩ := h; rfl
  · obtain ⟨_, ⟨p, r, b, c, ax, g, rfl, hb, hc, hx, rfl⟩, q⟩ := h
    refine ⟨_, (pss_cons (ps_set (i := 4) sc_do_share.nd rfl (.inl rfl) (pe_callB (c_max rfl) (by rfl) T.z_max (by decide +kernel) (pa_cons (pe_op op_sub (pe_ix ix_tup (pv 0) (pv 2) (fun _ _ => rfl)) (pv 3)) (pa_cons (pe_ix ix_tup (pv 1) (pv 2) (fun _ _ => rfl)) pa_nil))))
  (pss_cons (ps_set (i := 5) sc_do_share.nd rfl (.inl rfl) (pe_callB (c_min rfl) (by rfl) T.z_min (by decide +kernel) (pa_cons (pe_op op_add (pe_op op_add (pe_ix ix_tup (pv 0) (pv 2) (fun _ _ => rfl)) (pe_ix ix_tup (pv 0) (pe_op op_add (pv 2) pe_int) (fun _ _ => rfl))) (pv 3)) (pa_cons (pe_op op_add (pe_ix ix_tup (pv 1) (pv 2) (fun _ _ => rfl)) (pe_ix ix_tup (pv 1) (pe_op op_add (pv 2) pe_int) (fun _ _ => rfl))) pa_nil))))
  (pss_one (ps_ret (pe_cmpR op_lt (pv 4) (pv 5) (nomark _)))))), ?_⟩
    have b1 := bx_at b hx
    have b2 := bx_sz b hx
    have c1 := bx_at c hx
    have c2 := bx_sz c hx
    refine q_asg (v := .int (mx (b.at ax - g) (c.at ax))) (by walk_at "ev") fun H1 e1 => ?_
    have hb := ex_t e1 hb
    have hc := ex_t e1 hc
    refine q_asg (v := .int (mn (b.at ax + b.sz ax + g) (c.at ax + c.sz ax))) (by walk_at "ev") fun H2 e2 => ?_
    refine s_ret (v := .bl (share ax g b c)) (ev_is (ev_op (x := .int (mx (b.at ax - g) (c.at ax))) (y := .int (mn (b.at ax + b.sz ax + g) (c.at ax + c.sz ax))) (ev_var rfl) (ev_var rfl) rv_I0) rfl) fun H3 e3 => q H3 ((e1.trans e2).trans e3)
def kMeet (K : PySem.W.Frag) (vs : List V) (H : Hp) (z : V) : Prop := ∃ (p q : Addr) (b c : Bx) (g : Int), vs = [.ref p, .ref q, .int g] ∧ SqT K H p b.v ∧ SqT K H q c.v ∧ z = .bl (meet g b c)
theorem ok_do_meet (T : Txt K mg w) : FnOk P w K mg base CX0 2 T.a_do_meet T.fd_do_meet ["one", "other", "grown"] (Pure (kMeet K)) := by
  have G_do_share := ok_do_share (P := P) (w := w) (base := base) T
  refine T.F_do_meet.ok sc_do_meet (fun vs H Q E h => ?_) (fun cdv A outer s H vs Q E hr h => ?_)
  · obtain ⟨_, ⟨_, _, _, _, _, rfl, _⟩, _⟩ := h; rfl
  · obtain ⟨_, ⟨p, r, b, c, g, rfl, hb, hc, rfl⟩, q⟩ := h
    refine ⟨_, (pss_one (ps_ret (pe_and (pe_call G_do_share (hr.mono (by decide)) (by rfl) T.g_do_share T.F_do_share.kp T.b_do_share .nil pass0 (pa_cons (pv 0) (pa_cons (pv 1) (pa_cons pe_int (pa_cons (pv 2) pa_nil))))) (pe_one (pe_call G_do_share (hr.mono (by decide)) (by rfl) T.g_do_share T.F_do_share.kp T.b_do_share .nil pass0 (pa_cons (pv 0) (pa_cons (pv 1) (pa_cons pe_int (pa_cons (pv 2) pa_nil))))))))), ?_⟩
    refine s_ret (v := .bl (meet g b c)) (ev_andV (ev_callP (vs := [.ref p, .ref r, .int 0, .int g]) (by walk_at "ea") fun H1 e1 => ⟨p, r, b, c, 0, g, rfl, ex_t e1 hb, ex_t e1 hc, by decide, rfl⟩) fun _ => ev_callP (vs := [.ref p, .ref r, .int 1, .int g]) (by walk_at "ea") fun H1 e1 => ⟨p, r, b, c, 1, g, rfl, ex_t e1 hb, ex_t e1 hc, by decide, rfl⟩) q
def kShift (K : PySem.W.Frag) (vs : List V) (H : Hp) (xs : List V) : Prop := ∃ (p : Addr) (b : Bx) (s : Sd) (u : Int), vs = [.ref p, .str s.n, .int u] ∧ SqT K H p b.v ∧ xs = (b.go s u).v
theorem ok_shifted (T : Txt K mg w) : FnOk P w K mg base CX0 1 T.a_shifted T.fd_shifted ["box", "side", "units"] (Tupd (kShift K)) := by
  refine T.F_shifted.ok sc_shifted (fun vs H Q E h => ?_) (fun cdv A outer s H vs Q E hr h => ?_)
  · obtain ⟨_, ⟨_, _, _, _, rfl, _⟩, _⟩ := h; rfl
  · obtain ⟨_, ⟨p, b, d, u, rfl, hb, rfl⟩, q⟩ := h
    refine ⟨_, (pss_cons (ps_asg (pe_ix ix_kdict (pe_glob (v := .ref _) rfl T.g_WAYS rfl) (pv 1) (fun _ _ => rfl)) (pg_tup rfl (pgs_cons (pg_name (i := 3) sc_shifted.nd rfl (.inl rfl)) (pgs_cons (pg_name (i := 4) sc_shifted.nd rfl (.inl rfl)) pgs_nil))))
  (pss_cons (ps_asg (pv 0) (pg_tup rfl (pgs_cons (pg_name (i := 5) sc_shifted.nd rfl (.inl rfl)) (pgs_cons (pg_name (i := 6) sc_shifted.nd rfl (.inl rfl)) (pgs_cons (pg_name (i := 7) sc_shifted.nd rfl (.inl rfl)) (pgs_cons (pg_name (i := 8) sc_shifted.nd rfl (.inl rfl)) pgs_nil))))))
  (pss_cons (ps_if (pt_cmpR op_eq (pv 3) pe_int (nomark _)) (pss_one (ps_ret (pe_tup (pa_cons (pe_op op_add (pv 5) (pe_op op_mul (pv 4) (pv 2))) (pa_cons (pv 6) (pa_cons (pv 7) (pa_cons (pv 8) pa_nil))))))) pss_nil)
  (pss_one (ps_ret (pe_tup (pa_cons (pv 5) (pa_cons (pe_op op_add (pv 6) (pe_op op_mul (pv 4) (pv 2))) (pa_cons (pv 7) (pa_cons (pv 8) pa_nil)))))))))), ?_⟩
    obtain ⟨a, hd, ht⟩ := ways T d
    refine q_asg2T (p := a) (v1 := .int d.ax) (v2 := .int d.wy) (ev_op ev_c (ev_var rfl) (rv_ixD hd)) (ht H) fun H1 e1 => ?_
    refine q_asg4T (p := p) (v1 := .int b.x) (v2 := .int b.y) (v3 := .int b.w) (v4 := .int b.h) (ev_var rfl) (ex_t e1 hb) fun H2 e2 => ?_
    have m1 : CMul d.wy u := .inl (by cases d <;> decide)
    refine q_when (b := decide (V.int (d.ax : Int) = V.int 0)) (by walk_at "et") (fun hx H3 e3 => ?_) (fun hx H3 e3 => ?_)
    · have h0 : d.ax = 0 := Int.ofNat.inj (V.int.inj (of_decide_eq_true hx))
      have hg : (b.go d u).v = [.int (b.x + d.wy * u), .int b.y, .int b.w, .int b.h] := by unfold Bx.go; rw [if_pos h0]; rfl
      rw [hg] at q
      exact s_retU (eu_tup (by walk_at "ea") (by show 4 ≤ 100000; decide)) fun p2 H4 hp e4 h4 => q p2 H4 (fresh_back ((e1.trans e2).trans e3) hp) (((e1.trans e2).trans e3).trans e4) h4
    · have h0 : ¬ d.ax = 0 := fun z => of_decide_eq_false hx (by rw [z]; rfl)
      have hg : (b.go d u).v = [.int b.x, .int (b.y + d.wy * u), .int b.w, .int b.h] := by unfold Bx.go; rw [if_neg h0]; rfl
      rw [hg] at q
      exact s_retU (eu_tup (by walk_at "ea") (by show 4 ≤ 100000; decide)) fun p2 H4 hp e4 h4 => q p2 H4 (fresh_back ((e1.trans e2).trans e3) hp) (((e1.trans e2).trans e3).trans e4) h4
end
end Kz
set_option Elab.async false
set_option linter.all false
set_option maxRecDepth 100000
set_option maxHeartbeats 4000000
set_option exponentiation.threshold 500
namespace Kz
open PySem PySem.Spec PyProof.Rows L2 Evl Vr
local macro_rules | `(tactic| walk_at "sc") => `(tactic| first | (with_reducible assumption) | (with_reducible exact sc_mul (by omega)) | (with_reducible exact sc_mulr (by omega)) | (with_reducible exact sc_div (by omega) (by decide)) | (show (0 : Int) < _; omega) | (show _ ≠ (0 : Int); omega) | (with_reducible rfl) | decide)
local macro_rules | `(tactic| walk_at "sq") => `(tactic| first | assumption | exact sq_of (by assumption) | exact st_of (by assumption))
local macro_rules | `(tactic| walk_at "pl") => `(tactic| first | assumption | exact pl_int | exact pl_bl | exact pl_str | exact pl_non | exact pl_lst (by assumption) | exact pl_tup (by assumption) | exact pl_dK (by assumption))
local macro_rules | `(tactic| walk_at "rv") => `(tactic| first
  | with_reducible exact rv_I0
  | with_reducible exact ru_neg
  | ((with_reducible apply rv_I); walk_at "sc")
  | ((with_reducible apply rv_ixL); walk_at "sq"; first | rfl | assumption)
  | ((with_reducible apply rv_ixT); walk_at "sq"; first | rfl | assumption)
  | ((with_reducible apply rv_eq); rfl) | ((with_reducible apply rv_ne); rfl))
local macro_rules | `(tactic| walk_at "rc") => `(tactic| first
  | with_reducible exact rc_I1 | with_reducible exact rc_B1 | with_reducible exact rc_I2 | ((with_reducible apply rc_repr); walk_at "sc") | ((with_reducible apply rc_lenL); walk_at "sq")
  | ((with_reducible apply rc_isiInt); walk_at "pl") | ((with_reducible apply rc_isiBool); walk_at "pl"))
local macro_rules | `(tactic| walk_at "ea") => `(tactic| first
  | with_reducible exact ea_nil | ((with_reducible apply ea_cons); walk_at "ev"; walk_at "ea"))
local macro_rules | `(tactic| walk_at "pow") => `(tactic| first
  | with_reducible exact ev_pow (a := 10) (b := 9) (c := 1000000000) (by decide +kernel) (by decide +kernel)
  | with_reducible exact ev_pow (a := 10) (b := 10) (c := 10000000000) (by decide +kernel) (by decide +kernel)
  | with_reducible exact ev_pow (a := 10) (b := 12) (c := 1000000000000) (by decide +kernel) (by decide +kernel)
  | with_reducible exact ev_pow (a := 10) (b := 17) (c := 100000000000000000) (by decide +kernel) (by decide +kernel)
  | with_reducible exact ev_pow (a := 10) (b := 20) (c := 100000000000000000000) (by decide +kernel) (by decide +kernel)
  | with_reducible exact ev_pow (a := 10) (b := 29) (c := 100000000000000000000000000000) (by decide +kernel) (by decide +kernel)
  | with_reducible exact ev_pow (a := 10) (b := 30) (c := 1000000000000000000000000000000) (by decide +kernel) (by decide +kernel)
  | with_reducible exact ev_pow (a := 10) (b := 40) (c := 10000000000000000000000000000000000000000) (by decide +kernel) (by decide +kernel)
  | with_reducible exact ev_pow (a := 10) (b := 57) (c := 1000000000000000000000000000000000000000000000000000000000) (by decide +kernel) (by decide +kernel)
  | with_reducible exact ev_pow (a := 10) (b := 58) (c := 10000000000000000000000000000000000000000000000000000000000) (by decide +kernel) (by decide +kernel)
  | with_reducible exact ev_pow (a := 10) (b := 59) (c := 100000000000000000000000000000000000000000000000000000000000) (by decide +kernel) (by decide +kernel)
  | with_reducible exact ev_pow (a := 10) (b := 60) (c := 1000000000000000000000000000000000000000000000000000000000000) (by decide +kernel) (by decide +kernel))
local macro_rules | `(tactic| walk_at "call") => `(tactic| (intro H9 e9; first | exact ⟨_, rfl, rfl⟩ | exact ⟨_, _, rfl, rfl⟩ | exact ⟨_, _, _, rfl, rfl⟩ | exact ⟨_, rfl, by walk_at "pl", rfl⟩ | (refine ⟨_, _, _, rfl, ?_, rfl⟩; first | exact Plain.ex e9 (by assumption) | walk_at "pl") | (refine ⟨_, rfl, ?_, rfl⟩; first | exact Plain.ex e9 (by assumption) | walk_at "pl")))
local macro_rules | `(tactic| walk_at "ev") => `(tactic| first
  | with_reducible exact ev_c
  | exact ev_var rfl
  | walk_at "pow"
  | ((with_reducible apply ev_op); walk_at "ev"; walk_at "ev"; walk_at "rv")
  | ((with_reducible apply ev_un); walk_at "ev"; walk_at "rv")
  | ((with_reducible apply ev_cb); walk_at "ea"; walk_at "rc")
  | ((with_reducible apply ev_callP); walk_at "ea"; walk_at "call")
  | ((with_reducible apply ev_chain); walk_at "ev"; walk_at "ev"; walk_at "rv"; walk_at "ev"; walk_at "rv")
  | ((with_reducible apply ev_andV); walk_at "ev"; intro _; walk_at "ev")
  | ((with_reducible apply ev_orV); walk_at "ev"; intro _; walk_at "ev")
  | ((with_reducible apply ev_ite); walk_at "et"; intro _; walk_at "ev"; intro _; walk_at "ev")
  | ((with_reducible apply ev_notV); walk_at "ev"))
local macro_rules | `(tactic| walk_at "et") => `(tactic| first
  | ((with_reducible apply et_test); walk_at "ev")
  | ((with_reducible apply et_B); walk_at "ev")
  | ((with_reducible apply et_and); walk_at "et"; intro _; walk_at "et")
  | ((with_reducible apply et_or); walk_at "et"; intro _; walk_at "et")
  | ((with_reducible apply et_not); walk_at "et"))
def Lstd (ok : List V → Hp → List V → Prop) : Sp := fun vs H Q _ => ∃ xs, ok vs H xs ∧ ∀ p H', H p = none → Ex H H' → H' p = some (.lst xs) → Q (.ref p) H'
section
variable {σ : L2.St} {H : Hp} {te ta tb tc : TE} {t : TT} {tr : TA} {tz : TS} {D : Ends} {K : PySem.W.Frag} {w : World}
theorem el_callL {ok : List V → Hp → List V → Prop} {E : XK} {ts : TA} {vs xs : List V} (h : EvA ts σ H vs) (ho : ∀ H1, Ex H H1 → ok vs H1 xs) : EvL (tCall (Lstd ok) [] E ts) σ H xs := fun H1 e Q q =>
  h H1 e _ fun H2 e2 => by
    show Lstd ok (vs ++ []) H2 Q E
    rw [List.append_nil]
    exact ⟨xs, ho H2 (e.trans e2), fun p H3 hp e3 h3 => q p H3 (fresh_back e2 hp) (e2.trans e3) h3⟩
theorem eu_if {b : Bool} {xs : List V} (h : EvT t σ H b) (h1 : b = true → EvU ta σ H xs) (h2 : b = false → EvU tb σ H xs) : EvU (tIf t ta tb) σ H xs := fun H1 e Q q => h H1 e _ fun H2 e2 => by
  match b with
  | true =>
    rw [if_pos rfl]
    exact h1 rfl H2 (e.trans e2) Q fun p H3 hp e3 h3 => q p H3 (fresh_back e2 hp) (e2.trans e3) h3
  | false =>
    rw [if_neg Bool.false_ne_true]
    exact h2 rfl H2 (e.trans e2) Q fun p H3 hp e3 h3 => q p H3 (fresh_back e2 hp) (e2.trans e3) h3
theorem ea_starL {xs ys : List V} (h : EvL te σ H xs) (hr : ∀ H1, Ex H H1 → EvA tr σ H1 ys) : EvA (StX.tStar K te tr) σ H (xs ++ ys) := fun H1 e Q q =>
  h H1 e _ fun p H2 hp e2 h2 => ⟨p, xs, rfl, .inr (sq_of h2), hr H2 (e.trans e2) H2 (Ex.refl H2) _ fun H3 e3 => q H3 (e2.trans e3)⟩
end
theorem given_int (l : List Int) (g : Int → Bool) : given l.length (fun i => g (l.getD i 0)) (fun i => V.int (l.getD i 0)) = (l.filter g).map V.int := by
  unfold given
  have e : (List.range l.length).map (fun i => l.getD i 0) = l := by
    apply List.ext_getElem
    · simp
    · intro i h1 h2
      simp [List.getD_eq_getElem?_getD, List.getElem?_eq_getElem h2]
  conv => rhs; rw [← e, List.filter_map, List.map_map]
  rfl
/-- what is free up to another box -/
def gap (s : Sd) (b c : Bx) : Int := if s.wy = -1 then b.at s.ax - c.at s.ax - c.sz s.ax else c.at s.ax - b.at s.ax - b.sz s.ax
def raw (s : Sd) (b : Bx) : List Bx → List Int
  | [] => []
  | c :: cs => (if share (1 - s.ax) 0 b c then [gap s b c] else []) ++ raw s b cs
theorem raw_app (s : Sd) (b : Bx) : ∀ (cs ds : List Bx), raw s b (cs ++ ds) = raw s b cs ++ raw s b ds
  | [], _ => rfl
  | c :: cs, ds => by
    show _ ++ raw s b (cs ++ ds) = _
    rw [raw_app s b cs ds, ← List.append_assoc]
    rfl
def gaps (s : Sd) (b : Bx) (cs : List Bx) : List Int := (raw s b cs).filter fun g => decide (0 ≤ g)
/-- a tuple of boxes -/
def Boxes (K : PySem.W.Frag) (H : Hp) (o : Addr) (cs : List Bx) : Prop := ∃ rs : List Addr, rs.length = cs.length ∧ SqT K H o (rs.map V.ref) ∧ ∀ (i : Nat) (r : Addr) (c : Bx), rs[i]? = some r → cs[i]? = some c → SqT K H r c.v
theorem Boxes.ex {K : PySem.W.Frag} {H H' : Hp} {o : Addr} {cs : List Bx} (e : Ex H H') (h : Boxes K H o cs) : Boxes K H' o cs := by
  obtain ⟨rs, h1, h2, h3⟩ := h
  exact ⟨rs, h1, ex_t e h2, fun i r c a b => ex_t e (h3 i r c a b)⟩
theorem raw_len (s : Sd) (b : Bx) : ∀ cs, (raw s b cs).length ≤ cs.length
  | [] => Nat.le_refl _
  | c :: cs => by
    have := raw_len s b cs
    show (_ ++ raw s b cs).length ≤ _
    rw [List.length_append, List.length_cons]
    split
    · rw [List.length_singleton]; omega
    · rw [List.length_nil]; omega
section
variable {P : Program} {w : World} {K : PySem.W.Frag} {mg : Str → Option Value} {base : Heap}
def kGaps (K : PySem.W.Frag) (vs : List V) (H : Hp) (xs : List V) : Prop := ∃ (p o : Addr) (b : Bx) (cs : List Bx) (s : Sd), vs = [.ref p, .ref o, .str s.n] ∧ SqT K H p b.v ∧ Boxes K H o cs ∧ cs.length ≤ 1000 ∧ xs = (gaps s b cs).map V.int
theorem ok_box_gaps (T : Txt K mg w) : FnOk P w K mg base CX0 2 T.a_box_gaps T.fd_box_gaps ["box", "others", "side"] (Lstd (kGaps K)) := by
  have G_do_share := ok_do_share (P := P) (w := w) (base := base) T
  refine T.F_box_gaps.ok sc_box_gaps (fun vs H Q E h => ?_) (fun cdv A outer s H vs Q E hr h => ?_)
  · obtain ⟨_, ⟨_, _, _, _, _, rfl, _⟩, _⟩ := h; rfl
  · obtain ⟨_, ⟨p, o, b, cs, d, rfl, hb, ⟨rs, hlen, hO, hC⟩, hcs, rfl⟩, q⟩ := h
    refine ⟨_, (pss_cons (ps_asg (pe_ix ix_kdict (pe_glob (v := .ref _) rfl T.g_WAYS rfl) (pv 2) (fun _ _ => rfl)) (pg_tup rfl (pgs_cons (pg_name (i := 3) sc_box_gaps.nd rfl (.inl rfl)) (pgs_cons (pg_name (i := 4) sc_box_gaps.nd rfl (.inl rfl)) pgs_nil))))
  (pss_cons (ps_set (i := 5) sc_box_gaps.nd rfl (.inl rfl) (pe_lst pa_nil))
  (pss_cons (ps_for PassesOwn.never rfl (pi_tup (pv 1)) (pg_name (i := 6) sc_box_gaps.nd rfl (.inl rfl)) (pss_one (ps_if (pt_val (pe_call G_do_share (hr.mono (by decide)) (by rfl) T.g_do_share T.F_do_share.kp T.b_do_share .nil pass0 (pa_cons (pv 0) (pa_cons (pv 6) (pa_cons (pe_op op_sub pe_int (pv 3)) (pa_cons pe_int pa_nil)))))) (pss_cons (ps_asg (pe_ifExp (pt_cmpR op_eq (pv 4) (pe_un un_neg pe_int) (nomark _)) (pe_tup (pa_cons (pv 6) (pa_cons (pv 0) pa_nil))) (pe_tup (pa_cons (pv 0) (pa_cons (pv 6) pa_nil)))) (pg_tup rfl (pgs_cons (pg_name (i := 7) sc_box_gaps.nd rfl (.inl rfl)) (pgs_cons (pg_name (i := 8) sc_box_gaps.nd rfl (.inl rfl)) pgs_nil))))
  (pss_one (ps_expr (pe_bm PySem.F.plainAttrs_list PySem.F.slot_list_append PySem.F.type_list_append mt_append (pv 5) (pa_cons (pe_op op_sub (pe_op op_sub (pe_ix ix_tup (pv 8) (pv 3) (fun _ _ => rfl)) (pe_ix ix_tup (pv 7) (pv 3) (fun _ _ => rfl))) (pe_ix ix_tup (pv 7) (pe_op op_add (pv 3) pe_int) (fun _ _ => rfl))) pa_nil))))) pss_nil)))
  (pss_one (ps_ret (pe_lc (own := [("gap", 9)]) (g := gName 9) (by rfl) sc_box_gaps.nd (pi_list (pv 5)) (blkOk_by (own := [("gap", 9)]) (N := ["box", "others", "side", "axis", "way", "gaps", "other", "low", "high", "gap"]) (sc := defScope s_box_gaps) (by decide +kernel)) (fun _ _ _ _ _ => pg_name (i := 9) sc_box_gaps.nd rfl (Or.inl rfl)) (fun _ _ _ _ _ => (pts_one (pt_cmpR op_ge (pv 9) pe_int (nomark _)))) (fun _ _ _ _ _ => (pv 9)))))))), ?_⟩
    obtain ⟨a, hd, ht⟩ := ways T d
    refine q_asg2T (p := a) (v1 := .int d.ax) (v2 := .int d.wy) (ev_op ev_c (ev_var rfl) (rv_ixD hd)) (ht H) fun H1 e1 => ?_
    refine q_asgL (xs := []) (el_lst ea_nil (by decide)) fun g H2 hg e2 h2 => ?_
    have hgH : H g = none := fresh_back e1 hg
    have e2 := e1.trans e2
    have rl := raw_len d b
    refine q_forT (a := o) (xs := rs.map V.ref) (ev_var rfl) (ex_t e2 hO) (fun i σ' H' => Ex H H' ∧ H' g = some (.lst ((raw d b (cs.take i)).map V.int)) ∧ ∃ z6 z7 z8, σ' = [some (.ref p), some (.ref o), some (.str d.n), some (.int d.ax), some (.int d.wy), some (.ref g), z6, z7, z8, none]) (fun H3 e3 => ⟨e2.trans e3, e3 _ _ h2, none, none, none, rfl⟩) (fun i σ' H' _ h => ex_t h.1 hO) ?_ ?_
    · rintro i v σ' H3 hv ⟨e3, h3, z6, z7, z8, rfl⟩
      obtain ⟨r, hr1, rfl⟩ : ∃ r, rs[i]? = some r ∧ v = .ref r := by
        rw [List.getElem?_map] at hv
        cases h : rs[i]? with
        | none => rw [h] at hv; cases hv
        | some r => rw [h] at hv; exact ⟨r, rfl, (Option.some.inj hv).symm⟩
      have hi : i < cs.length := by have := (List.getElem?_eq_some_iff.mp hr1).1; omega
      have hc0 := hC i r cs[i] hr1 (List.getElem?_eq_getElem hi)
      have htake : cs.take (i + 1) = cs.take i ++ [cs[i]] := (List.take_append_getElem hi).symm
      generalize cs[i] = c at hc0 htake
      have hax : ((1 - d.ax : Nat) : Int) = 1 - (d.ax : Int) := by have := d.ax2; omega
      have hax2 : 1 - d.ax < 2 := by omega
      refine s_when (b := share (1 - d.ax) 0 b c) (et_B (ev_callP (vs := [.ref p, .ref r, .int (1 - d.ax : Nat), .int 0]) (ea_cons (ev_var rfl) (ea_cons (ev_var rfl) (ea_cons (ev_is (ev_op ev_c (ev_var rfl) rv_I0) (by rw [hax])) (ea_cons ev_c ea_nil)))) fun H4 e4 => ⟨p, r, b, c, _, 0, rfl, ex_t (e3.trans e4) hb, ex_t (e3.trans e4) hc0, hax2, rfl⟩)) (fun hs H4 e4 => ?_) (fun hs H4 e4 => ?_)
      · have e34 := e3.trans e4
        have h3 := e4 _ _ h3
        have hb4 := ex_t e34 hb
        have hc4 := ex_t e34 hc0
        have b1 := bx_at b d.ax2
        have b2 := bx_sz b d.ax2
        have c1 := bx_at c d.ax2
        have c2 := bx_sz c d.ax2
        have done : ∀ (H5 : Hp), Ex H4 H5 → ∀ z7' z8', (Ex H (upd H5 g (.lst ((raw d b (cs.take i)).map V.int ++ [.int (gap d b c)]))) ∧ (upd H5 g (.lst ((raw d b (cs.take i)).map V.int ++ [.int (gap d b c)]))) g = some (.lst ((raw d b (cs.take (i + 1))).map V.int)) ∧ ∃ z6 z7 z8, [some (.ref p), some (.ref o), some (.str d.n), some (.int d.ax), some (.int d.wy), some (.ref g), some (.ref r), z7', z8', none] = [some (V.ref p), some (.ref o), some (.str d.n), some (.int d.ax), some (.int d.wy), some (.ref g), z6, z7, z8, none]) := fun H5 e5 z7' z8' => by
          refine ⟨Ex.mut (e34.trans e5) hgH, ?_, _, _, _, rfl⟩
          rw [upd_same, htake, raw_app]
          show _ = some (HO.lst ((raw d b (cs.take i) ++ ((if share (1 - d.ax) 0 b c then [gap d b c] else []) ++ [])).map V.int))
          rw [if_pos hs, List.append_nil, List.map_append]
          rfl
        refine q_asg2U (v1 := if d.wy = -1 then .ref r else .ref p) (v2 := if d.wy = -1 then .ref p else .ref r) (eu_if (b := decide (V.int d.wy = V.int (-1))) (by walk_at "et") (fun hw => ?_) (fun hw => ?_)) fun H5 e5 => ?_
        · have h0 : d.wy = -1 := V.int.inj (of_decide_eq_true hw)
          rw [if_pos h0, if_pos h0]
          exact eu_tup (by walk_at "ea") (by show 2 ≤ 100000; decide)
        · have h0 : ¬ d.wy = -1 := fun z => of_decide_eq_false hw (by rw [z])
          rw [if_neg h0, if_neg h0]
          exact eu_tup (by walk_at "ea") (by show 2 ≤ 100000; decide)
        have h3 := e5 _ _ h3
        have hb4 := ex_t e5 hb4
        have hc4 := ex_t e5 hc4
        have len : ((raw d b (cs.take i)).map V.int).length < 100000 := by
          have := rl (cs.take i)
          rw [List.length_map]
          rw [List.length_take] at this
          omega
        by_cases h0 : d.wy = -1
        · rw [if_pos h0, if_pos h0]
          refine s_app (l := g) h3 (ev_var rfl) (v := .int (gap d b c)) (ev_is (v := .int (b.at d.ax - c.at d.ax - c.sz d.ax)) (by walk_at "ev") (by unfold gap; rw [if_pos h0])) len fun H6 e6 => done H6 (e5.trans e6) _ _
        · rw [if_neg h0, if_neg h0]
          refine s_app (l := g) h3 (ev_var rfl) (v := .int (gap d b c)) (ev_is (v := .int (c.at d.ax - b.at d.ax - b.sz d.ax)) (by walk_at "ev") (by unfold gap; rw [if_neg h0])) len fun H6 e6 => done H6 (e5.trans e6) _ _
      · refine ⟨e3.trans e4, ?_, _, _, _, rfl⟩
        rw [e4 _ _ h3, htake, raw_app]
        show _ = some (HO.lst ((raw d b (cs.take i) ++ ((if share (1 - d.ax) 0 b c then [gap d b c] else []) ++ [])).map V.int))
        rw [hs, if_neg Bool.false_ne_true, List.append_nil, List.append_nil]
    · rintro σ' H3 ⟨e3, h3, z6, z7, z8, rfl⟩
      have e : cs.take (rs.map V.ref).length = cs := List.take_of_length_le (by rw [List.length_map]; omega)
      rw [e] at h3
      have hl := rl cs
      have hl2 : ((raw d b cs).map V.int).length = (raw d b cs).length := List.length_map ..
      refine s_retL (el_lcL (xs := (raw d b cs).map V.int) (fun i => decide (0 ≤ (raw d b cs).getD i 0)) (fun i => .int ((raw d b cs).getD i 0)) (ev_var rfl) (sq_of h3) (by omega) (fun _ => rfl) (fun i x H4 e4 hx => ?_) (fun i x H4 e4 hx _ => ?_)) fun p4 H4 hp e4 h4 => q p4 H4 (fresh_back e3 hp) (e3.trans e4) ?_
      · have hx1 : x = .int ((raw d b cs).getD i 0) := by
          rw [List.getElem?_map] at hx
          rw [List.getD_eq_getElem?_getD]
          cases h : (raw d b cs)[i]? with
          | none => rw [h] at hx; cases hx
          | some r => rw [h] at hx; exact (Option.some.inj hx).symm
        subst hx1
        exact et_is (by walk_at "et") rfl
      · have hx1 : x = .int ((raw d b cs).getD i 0) := by
          rw [List.getElem?_map] at hx
          rw [List.getD_eq_getElem?_getD]
          cases h : (raw d b cs)[i]? with
          | none => rw [h] at hx; cases hx
          | some r => rw [h] at hx; exact (Option.some.inj hx).symm
        subst hx1
        exact ev_var rfl
      · rw [h4, hl2, given_int (raw d b cs) fun g => decide (0 ≤ g)]
        rfl
end
end Kz
set_option Elab.async false
set_option linter.all false
set_option maxRecDepth 100000
set_option maxHeartbeats 4000000
set_option exponentiation.threshold 500
namespace Kz
open PySem PySem.Spec PyProof.Rows L2 Evl Vr
local macro_rules | `(tactic| walk_at "sc") => `(tactic| first | (with_reducible assumption) | (with_reducible exact sc_mul (by omega)) | (with_reducible exact sc_mulr (by omega)) | (with_reducible exact sc_div (by omega) (by decide)) | (show (0 : Int) < _; omega) | (show _ ≠ (0 : Int); omega) | (with_reducible rfl) | decide)
local macro_rules | `(tactic| walk_at "sq") => `(tactic| first | assumption | exact sq_of (by assumption) | exact st_of (by assumption))
local macro_rules | `(tactic| walk_at "pl") => `(tactic| first | assumption | exact pl_int | exact pl_bl | exact pl_str | exact pl_non | exact pl_lst (by assumption) | exact pl_tup (by assumption) | exact pl_dK (by assumption))
local macro_rules | `(tactic| walk_at "rv") => `(tactic| first
  | with_reducible exact rv_I0
  | with_reducible exact ru_neg
  | ((with_reducible apply rv_I); walk_at "sc")
  | ((with_reducible apply rv_ixL); walk_at "sq"; first | rfl | assumption)
  | ((with_reducible apply rv_ixT); walk_at "sq"; first | rfl | assumption)
  | ((with_reducible apply rv_eq); rfl) | ((with_reducible apply rv_ne); rfl))
local macro_rules | `(tactic| walk_at "rc") => `(tactic| first
  | with_reducible exact rc_I1 | with_reducible exact rc_B1 | with_reducible exact rc_I2 | ((with_reducible apply rc_repr); walk_at "sc") | ((with_reducible apply rc_lenL); walk_at "sq")
  | ((with_reducible apply rc_isiInt); walk_at "pl") | ((with_reducible apply rc_isiBool); walk_at "pl"))
local macro_rules | `(tactic| walk_at "ea") => `(tactic| first
  | with_reducible exact ea_nil | ((with_reducible apply ea_cons); walk_at "ev"; walk_at "ea"))
local macro_rules | `(tactic| walk_at "pow") => `(tactic| first
  | with_reducible exact ev_pow (a := 10) (b := 9) (c := 1000000000) (by decide +kernel) (by decide +kernel)
  | with_reducible exact ev_pow (a := 10) (b := 10) (c := 10000000000) (by decide +kernel) (by decide +kernel)
  | with_reducible exact ev_pow (a := 10) (b := 12) (c := 1000000000000) (by decide +kernel) (by decide +kernel)
  | with_reducible exact ev_pow (a := 10) (b := 17) (c := 100000000000000000) (by decide +kernel) (by decide +kernel)
  | with_reducible exact ev_pow (a := 10) (b := 20) (c := 100000000000000000000) (by decide +kernel) (by decide +kernel)
  | with_reducible exact ev_pow (a := 10) (b := 29) (c := 100000000000000000000000000000) (by decide +kernel) (by decide +kernel)
  | with_reducible exact ev_pow (a := 10) (b := 30) (c := 1000000000000000000000000000000) (by decide +kernel) (by decide +kernel)
  | with_reducible exact ev_pow (a := 10) (b := 40) (c := 10000000000000000000000000000000000000000) (by decide +kernel) (by decide +kernel)
  | with_reducible exact ev_pow (a := 10) (b := 57) (c := 1000000000000000000000000000000000000000000000000000000000) (by decide +kernel) (by decide +kernel)
  | with_reducible exact ev_pow (a := 10) (b := 58) (c := 10000000000000000000000000000000000000000000000000000000000) (by decide +kernel) (by decide +kernel)
  | with_reducible exact ev_pow (a := 10) (b := 59) (c := 100000000000000000000000000000000000000000000000000000000000) (by decide +kernel) (by decide +kernel)
  | with_reducible exact ev_pow (a := 10) (b := 60) (c := 1000000000000000000000000000000000000000000000000000000000000) (by decide +kernel) (by decide +kernel))
local macro_rules | `(tactic| walk_at "call") => `(tactic| (intro H9 e9; first | exact ⟨_, rfl, rfl⟩ | exact ⟨_, _, rfl, rfl⟩ | exact ⟨_, _, _, rfl, rfl⟩ | exact ⟨_, rfl, by walk_at "pl", rfl⟩ | (refine ⟨_, _, _, rfl, ?_, rfl⟩; first | exact Plain.ex e9 (by assumption) | walk_at "pl") | (refine ⟨_, rfl, ?_, rfl⟩; first | exact Plain.ex e9 (by assumption) | walk_at "pl")))
local macro_rules | `(tactic| walk_at "ev") => `(tactic| first
  | with_reducible exact ev_c
  | exact ev_var rfl
  | walk_at "pow"
  | ((with_reducible apply ev_op); walk_at "ev"; walk_at "ev"; walk_at "rv")
  | ((with_reducible apply ev_un); walk_at "ev"; walk_at "rv")
  | ((with_reducible apply ev_cb); walk_at "ea"; walk_at "rc")
  | ((with_reducible apply ev_callP); walk_at "ea"; walk_at "call")
  | ((with_reducible apply ev_chain); walk_at "ev"; walk_at "ev"; walk_at "rv"; walk_at "ev"; walk_at "rv")
  | ((with_reducible apply ev_andV); walk_at "ev"; intro _; walk_at "ev")
  | ((with_reducible apply ev_orV); walk_at "ev"; intro _; walk_at "ev")
  | ((with_reducible apply ev_ite); walk_at "et"; intro _; walk_at "ev"; intro _; walk_at "ev")
  | ((with_reducible apply ev_notV); walk_at "ev"))
local macro_rules | `(tactic| walk_at "et") => `(tactic| first
  | ((with_reducible apply et_test); walk_at "ev")
  | ((with_reducible apply et_B); walk_at "ev")
  | ((with_reducible apply et_and); walk_at "et"; intro _; walk_at "et")
  | ((with_reducible apply et_or); walk_at "et"; intro _; walk_at "et")
  | ((with_reducible apply et_not); walk_at "et"))
section
variable {σ : L2.St} {H : Hp} {te ta tb tc : TE} {t : TT} {tr : TA} {tz : TS} {D : Ends} {K : PySem.W.Frag} {w : World} {z : V}
theorem ev_callT {ok : List V → Hp → V → Prop} {E : XK} {xs vs : List V} (h1 : EvU ta σ H xs) (h2 : ∀ H1, Ex H H1 → EvA tr σ H1 vs) (ho : ∀ p H1, Ex H H1 → H1 p = some (.tup xs) → ok (.ref p :: vs) H1 z) : Ev (tCall (Pure ok) [] E (tCons ta tr)) σ H z := fun H1 e Q q =>
  h1 H1 e _ fun p H2 hp e2 hx => h2 H2 (e.trans e2) H2 (Ex.refl H2) _ fun H3 e3 => by
    show Pure ok ((.ref p :: vs) ++ []) H3 Q E
    rw [List.append_nil]
    exact ⟨z, ho p H3 ((e.trans e2).trans e3) (e3 _ _ hx), fun H4 e4 => q H4 ((e2.trans e3).trans e4)⟩
theorem ev_anyN {bs : List Bool} (ha : EvL ta σ H (bs.map V.bl)) : Ev (tCB (rAny K) (tCons ta tNil)) σ H (.bl (bs.any id)) := fun H1 e Q q =>
  ha H1 e _ fun p H2 _ e2 h2 => ⟨p, bs, rfl, sq_of h2, q H2 e2⟩
theorem ev_minN {ns : List Int} {m : Int} (ha : EvL ta σ H (ns.map V.int)) (hm : m ∈ ns) (hl : ∀ y ∈ ns, m ≤ y) : Ev (tCB (rMin K) (tCons ta tNil)) σ H (.int m) := fun H1 e Q q =>
  ha H1 e _ fun p H2 _ e2 h2 => ⟨p, ns, rfl, sq_of h2, List.length_pos_of_mem hm, fun m' h1 h3 => by
    have e4 : m' = m := Int.le_antisymm (h3 m hm) (hl m' h1)
    rw [e4]
    exact q H2 e2⟩
theorem el_lcT {a : Addr} {xs : List V} {tl : TE} {j : Nat} {vs : List Nat} (f : Nat → Bool) (v : Nat → V) (h : Ev tl σ H (.ref a)) (hx : SqT K H a xs) (hz : xs.length ≤ 40000) (hw : ∀ x, wipe ((wipe σ vs).set j (some x)) vs = wipe σ vs)
    (ht : ∀ (i : Nat) (x : V) H1, Ex H H1 → xs[i]? = some x → EvT t ((wipe σ vs).set j (some x)) H1 (f i)) (he : ∀ (i : Nat) (x : V) H1, Ex H H1 → xs[i]? = some x → f i = true → Ev te ((wipe σ vs).set j (some x)) H1 (v i)) :
    EvL (tLc (iTup K tl) (gName j) t te vs) σ H (given xs.length f v) := fun H0 e Q q => h H0 e _ fun H1 e1 => ⟨a, rfl, ⟨xs, ex_t (e.trans e1) hx⟩, fun Dl hD =>
  lc_tup (xs := xs) (Cw H1 f v Dl) ⟨hD, Ex.new hD, upd_same⟩ (fun i H' _ p => ex_t ((e.trans e1).trans p.2.1) hx) (fun i x H' hi p => ⟨hw x, cw_turn p (by have := (List.getElem?_eq_some_iff.mp hi).1; omega) (ht i x H1 (e.trans e1) hi) (fun hf => he i x H1 (e.trans e1) hi hf)⟩)
    (fun H' p => q Dl H' (fresh_back e1 p.1) (e1.trans p.2.1) p.2.2)⟩
end
structure Ar where
  w : Int
  h : Int
def Ar.v (A : Ar) : List V := [.int A.w, .int A.h]
def Ar.at (A : Ar) (ax : Nat) : Int := if ax = 0 then A.w else A.h
theorem ar_at (A : Ar) {ax : Nat} (h : ax < 2) : atI A.v (ax : Int) = some (.int (A.at ax)) := by
  match ax, h with
  | 0, _ => rfl
  | 1, _ => rfl
def bgap (s : Sd) (A : Ar) (b : Bx) : Int := mx 0 (if s.wy = -1 then b.at s.ax else A.at s.ax - b.at s.ax - b.sz s.ax)
def least (x : Int) : List Int → Int
  | [] => x
  | y :: ys => least (mn x y) ys
theorem least_mem : ∀ {x : Int} {l : List Int}, least x l ∈ x :: l
  | _, [] => List.mem_cons_self ..
  | x, y :: ys => by
    have h := least_mem (x := mn x y) (l := ys)
    show least (mn x y) ys ∈ _
    rcases List.mem_cons.mp h with h | h
    · rw [h]
      unfold mn
      split
      · exact List.mem_cons_of_mem _ (List.mem_cons_self ..)
      · exact List.mem_cons_self ..
    · exact List.mem_cons_of_mem _ (List.mem_cons_of_mem _ h)
theorem least_le : ∀ {x : Int} {l : List Int}, ∀ y ∈ x :: l, least x l ≤ y
  | x, [], y, h => by
    have : y = x := by simpa using h
    rw [this]
    exact Int.le_refl _
  | x, z :: zs, y, h => by
    have h1 := least_le (x := mn x z) (l := zs)
    show least (mn x z) zs ≤ y
    have h2 := h1 (mn x z) (List.mem_cons_self ..)
    have h3 : mn x z ≤ x ∧ mn x z ≤ z := by unfold mn; split <;> omega
    generalize least (mn x z) zs = L at *
    generalize mn x z = M at *
    rcases List.mem_cons.mp h with h | h
    · subst h; omega
    · rcases List.mem_cons.mp h with h | h
      · subst h; omega
      · exact h1 y (List.mem_cons_of_mem _ h)
def free (s : Sd) (A : Ar) (b : Bx) (cs : List Bx) (m : Int) : Int := least m (bgap s A b :: gaps s b cs)
def bars (s : Sd) (b c : Bx) : Bool := meet 0 (b.go s 1) c && !meet 0 b c
def ahead (s : Sd) (A : Ar) (b : Bx) : Bool := if s.wy = -1 then decide ((b.go s 1).at s.ax < 0) else decide ((b.go s 1).at s.ax + (b.go s 1).sz s.ax > A.at s.ax)
def barred (s : Sd) (A : Ar) (b : Bx) (cs : List Bx) : Bool := ahead s A b || cs.any (bars s b)
section
variable {P : Program} {w : World} {K : PySem.W.Frag} {mg : Str → Option Value} {base : Heap}
def kBGap (K : PySem.W.Frag) (vs : List V) (H : Hp) (z : V) : Prop := ∃ (a p : Addr) (A : Ar) (b : Bx) (s : Sd), vs = [.ref a, .ref p, .str s.n] ∧ SqT K H a A.v ∧ SqT K H p b.v ∧ z = .int (bgap s A b)
theorem ok_border_gap (T : Txt K mg w) : FnOk P w K mg base CX0 1 T.a_border_gap T.fd_border_gap ["arena", "box", "side"] (Pure (kBGap K)) := by
  refine T.F_border_gap.ok sc_border_gap (fun vs H Q E h => ?_) (fun cdv A outer s H vs Q E hr h => ?_)
  · obtain ⟨_, ⟨_, _, _, _, _, rfl, _⟩, _⟩ := h; rfl
  · obtain ⟨_, ⟨a, p, ar, b, d, rfl, ha, hb, rfl⟩, q⟩ := h
    refine ⟨_, (pss_cons (ps_asg (pe_ix ix_kdict (pe_glob (v := .ref _) rfl T.g_WAYS rfl) (pv 2) (fun _ _ => rfl)) (pg_tup rfl (pgs_cons (pg_name (i := 3) sc_border_gap.nd rfl (.inl rfl)) (pgs_cons (pg_name (i := 4) sc_border_gap.nd rfl (.inl rfl)) pgs_nil))))
  (pss_cons (ps_set (i := 5) sc_border_gap.nd rfl (.inl rfl) (pe_ifExp (pt_cmpR op_eq (pv 4) (pe_un un_neg pe_int) (nomark _)) (pe_ix ix_tup (pv 1) (pv 3) (fun _ _ => rfl)) (pe_op op_sub (pe_op op_sub (pe_ix ix_tup (pv 0) (pv 3) (fun _ _ => rfl)) (pe_ix ix_tup (pv 1) (pv 3) (fun _ _ => rfl))) (pe_ix ix_tup (pv 1) (pe_op op_add (pv 3) pe_int) (fun _ _ => rfl)))))
  (pss_one (ps_ret (pe_callB (c_max rfl) (by rfl) T.z_max (by decide +kernel) (pa_cons pe_int (pa_cons (pv 5) pa_nil))))))), ?_⟩
    obtain ⟨wa, hd, ht⟩ := ways T d
    refine q_asg2T (p := wa) (v1 := .int d.ax) (v2 := .int d.wy) (ev_op ev_c (ev_var rfl) (rv_ixD hd)) (ht H) fun H1 e1 => ?_
    have ha := ex_t e1 ha
    have hb := ex_t e1 hb
    have b1 := bx_at b d.ax2
    have b2 := bx_sz b d.ax2
    have a1 := ar_at ar d.ax2
    refine q_asg (v := .int (if d.wy = -1 then b.at d.ax else ar.at d.ax - b.at d.ax - b.sz d.ax)) (ev_if (b := decide (V.int d.wy = V.int (-1))) (by walk_at "et") (fun hw => ?_) (fun hw => ?_)) fun H2 e2 => ?_
    · rw [if_pos (V.int.inj (of_decide_eq_true hw))]
      walk_at "ev"
    · rw [if_neg fun z => of_decide_eq_false hw (by rw [z])]
      walk_at "ev"
    · generalize hw : (if d.wy = -1 then b.at d.ax else ar.at d.ax - b.at d.ax - b.sz d.ax) = u
      exact s_ret (v := .int (bgap d ar b)) (ev_is (v := .int (mx 0 u)) (ev_cb (vs := [.int 0, .int u]) (by walk_at "ea") rc_I2) (by unfold bgap; rw [hw])) fun H3 e3 => q H3 ((e1.trans e2).trans e3)
def kFree (K : PySem.W.Frag) (vs : List V) (H : Hp) (z : V) : Prop := ∃ (a p o : Addr) (A : Ar) (b : Bx) (cs : List Bx) (s : Sd) (m : Int), vs = [.ref a, .ref p, .ref o, .str s.n, .int m] ∧ SqT K H a A.v ∧ SqT K H p b.v ∧ Boxes K H o cs ∧ cs.length ≤ 1000 ∧ z = .int (free s A b cs m)
theorem ok_units_free (T : Txt K mg w) : FnOk P w K mg base CX0 3 T.a_units_free T.fd_units_free ["arena", "box", "others", "side", "many"] (Pure (kFree K)) := by
  have G_border_gap := ok_border_gap (P := P) (w := w) (base := base) T
  have G_box_gaps := ok_box_gaps (P := P) (w := w) (base := base) T
  refine T.F_units_free.ok sc_units_free (fun vs H Q E h => ?_) (fun cdv A outer s H vs Q E hr h => ?_)
  · obtain ⟨_, ⟨_, _, _, _, _, _, _, _, rfl, _⟩, _⟩ := h; rfl
  · obtain ⟨_, ⟨a, p, o, ar, b, cs, d, m, rfl, ha, hb, hC, hl, rfl⟩, q⟩ := h
    refine ⟨_, (pss_one (ps_ret (pe_callB (cr_min rfl) (by rfl) T.z_min (by decide +kernel) (pa_cons (pe_lst (pa_cons (pv 4) (pa_cons (pe_call G_border_gap (hr.mono (by decide)) (by rfl) T.g_border_gap T.F_border_gap.kp T.b_border_gap .nil pass0 (pa_cons (pv 0) (pa_cons (pv 1) (pa_cons (pv 3) pa_nil)))) (StX.pa_star (pe_call G_box_gaps (hr.mono (by decide)) (by rfl) T.g_box_gaps T.F_box_gaps.kp T.b_box_gaps .nil pass0 (pa_cons (pv 1) (pa_cons (pv 2) (pa_cons (pv 3) pa_nil)))) pa_nil)))) pa_nil)))), ?_⟩
    have gl : (gaps d b cs).length ≤ 1000 := Nat.le_trans (List.length_filter_le ..) (Nat.le_trans (raw_len d b cs) hl)
    refine s_ret (v := .int (free d ar b cs m)) (ev_minN (ns := m :: bgap d ar b :: gaps d b cs) (el_lst (vs := .int m :: .int (bgap d ar b) :: ((gaps d b cs).map V.int ++ [])) (ea_cons (ev_var rfl) (ea_cons ?_ (ea_starL (xs := (gaps d b cs).map V.int) ?_ fun _ _ => ea_nil))) ?_ |> fun h => by simpa using h) least_mem least_le) q
    · exact ev_callP (vs := [.ref a, .ref p, .str d.n]) (by walk_at "ea") fun H1 e1 => ⟨a, p, ar, b, d, rfl, ex_t e1 ha, ex_t e1 hb, rfl⟩
    · exact el_callL (vs := [.ref p, .ref o, .str d.n]) (by walk_at "ea") fun H1 e1 => ⟨p, o, b, cs, d, rfl, ex_t e1 hb, hC.ex e1, hl, rfl⟩
    · simp only [List.length_cons, List.length_append, List.length_map, List.length_nil]
      omega
end
end Kz
set_option Elab.async false
set_option linter.all false
set_option maxRecDepth 100000
set_option maxHeartbeats 4000000
set_option exponentiation.threshold 500
namespace Kz
open PySem PySem.Spec PyProof.Rows L2 Evl Vr
local macro_rules | `(tactic| walk_at "sc") => `(tactic| first | (with_reducible assumption) | (with_reducible exact sc_mul (by omega)) | (with_reducible exact sc_mulr (by omega)) | (with_reducible exact sc_div (by omega) (by decide)) | (show (0 : Int) < _; omega) | (show _ ≠ (0 : Int); omega) | (with_reducible rfl) | decide)
local macro_rules | `(tactic| walk_at "sq") => `(tactic| first | assumption | exact sq_of (by assumption) | exact st_of (by assumption))
local macro_rules | `(tactic| walk_at "pl") => `(tactic| first | assumption | exact pl_int | exact pl_bl | exact pl_str | exact pl_non | exact pl_lst (by assumption) | exact pl_tup (by assumption) | exact pl_dK (by assumption))
local macro_rules | `(tactic| walk_at "rv") => `(tactic| first
  | with_reducible exact rv_I0
  | with_reducible exact ru_neg
  | ((with_reducible apply rv_I); walk_at "sc")
  | ((with_reducible apply rv_ixL); walk_at "sq"; first | rfl | assumption)
  | ((with_reducible apply rv_ixT); walk_at "sq"; first | rfl | assumption)
  | ((with_reducible apply rv_eq); rfl) | ((with_reducible apply rv_ne); rfl))
local macro_rules | `(tactic| walk_at "rc") => `(tactic| first
  | with_reducible exact rc_I1 | with_reducible exact rc_B1 | with_reducible exact rc_I2 | ((with_reducible apply rc_repr); walk_at "sc") | ((with_reducible apply rc_lenL); walk_at "sq")
  | ((with_reducible apply rc_isiInt); walk_at "pl") | ((with_reducible apply rc_isiBool); walk_at "pl"))
local macro_rules | `(tactic| walk_at "ea") => `(tactic| first
  | with_reducible exact ea_nil | ((with_reducible apply ea_cons); walk_at "ev"; walk_at "ea"))
local macro_rules | `(tactic| walk_at "pow") => `(tactic| first
  | with_reducible exact ev_pow (a := 10) (b := 9) (c := 1000000000) (by decide +kernel) (by decide +kernel)
  | with_reducible exact ev_pow (a := 10) (b := 10) (c := 10000000000) (by decide +kernel) (by decide +kernel)
  | with_reducible exact ev_pow (a := 10) (b := 12) (c := 1000000000000) (by decide +kernel) (by decide +kernel)
  | with_reducible exact ev_pow (a := 10) (b := 17) (c := 100000000000000000) (by decide +kernel) (by decide +kernel)
  | with_reducible exact ev_pow (a := 10) (b := 20) (c := 100000000000000000000) (by decide +kernel) (by decide +kernel)
  | with_reducible exact ev_pow (a := 10) (b := 29) (c := 100000000000000000000000000000) (by decide +kernel) (by decide +kernel)
  | with_reducible exact ev_pow (a := 10) (b := 30) (c := 1000000000000000000000000000000) (by decide +kernel) (by decide +kernel)
  | with_reducible exact ev_pow (a := 10) (b := 40) (c := 10000000000000000000000000000000000000000) (by decide +kernel) (by decide +kernel)
  | with_reducible exact ev_pow (a := 10) (b := 57) (c := 1000000000000000000000000000000000000000000000000000000000) (by decide +kernel) (by decide +kernel)
  | with_reducible exact ev_pow (a := 10) (b := 58) (c := 10000000000000000000000000000000000000000000000000000000000) (by decide +kernel) (by decide +kernel)
  | with_reducible exact ev_pow (a := 10) (b := 59) (c := 100000000000000000000000000000000000000000000000000000000000) (by decide +kernel) (by decide +kernel)
  | with_reducible exact ev_pow (a := 10) (b := 60) (c := 1000000000000000000000000000000000000000000000000000000000000) (by decide +kernel) (by decide +kernel))
local macro_rules | `(tactic| walk_at "call") => `(tactic| (intro H9 e9; first | exact ⟨_, rfl, rfl⟩ | exact ⟨_, _, rfl, rfl⟩ | exact ⟨_, _, _, rfl, rfl⟩ | exact ⟨_, rfl, by walk_at "pl", rfl⟩ | (refine ⟨_, _, _, rfl, ?_, rfl⟩; first | exact Plain.ex e9 (by assumption) | walk_at "pl") | (refine ⟨_, rfl, ?_, rfl⟩; first | exact Plain.ex e9 (by assumption) | walk_at "pl")))
local macro_rules | `(tactic| walk_at "ev") => `(tactic| first
  | with_reducible exact ev_c
  | exact ev_var rfl
  | walk_at "pow"
  | ((with_reducible apply ev_op); walk_at "ev"; walk_at "ev"; walk_at "rv")
  | ((with_reducible apply ev_un); walk_at "ev"; walk_at "rv")
  | ((with_reducible apply ev_cb); walk_at "ea"; walk_at "rc")
  | ((with_reducible apply ev_callP); walk_at "ea"; walk_at "call")
  | ((with_reducible apply ev_chain); walk_at "ev"; walk_at "ev"; walk_at "rv"; walk_at "ev"; walk_at "rv")
  | ((with_reducible apply ev_andV); walk_at "ev"; intro _; walk_at "ev")
  | ((with_reducible apply ev_orV); walk_at "ev"; intro _; walk_at "ev")
  | ((with_reducible apply ev_ite); walk_at "et"; intro _; walk_at "ev"; intro _; walk_at "ev")
  | ((with_reducible apply ev_notV); walk_at "ev"))
local macro_rules | `(tactic| walk_at "et") => `(tactic| first
  | ((with_reducible apply et_test); walk_at "ev")
  | ((with_reducible apply et_B); walk_at "ev")
  | ((with_reducible apply et_and); walk_at "et"; intro _; walk_at "et")
  | ((with_reducible apply et_or); walk_at "et"; intro _; walk_at "et")
  | ((with_reducible apply et_not); walk_at "et"))
theorem given_yes_map {α : Type} (l : List α) (d : α) (g : α → V) : given l.length (fun _ => true) (fun i => g (l.getD i d)) = l.map g := by
  unfold given
  rw [List.filter_eq_self.mpr (fun _ _ => rfl)]
  apply List.ext_getElem
  · simp
  · intro i h1 h2
    have h3 : i < l.length := by simpa using h2
    simp [List.getD_eq_getElem?_getD, List.getElem?_eq_getElem h3]
section
variable {P : Program} {w : World} {K : PySem.W.Frag} {mg : Str → Option Value} {base : Heap}
def kAhead (K : PySem.W.Frag) (vs : List V) (H : Hp) (z : V) : Prop := ∃ (a p : Addr) (A : Ar) (b : Bx) (s : Sd), vs = [.ref a, .ref p, .str s.n] ∧ SqT K H a A.v ∧ SqT K H p b.v ∧ z = .bl (ahead s A b)
theorem ok_border_ahead (T : Txt K mg w) : FnOk P w K mg base CX0 2 T.a_is_border_ahead T.fd_is_border_ahead ["arena", "box", "side"] (Pure (kAhead K)) := by
  have G_shifted := ok_shifted (P := P) (w := w) (base := base) T
  refine T.F_is_border_ahead.ok sc_is_border_ahead (fun vs H Q E h => ?_) (fun cdv A outer s H vs Q E hr h => ?_)
  · obtain ⟨_, ⟨_, _, _, _, _, rfl, _⟩, _⟩ := h; rfl
  · obtain ⟨_, ⟨a, p, ar, b, d, rfl, ha, hb, rfl⟩, q⟩ := h
    refine ⟨_, (pss_cons (ps_asg (pe_ix ix_kdict (pe_glob (v := .ref _) rfl T.g_WAYS rfl) (pv 2) (fun _ _ => rfl)) (pg_tup rfl (pgs_cons (pg_name (i := 3) sc_is_border_ahead.nd rfl (.inl rfl)) (pgs_cons (pg_name (i := 4) sc_is_border_ahead.nd rfl (.inl rfl)) pgs_nil))))
  (pss_cons (ps_set (i := 5) sc_is_border_ahead.nd rfl (.inl rfl) (pe_call G_shifted (hr.mono (by decide)) (by rfl) T.g_shifted T.F_shifted.kp T.b_shifted .nil pass0 (pa_cons (pv 1) (pa_cons (pv 2) (pa_cons pe_int pa_nil)))))
  (pss_one (ps_ret (pe_ifExp (pt_cmpR op_eq (pv 4) (pe_un un_neg pe_int) (nomark _)) (pe_cmpR op_lt (pe_ix ix_tup (pv 5) (pv 3) (fun _ _ => rfl)) pe_int (nomark _)) (pe_cmpR op_gt (pe_op op_add (pe_ix ix_tup (pv 5) (pv 3) (fun _ _ => rfl)) (pe_ix ix_tup (pv 5) (pe_op op_add (pv 3) pe_int) (fun _ _ => rfl))) (pe_ix ix_tup (pv 0) (pv 3) (fun _ _ => rfl)) (nomark _))))))), ?_⟩
    obtain ⟨wa, hd, ht⟩ := ways T d
    refine q_asg2T (p := wa) (v1 := .int d.ax) (v2 := .int d.wy) (ev_op ev_c (ev_var rfl) (rv_ixD hd)) (ht H) fun H1 e1 => ?_
    refine q_asgU (xs := (b.go d 1).v) (eu_callT (vs := [.ref p, .str d.n, .int 1]) (by walk_at "ea") fun H2 e2 => ⟨p, b, d, 1, rfl, ex_t (e1.trans e2) hb, rfl⟩) fun g H2 hg e2 h2 => ?_
    have ha := ex_t (e1.trans e2) ha
    have hg2 := st_of (K := K) h2
    have b1 := bx_at (b.go d 1) d.ax2
    have b2 := bx_sz (b.go d 1) d.ax2
    have a1 := ar_at ar d.ax2
    refine s_ret (v := .bl (ahead d ar b)) (ev_if (b := decide (V.int d.wy = V.int (-1))) (by walk_at "et") (fun hw => ?_) (fun hw => ?_)) fun H3 e3 => q H3 ((e1.trans e2).trans e3)
    · refine ev_is (v := .bl (decide ((b.go d 1).at d.ax < 0))) (by walk_at "ev") ?_
      unfold ahead
      rw [if_pos (V.int.inj (of_decide_eq_true hw))]
    · refine ev_is (v := .bl (decide ((b.go d 1).at d.ax + (b.go d 1).sz d.ax > ar.at d.ax))) (by walk_at "ev") ?_
      unfold ahead
      rw [if_neg fun z => of_decide_eq_false hw (by rw [z])]
def kBars (K : PySem.W.Frag) (vs : List V) (H : Hp) (z : V) : Prop := ∃ (p r : Addr) (b c : Bx) (s : Sd), vs = [.ref p, .ref r, .str s.n] ∧ SqT K H p b.v ∧ SqT K H r c.v ∧ z = .bl (bars s b c)
theorem ok_does_bar (T : Txt K mg w) : FnOk P w K mg base CX0 3 T.a_does_bar T.fd_does_bar ["box", "other", "side"] (Pure (kBars K)) := by
  have G_shifted := ok_shifted (P := P) (w := w) (base := base) T
  have G_do_meet := ok_do_meet (P := P) (w := w) (base := base) T
  refine T.F_does_bar.ok sc_does_bar (fun vs H Q E h => ?_) (fun cdv A outer s H vs Q E hr h => ?_)
  · obtain ⟨_, ⟨_, _, _, _, _, rfl, _⟩, _⟩ := h; rfl
  · obtain ⟨_, ⟨p, r, b, c, d, rfl, hb, hc, rfl⟩, q⟩ := h
    refine ⟨_, (pss_one (ps_ret (pe_and (pe_call G_do_meet (hr.mono (by decide)) (by rfl) T.g_do_meet T.F_do_meet.kp T.b_do_meet .nil pass0 (pa_cons (pe_call G_shifted (hr.mono (by decide)) (by rfl) T.g_shifted T.F_shifted.kp T.b_shifted .nil pass0 (pa_cons (pv 0) (pa_cons (pv 2) (pa_cons pe_int pa_nil)))) (pa_cons (pv 1) (pa_cons pe_int pa_nil)))) (pe_one (pe_not (pe_call G_do_meet (hr.mono (by decide)) (by rfl) T.g_do_meet T.F_do_meet.kp T.b_do_meet .nil pass0 (pa_cons (pv 0) (pa_cons (pv 1) (pa_cons pe_int pa_nil))))))))), ?_⟩
    refine s_ret (v := .bl (bars d b c)) (ev_andV (ev_callT (vs := [.ref r, .int 0]) (eu_callT (vs := [.ref p, .str d.n, .int 1]) (by walk_at "ea") fun H2 e2 => ⟨p, b, d, 1, rfl, ex_t e2 hb, rfl⟩) (fun H1 e1 => by walk_at "ea") fun g H1 e1 h1 => ⟨g, r, b.go d 1, c, 0, rfl, st_of h1, ex_t e1 hc, rfl⟩) fun _ => ev_notV (ev_callP (vs := [.ref p, .ref r, .int 0]) (by walk_at "ea") fun H1 e1 => ⟨p, r, b, c, 0, rfl, ex_t e1 hb, ex_t e1 hc, rfl⟩)) q
def kBarred (K : PySem.W.Frag) (vs : List V) (H : Hp) (z : V) : Prop := ∃ (a p o : Addr) (A : Ar) (b : Bx) (cs : List Bx) (s : Sd), vs = [.ref a, .ref p, .ref o, .str s.n] ∧ SqT K H a A.v ∧ SqT K H p b.v ∧ Boxes K H o cs ∧ cs.length ≤ 1000 ∧ z = .bl (barred s A b cs)
theorem ok_is_barred (T : Txt K mg w) : FnOk P w K mg base CX0 4 T.a_is_barred T.fd_is_barred ["arena", "box", "others", "side"] (Pure (kBarred K)) := by
  have G_is_border_ahead := ok_border_ahead (P := P) (w := w) (base := base) T
  have G_does_bar := ok_does_bar (P := P) (w := w) (base := base) T
  refine T.F_is_barred.ok sc_is_barred (fun vs H Q E h => ?_) (fun cdv A outer s H vs Q E hr h => ?_)
  · obtain ⟨_, ⟨_, _, _, _, _, _, _, rfl, _⟩, _⟩ := h; rfl
  · obtain ⟨_, ⟨a, p, o, ar, b, cs, d, rfl, ha, hb, ⟨rs, hlen, hO, hC⟩, hl, rfl⟩, q⟩ := h
    refine ⟨_, (pss_one (ps_ret (pe_or (pe_call G_is_border_ahead (hr.mono (by decide)) (by rfl) T.g_is_border_ahead T.F_is_border_ahead.kp T.b_is_border_ahead .nil pass0 (pa_cons (pv 0) (pa_cons (pv 1) (pa_cons (pv 3) pa_nil)))) (pe_one (pe_callB (cr_any rfl) (by rfl) T.z_any (by decide +kernel) (pa_cons (pe_lc (own := [("other", 4)]) (g := gName 4) (by rfl) sc_is_barred.nd (pi_tup (pv 2)) (blkOk_by (own := [("other", 4)]) (N := ["arena", "box", "others", "side", "other"]) (sc := defScope s_is_barred) (by decide +kernel)) (fun _ _ _ _ _ => pg_name (i := 4) sc_is_barred.nd rfl (Or.inl rfl)) (fun _ _ _ _ _ => pts_nil) (fun _ _ _ _ _ => (pe_call G_does_bar (hr.mono (by decide)) (by rfl) T.g_does_bar T.F_does_bar.kp T.b_does_bar .nil pass0 (pa_cons (pv 1) (pa_cons (pv 4) (pa_cons (pv 3) pa_nil)))))) pa_nil)))))), ?_⟩
    refine s_ret (v := .bl (barred d ar b cs)) (ev_is (ev_orV (ev_callP (vs := [.ref a, .ref p, .str d.n]) (by walk_at "ea") fun H1 e1 => ⟨a, p, ar, b, d, rfl, ex_t e1 ha, ex_t e1 hb, rfl⟩) fun _ => ev_anyN (bs := cs.map (bars d b)) ?_) ?_) q
    · have e : given (rs.map V.ref).length (fun _ => true) (fun i => V.bl (bars d b (cs.getD i ⟨0, 0, 0, 0⟩))) = (cs.map (bars d b)).map V.bl := by
        rw [List.length_map, hlen, given_yes_map cs ⟨0, 0, 0, 0⟩ fun c => V.bl (bars d b c), List.map_map]
        rfl
      rw [← e]
      refine el_lcT (xs := rs.map V.ref) (fun _ => true) (fun i => V.bl (bars d b (cs.getD i ⟨0, 0, 0, 0⟩))) (ev_var rfl) hO (by rw [List.length_map]; omega) (fun _ => rfl) (fun i x H1 e1 hx => fun H4 e4 Q' q' => q' H4 (Ex.refl H4)) fun i x H1 e1 hx _ => ?_
      obtain ⟨r, hr1, rfl⟩ : ∃ r, rs[i]? = some r ∧ x = .ref r := by
        rw [List.getElem?_map] at hx
        cases h : rs[i]? with
        | none => rw [h] at hx; cases hx
        | some r => rw [h] at hx; exact ⟨r, rfl, (Option.some.inj hx).symm⟩
      have hi : i < cs.length := by have := (List.getElem?_eq_some_iff.mp hr1).1; omega
      have hc0 := hC i r cs[i] hr1 (List.getElem?_eq_getElem hi)
      have hc1 : cs.getD i ⟨0, 0, 0, 0⟩ = cs[i] := by rw [List.getD_eq_getElem?_getD, List.getElem?_eq_getElem hi]; rfl
      rw [hc1]
      exact ev_callP (vs := [.ref p, .ref r, .str d.n]) (by walk_at "ea") fun H2 e2 => ⟨p, r, b, cs[i], d, rfl, ex_t (e1.trans e2) hb, ex_t (e1.trans e2) hc0, rfl⟩
    · unfold barred
      rw [List.any_map]
      rfl
def mvd (A : Ar) (b : Bx) (cs : List Bx) (dx dy : Int) : Bx :=
  let s1 : Sd := if dx < 0 then .left else .right
  let s2 : Sd := if dy < 0 then .low else .high
  let t := b.go s1 (free s1 A b cs dx.natAbs)
  t.go s2 (free s2 A t cs dy.natAbs)
end
end Kz
set_option Elab.async false
set_option linter.all false
set_option maxRecDepth 100000
set_option maxHeartbeats 4000000
set_option exponentiation.threshold 500
namespace Kz
open PySem PySem.Spec PyProof.Rows L2 Evl Vr
local macro_rules | `(tactic| walk_at "sc") => `(tactic| first | (with_reducible assumption) | (with_reducible exact sc_mul (by omega)) | (with_reducible exact sc_mulr (by omega)) | (with_reducible exact sc_div (by omega) (by decide)) | (show (0 : Int) < _; omega) | (show _ ≠ (0 : Int); omega) | (with_reducible rfl) | decide)
local macro_rules | `(tactic| walk_at "sq") => `(tactic| first | assumption | exact sq_of (by assumption) | exact st_of (by assumption))
local macro_rules | `(tactic| walk_at "pl") => `(tactic| first | assumption | exact pl_int | exact pl_bl | exact pl_str | exact pl_non | exact pl_lst (by assumption) | exact pl_tup (by assumption) | exact pl_dK (by assumption))
local macro_rules | `(tactic| walk_at "rv") => `(tactic| first
  | with_reducible exact rv_I0
  | with_reducible exact ru_neg
  | ((with_reducible apply rv_I); walk_at "sc")
  | ((with_reducible apply rv_ixL); walk_at "sq"; first | rfl | assumption)
  | ((with_reducible apply rv_ixT); walk_at "sq"; first | rfl | assumption)
  | ((with_reducible apply rv_eq); rfl) | ((with_reducible apply rv_ne); rfl))
local macro_rules | `(tactic| walk_at "rc") => `(tactic| first
  | with_reducible exact rc_I1 | with_reducible exact rc_B1 | with_reducible exact rc_I2 | ((with_reducible apply rc_repr); walk_at "sc") | ((with_reducible apply rc_lenL); walk_at "sq")
  | ((with_reducible apply rc_isiInt); walk_at "pl") | ((with_reducible apply rc_isiBool); walk_at "pl"))
local macro_rules | `(tactic| walk_at "ea") => `(tactic| first
  | with_reducible exact ea_nil | ((with_reducible apply ea_cons); walk_at "ev"; walk_at "ea"))
local macro_rules | `(tactic| walk_at "pow") => `(tactic| first
  | with_reducible exact ev_pow (a := 10) (b := 9) (c := 1000000000) (by decide +kernel) (by decide +kernel)
  | with_reducible exact ev_pow (a := 10) (b := 10) (c := 10000000000) (by decide +kernel) (by decide +kernel)
  | with_reducible exact ev_pow (a := 10) (b := 12) (c := 1000000000000) (by decide +kernel) (by decide +kernel)
  | with_reducible exact ev_pow (a := 10) (b := 17) (c := 100000000000000000) (by decide +kernel) (by decide +kernel)
  | with_reducible exact ev_pow (a := 10) (b := 20) (c := 100000000000000000000) (by decide +kernel) (by decide +kernel)
  | with_reducible exact ev_pow (a := 10) (b := 29) (c := 100000000000000000000000000000) (by decide +kernel) (by decide +kernel)
  | with_reducible exact ev_pow (a := 10) (b := 30) (c := 1000000000000000000000000000000) (by decide +kernel) (by decide +kernel)
  | with_reducible exact ev_pow (a := 10) (b := 40) (c := 10000000000000000000000000000000000000000) (by decide +kernel) (by decide +kernel)
  | with_reducible exact ev_pow (a := 10) (b := 57) (c := 1000000000000000000000000000000000000000000000000000000000) (by decide +kernel) (by decide +kernel)
  | with_reducible exact ev_pow (a := 10) (b := 58) (c := 10000000000000000000000000000000000000000000000000000000000) (by decide +kernel) (by decide +kernel)
  | with_reducible exact ev_pow (a := 10) (b := 59) (c := 100000000000000000000000000000000000000000000000000000000000) (by decide +kernel) (by decide +kernel)
  | with_reducible exact ev_pow (a := 10) (b := 60) (c := 1000000000000000000000000000000000000000000000000000000000000) (by decide +kernel) (by decide +kernel))
local macro_rules | `(tactic| walk_at "call") => `(tactic| (intro H9 e9; first | exact ⟨_, rfl, rfl⟩ | exact ⟨_, _, rfl, rfl⟩ | exact ⟨_, _, _, rfl, rfl⟩ | exact ⟨_, rfl, by walk_at "pl", rfl⟩ | (refine ⟨_, _, _, rfl, ?_, rfl⟩; first | exact Plain.ex e9 (by assumption) | walk_at "pl") | (refine ⟨_, rfl, ?_, rfl⟩; first | exact Plain.ex e9 (by assumption) | walk_at "pl")))
local macro_rules | `(tactic| walk_at "ev") => `(tactic| first
  | with_reducible exact ev_c
  | exact ev_var rfl
  | walk_at "pow"
  | ((with_reducible apply ev_op); walk_at "ev"; walk_at "ev"; walk_at "rv")
  | ((with_reducible apply ev_un); walk_at "ev"; walk_at "rv")
  | ((with_reducible apply ev_cb); walk_at "ea"; walk_at "rc")
  | ((with_reducible apply ev_callP); walk_at "ea"; walk_at "call")
  | ((with_reducible apply ev_chain); walk_at "ev"; walk_at "ev"; walk_at "rv"; walk_at "ev"; walk_at "rv")
  | ((with_reducible apply ev_andV); walk_at "ev"; intro _; walk_at "ev")
  | ((with_reducible apply ev_orV); walk_at "ev"; intro _; walk_at "ev")
  | ((with_reducible apply ev_ite); walk_at "et"; intro _; walk_at "ev"; intro _; walk_at "ev")
  | ((with_reducible apply ev_notV); walk_at "ev"))
local macro_rules | `(tactic| walk_at "et") => `(tactic| first
  | ((with_reducible apply et_test); walk_at "ev")
  | ((with_reducible apply et_B); walk_at "ev")
  | ((with_reducible apply et_and); walk_at "et"; intro _; walk_at "et")
  | ((with_reducible apply et_or); walk_at "et"; intro _; walk_at "et")
  | ((with_reducible apply et_not); walk_at "et"))
section
variable {σ : L2.St} {H : Hp} {te ta tb tc : TE} {K : PySem.W.Frag}
theorem rc_isiTup {a : Addr} {xs : List V} (h : SqT K H a xs) : RC (rIsi K) [.ref a, .ty "tuple"] H (.bl true) := fun H1 e Q q => by
  have ht : TyX K H1 (.ref a) (.type "tuple") := by
    rcases ex_t e h with h | ⟨o, its, n, h1, h2, _⟩
    · rcases h with h | ⟨d, h⟩
      · exact .base (.tup h)
      · exact .fTuple h
    · exact .kTuple h1 h2
  exact ⟨_, .ty "tuple", .type "tuple", .type "tuple", true, rfl, .ty _, ht, kit_ty (r := true) (by decide +kernel), q H1 (Ex.refl H1)⟩
theorem rc_lenT {a : Addr} {xs : List V} (h : SqT K H a xs) : RC (rLenS K) [.ref a] H (.int (xs.length : Int)) := fun H1 e _ q => ⟨a, xs, rfl, .inr (ex_t e h), q H1 (Ex.refl H1)⟩
end
def num (n : Int) : Prop := -1000000000 ≤ n ∧ n ≤ 1000000000
theorem within_ok {lo hi n : Int} (h : lo ≤ n ∧ n ≤ hi) (hl : -1000000000 ≤ lo) (hh : hi ≤ 1000000000) : isWithin lo hi (.int n) = true := by
  unfold isWithin isIntV
  simp only [Bool.and_eq_true, decide_eq_true_eq]
  omega
/-- a sound box, a sound arena -/
def Bx.ok (b : Bx) : Prop := num b.x ∧ num b.y ∧ 1 ≤ b.w ∧ b.w ≤ 40 ∧ 1 ≤ b.h ∧ b.h ≤ 40
def Ar.ok (A : Ar) : Prop := 1 ≤ A.w ∧ A.w ≤ 400 ∧ 1 ≤ A.h ∧ A.h ≤ 400
section
variable {P : Program} {w : World} {K : PySem.W.Frag} {mg : Str → Option Value} {base : Heap}
def kNum (vs : List V) (_ : Hp) (z : V) : Prop := ∃ n : Int, vs = [.int n] ∧ num n ∧ z = .bl true
theorem ok_is_number (T : Txt K mg w) : FnOk P w K mg base CX0 3 T.a_is_number T.fd_is_number ["value"] (Pure kNum) := by
  have G_is_within := ok_is_within (P := P) (w := w) (base := base) T
  refine T.F_is_number.ok sc_is_number (fun vs H Q E h => ?_) (fun cdv A outer s H vs Q E hr h => ?_)
  · obtain ⟨_, ⟨_, rfl, _⟩, _⟩ := h; rfl
  · obtain ⟨_, ⟨n, rfl, hn, rfl⟩, q⟩ := h
    refine ⟨_, (pss_one (ps_ret (pe_call G_is_within (hr.mono (by decide)) (by rfl) T.g_is_within T.F_is_within.kp T.b_is_within .nil pass0 (pa_cons (pv 0) (pa_cons (pe_un un_neg (pe_glob (v := .int 1000000000) rfl T.g_MOST ⟨_, rfl⟩)) (pa_cons (pe_glob (v := .int 1000000000) rfl T.g_MOST ⟨_, rfl⟩) pa_nil)))))), ?_⟩
    exact s_ret (v := .bl true) (ev_callP (vs := [.int n, .int (-1000000000), .int 1000000000]) (by walk_at "ea") fun H1 e1 => ⟨.int n, _, _, rfl, pl_int, by rw [within_ok hn (by omega) (by omega)]⟩) q
def kNeedNum (vs : List V) (_ : Hp) (z : V) : Prop := ∃ n : Int, vs = [.int n] ∧ num n ∧ z = .non
theorem ok_need_number (T : Txt K mg w) : FnOk P w K mg base CX0 4 T.a_need_number T.fd_need_number ["value"] (Pure kNeedNum) := by
  have G_is_number := ok_is_number (P := P) (w := w) (base := base) T
  refine T.F_need_number.ok sc_need_number (fun vs H Q E h => ?_) (fun cdv A outer s H vs Q E hr h => ?_)
  · obtain ⟨_, ⟨_, rfl, _⟩, _⟩ := h; rfl
  · obtain ⟨_, ⟨n, rfl, hn, rfl⟩, q⟩ := h
    refine ⟨_, (pss_one (ps_if (pt_not (pt_val (pe_call G_is_number (hr.mono (by decide)) (by rfl) T.g_is_number T.F_is_number.kp T.b_is_number .nil pass0 (pa_cons (pv 0) pa_nil)))) (pss_one ps_never) pss_nil)), ?_⟩
    exact s_when (b := false) (et_is (et_not (et_B (b := true) (ev_callP (vs := [.int n]) (by walk_at "ea") fun H1 e1 => ⟨n, rfl, hn, rfl⟩))) rfl) (fun h => by cases h) (fun _ H1 e1 => q H1 e1)
def kNeedIn (vs : List V) (_ : Hp) (z : V) : Prop := ∃ n lo hi : Int, vs = [.int n, .int lo, .int hi] ∧ (lo ≤ n ∧ n ≤ hi) ∧ -1000000000 ≤ lo ∧ hi ≤ 1000000000 ∧ z = .non
theorem ok_need_within (T : Txt K mg w) : FnOk P w K mg base CX0 3 T.a_need_within T.fd_need_within ["value", "low", "high"] (Pure kNeedIn) := by
  have G_is_within := ok_is_within (P := P) (w := w) (base := base) T
  refine T.F_need_within.ok sc_need_within (fun vs H Q E h => ?_) (fun cdv A outer s H vs Q E hr h => ?_)
  · obtain ⟨_, ⟨_, _, _, rfl, _⟩, _⟩ := h; rfl
  · obtain ⟨_, ⟨n, lo, hi, rfl, hn, hl, hh, rfl⟩, q⟩ := h
    refine ⟨_, (pss_one (ps_if (pt_not (pt_val (pe_call G_is_within (hr.mono (by decide)) (by rfl) T.g_is_within T.F_is_within.kp T.b_is_within .nil pass0 (pa_cons (pv 0) (pa_cons (pv 1) (pa_cons (pv 2) pa_nil)))))) (pss_one ps_never) pss_nil)), ?_⟩
    exact s_when (b := false) (et_is (et_not (et_B (b := true) (ev_callP (vs := [.int n, .int lo, .int hi]) (by walk_at "ea") fun H1 e1 => ⟨.int n, lo, hi, rfl, pl_int, by rw [within_ok hn hl hh]⟩))) rfl) (fun h => by cases h) (fun _ H1 e1 => q H1 e1)
def kBox (K : PySem.W.Frag) (u : V) (vs : List V) (H : Hp) (z : V) : Prop := ∃ (p : Addr) (b : Bx), vs = [.ref p] ∧ SqT K H p b.v ∧ b.ok ∧ z = u
theorem ok_is_box (T : Txt K mg w) : FnOk P w K mg base CX0 4 T.a_is_box T.fd_is_box ["value"] (Pure (kBox K (.bl true))) := by
  have G_is_within := ok_is_within (P := P) (w := w) (base := base) T
  have G_is_number := ok_is_number (P := P) (w := w) (base := base) T
  refine T.F_is_box.ok sc_is_box (fun vs H Q E h => ?_) (fun cdv A outer s H vs Q E hr h => ?_)
  · obtain ⟨_, ⟨_, _, rfl, _⟩, _⟩ := h; rfl
  · obtain ⟨_, ⟨p, b, rfl, hb, ⟨hx, hy, h1, h2, h3, h4⟩, rfl⟩, q⟩ := h
    refine ⟨_, (pss_cons (ps_if (PW.pt (pw_or (pt_not (pt_val (pe_callB call_isi (by rfl) T.z_isinstance (by decide +kernel) (pa_cons (pv 0) (pa_cons (pe_bltn (v := .ty "tuple") (by rfl) T.z_tuple (by decide +kernel) rfl) pa_nil))))) (pw_or1 (pt_cmpR op_ne (pe_callB c_len (by rfl) T.z_len PySem.boot_len (pa_cons (pv 0) pa_nil)) pe_int (nomark _))))) (pss_one (ps_ret pe_bl)) pss_nil)
  (pss_cons (ps_if (PW.pt (pw_or (pt_not (pt_val (pe_call G_is_number (hr.mono (by decide)) (by rfl) T.g_is_number T.F_is_number.kp T.b_is_number .nil pass0 (pa_cons (pe_ix ix_tup (pv 0) pe_int (fun _ _ => rfl)) pa_nil)))) (pw_or1 (pt_not (pt_val (pe_call G_is_number (hr.mono (by decide)) (by rfl) T.g_is_number T.F_is_number.kp T.b_is_number .nil pass0 (pa_cons (pe_ix ix_tup (pv 0) pe_int (fun _ _ => rfl)) pa_nil))))))) (pss_one (ps_ret pe_bl)) pss_nil)
  (pss_one (ps_ret (pe_and (pe_call G_is_within (hr.mono (by decide)) (by rfl) T.g_is_within T.F_is_within.kp T.b_is_within .nil pass0 (pa_cons (pe_ix ix_tup (pv 0) pe_int (fun _ _ => rfl)) (pa_cons pe_int (pa_cons (pe_glob (v := .int 40) rfl T.g_MAX_BODY ⟨_, rfl⟩) pa_nil)))) (pe_one (pe_call G_is_within (hr.mono (by decide)) (by rfl) T.g_is_within T.F_is_within.kp T.b_is_within .nil pass0 (pa_cons (pe_ix ix_tup (pv 0) pe_int (fun _ _ => rfl)) (pa_cons pe_int (pa_cons (pe_glob (v := .int 40) rfl T.g_MAX_BODY ⟨_, rfl⟩) pa_nil)))))))))), ?_⟩
    have i0 : atI b.v 0 = some (.int b.x) := rfl
    have i1 : atI b.v 1 = some (.int b.y) := rfl
    have i2 : atI b.v 2 = some (.int b.w) := rfl
    have i3 : atI b.v 3 = some (.int b.h) := rfl
    refine q_when (b := false) (et_or (a := false) (b := false) (et_is (et_not (et_B (ev_cb (vs := [.ref p, .ty "tuple"]) (by walk_at "ea") (rc_isiTup hb)))) rfl) fun _ => et_is (et_test (ev_op (ev_cb (vs := [.ref p]) (by walk_at "ea") (rc_lenT hb)) ev_c (rv_ne rfl))) (show (!decide (V.int ((4 : Nat) : Int) = V.int 4)) = false by decide)) (fun h => by cases h) fun _ H1 e1 => ?_
    have hb := ex_t e1 hb
    refine q_when (b := false) (et_or (a := false) (b := false) (et_is (et_not (et_B (b := true) (ev_callP (vs := [.int b.x]) (by walk_at "ea") fun H2 e2 => ⟨b.x, rfl, hx, rfl⟩))) rfl) fun _ => et_is (et_not (et_B (b := true) (ev_callP (vs := [.int b.y]) (by walk_at "ea") fun H2 e2 => ⟨b.y, rfl, hy, rfl⟩))) rfl) (fun h => by cases h) fun _ H2 e2 => ?_
    have hb := ex_t e2 hb
    exact s_ret (v := .bl true) (ev_is (ev_andV (a := true) (b := true) (ev_callP (vs := [.int b.w, .int 1, .int 40]) (by walk_at "ea") fun H3 e3 => ⟨_, _, _, rfl, pl_int, by rw [within_ok ⟨h1, h2⟩ (by omega) (by omega)]⟩) fun _ => ev_callP (vs := [.int b.h, .int 1, .int 40]) (by walk_at "ea") fun H3 e3 => ⟨_, _, _, rfl, pl_int, by rw [within_ok ⟨h3, h4⟩ (by omega) (by omega)]⟩) rfl) fun H3 e3 => q H3 ((e1.trans e2).trans e3)
theorem ok_need_box (T : Txt K mg w) : FnOk P w K mg base CX0 5 T.a_need_box T.fd_need_box ["value"] (Pure (kBox K .non)) := by
  have G_is_box := ok_is_box (P := P) (w := w) (base := base) T
  refine T.F_need_box.ok sc_need_box (fun vs H Q E h => ?_) (fun cdv A outer s H vs Q E hr h => ?_)
  · obtain ⟨_, ⟨_, _, rfl, _⟩, _⟩ := h; rfl
  · obtain ⟨_, ⟨p, b, rfl, hb, ho, rfl⟩, q⟩ := h
    refine ⟨_, (pss_one (ps_if (pt_not (pt_val (pe_call G_is_box (hr.mono (by decide)) (by rfl) T.g_is_box T.F_is_box.kp T.b_is_box .nil pass0 (pa_cons (pv 0) pa_nil)))) (pss_one ps_never) pss_nil)), ?_⟩
    exact s_when (b := false) (et_is (et_not (et_B (b := true) (ev_callP (vs := [.ref p]) (by walk_at "ea") fun H1 e1 => ⟨p, b, rfl, ex_t e1 hb, ho, rfl⟩))) rfl) (fun h => by cases h) (fun _ H1 e1 => q H1 e1)
end
end Kz
set_option Elab.async false
set_option linter.all false
set_option maxRecDepth 100000
set_option maxHeartbeats 4000000
set_option exponentiation.threshold 500
namespace Kz
open PySem PySem.Spec PyProof.Rows L2 Evl Vr
local macro_rules | `(tactic| walk_at "sc") => `(tactic| first | (with_reducible assumption) | (with_reducible exact sc_mul (by omega)) | (with_reducible exact sc_mulr (by omega)) | (with_reducible exact sc_div (by omega) (by decide)) | (show (0 : Int) < _; omega) | (show _ ≠ (0 : Int); omega) | (with_reducible rfl) | decide)
local macro_rules | `(tactic| walk_at "sq") => `(tactic| first | assumption | exact sq_of (by assumption) | exact st_of (by assumption))
local macro_rules | `(tactic| walk_at "pl") => `(tactic| first | assumption | exact pl_int | exact pl_bl | exact pl_str | exact pl_non | exact pl_lst (by assumption) | exact pl_tup (by assumption) | exact pl_dK (by assumption))
local macro_rules | `(tactic| walk_at "rv") => `(tactic| first
  | with_reducible exact rv_I0
  | with_reducible exact ru_neg
  | ((with_reducible apply rv_I); walk_at "sc")
  | ((with_reducible apply rv_ixL); walk_at "sq"; first | rfl | assumption)
  | ((with_reducible apply rv_ixT); walk_at "sq"; first | rfl | assumption)
  | ((with_reducible apply rv_eq); rfl) | ((with_reducible apply rv_ne); rfl))
local macro_rules | `(tactic| walk_at "rc") => `(tactic| first
  | with_reducible exact rc_I1 | with_reducible exact rc_B1 | with_reducible exact rc_I2 | ((with_reducible apply rc_repr); walk_at "sc") | ((with_reducible apply rc_lenL); walk_at "sq")
  | ((with_reducible apply rc_isiInt); walk_at "pl") | ((with_reducible apply rc_isiBool); walk_at "pl"))
local macro_rules | `(tactic| walk_at "ea") => `(tactic| first
  | with_reducible exact ea_nil | ((with_reducible apply ea_cons); walk_at "ev"; walk_at "ea"))
local macro_rules | `(tactic| walk_at "pow") => `(tactic| first
  | with_reducible exact ev_pow (a := 10) (b := 9) (c := 1000000000) (by decide +kernel) (by decide +kernel)
  | with_reducible exact ev_pow (a := 10) (b := 10) (c := 10000000000) (by decide +kernel) (by decide +kernel)
  | with_reducible exact ev_pow (a := 10) (b := 12) (c := 1000000000000) (by decide +kernel) (by decide +kernel)
  | with_reducible exact ev_pow (a := 10) (b := 17) (c := 100000000000000000) (by decide +kernel) (by decide +kernel)
  | with_reducible exact ev_pow (a := 10) (b := 20) (c := 100000000000000000000) (by decide +kernel) (by decide +kernel)
  | with_reducible exact ev_pow (a := 10) (b := 29) (c := 100000000000000000000000000000) (by decide +kernel) (by decide +kernel)
  | with_reducible exact ev_pow (a := 10) (b := 30) (c := 1000000000000000000000000000000) (by decide +kernel) (by decide +kernel)
  | with_reducible exact ev_pow (a := 10) (b := 40) (c := 10000000000000000000000000000000000000000) (by decide +kernel) (by decide +kernel)
  | with_reducible exact ev_pow (a := 10) (b := 57) (c := 1000000000000000000000000000000000000000000000000000000000) (by decide +kernel) (by decide +kernel)
  | with_reducible exact ev_pow (a := 10) (b := 58) (c := 10000000000000000000000000000000000000000000000000000000000) (by decide +kernel) (by decide +kernel)
  | with_reducible exact ev_pow (a := 10) (b := 59) (c := 100000000000000000000000000000000000000000000000000000000000) (by decide +kernel) (by decide +kernel)
  | with_reducible exact ev_pow (a := 10) (b := 60) (c := 1000000000000000000000000000000000000000000000000000000000000) (by decide +kernel) (by decide +kernel))
local macro_rules | `(tactic| walk_at "call") => `(tactic| (intro H9 e9; first | exact ⟨_, rfl, rfl⟩ | exact ⟨_, _, rfl, rfl⟩ | exact ⟨_, _, _, rfl, rfl⟩ | exact ⟨_, rfl, by walk_at "pl", rfl⟩ | (refine ⟨_, _, _, rfl, ?_, rfl⟩; first | exact Plain.ex e9 (by assumption) | walk_at "pl") | (refine ⟨_, rfl, ?_, rfl⟩; first | exact Plain.ex e9 (by assumption) | walk_at "pl")))
local macro_rules | `(tactic| walk_at "ev") => `(tactic| first
  | with_reducible exact ev_c
  | exact ev_var rfl
  | walk_at "pow"
  | ((with_reducible apply ev_op); walk_at "ev"; walk_at "ev"; walk_at "rv")
  | ((with_reducible apply ev_un); walk_at "ev"; walk_at "rv")
  | ((with_reducible apply ev_cb); walk_at "ea"; walk_at "rc")
  | ((with_reducible apply ev_callP); walk_at "ea"; walk_at "call")
  | ((with_reducible apply ev_chain); walk_at "ev"; walk_at "ev"; walk_at "rv"; walk_at "ev"; walk_at "rv")
  | ((with_reducible apply ev_andV); walk_at "ev"; intro _; walk_at "ev")
  | ((with_reducible apply ev_orV); walk_at "ev"; intro _; walk_at "ev")
  | ((with_reducible apply ev_ite); walk_at "et"; intro _; walk_at "ev"; intro _; walk_at "ev")
  | ((with_reducible apply ev_notV); walk_at "ev"))
local macro_rules | `(tactic| walk_at "et") => `(tactic| first
  | ((with_reducible apply et_test); walk_at "ev")
  | ((with_reducible apply et_B); walk_at "ev")
  | ((with_reducible apply et_and); walk_at "et"; intro _; walk_at "et")
  | ((with_reducible apply et_or); walk_at "et"; intro _; walk_at "et")
  | ((with_reducible apply et_not); walk_at "et"))
section
variable {σ : L2.St} {H : Hp} {te ta tb tc : TE} {K : PySem.W.Frag}
theorem ev_allN {bs : List Bool} (ha : EvL ta σ H (bs.map V.bl)) : Ev (tCB (rAll K) (tCons ta tNil)) σ H (.bl (bs.all id)) := fun H1 e Q q =>
  ha H1 e _ fun p H2 _ e2 h2 => ⟨p, bs, rfl, sq_of h2, q H2 e2⟩
end
theorem side_in (s : Sd) : inV (.str s.n) [.str "left", .str "right", .str "low", .str "high"] = true := by cases s <;> decide +kernel
section
variable {P : Program} {w : World} {K : PySem.W.Frag} {mg : Str → Option Value} {base : Heap}
def kArena (K : PySem.W.Frag) (vs : List V) (H : Hp) (z : V) : Prop := ∃ (p : Addr) (A : Ar), vs = [.ref p] ∧ SqT K H p A.v ∧ A.ok ∧ z = .bl true
theorem ok_is_arena (T : Txt K mg w) : FnOk P w K mg base CX0 3 T.a_is_arena T.fd_is_arena ["value"] (Pure (kArena K)) := by
  have G_is_within := ok_is_within (P := P) (w := w) (base := base) T
  refine T.F_is_arena.ok sc_is_arena (fun vs H Q E h => ?_) (fun cdv A outer s H vs Q E hr h => ?_)
  · obtain ⟨_, ⟨_, _, rfl, _⟩, _⟩ := h; rfl
  · obtain ⟨_, ⟨p, ar, rfl, ha, ⟨h1, h2, h3, h4⟩, rfl⟩, q⟩ := h
    refine ⟨_, (pss_cons (ps_if (PW.pt (pw_or (pt_not (pt_val (pe_callB call_isi (by rfl) T.z_isinstance (by decide +kernel) (pa_cons (pv 0) (pa_cons (pe_bltn (v := .ty "tuple") (by rfl) T.z_tuple (by decide +kernel) rfl) pa_nil))))) (pw_or1 (pt_cmpR op_ne (pe_callB c_len (by rfl) T.z_len PySem.boot_len (pa_cons (pv 0) pa_nil)) pe_int (nomark _))))) (pss_one (ps_ret pe_bl)) pss_nil)
  (pss_one (ps_ret (pe_callB (cr_all rfl) (by rfl) T.z_all (by decide +kernel) (pa_cons (pe_lc (own := [("length", 1)]) (g := gName 1) (by rfl) sc_is_arena.nd (pi_tup (pv 0)) (blkOk_by (own := [("length", 1)]) (N := ["value", "length"]) (sc := defScope s_is_arena) (by decide +kernel)) (fun _ _ _ _ _ => pg_name (i := 1) sc_is_arena.nd rfl (Or.inl rfl)) (fun _ _ _ _ _ => pts_nil) (fun _ _ _ _ _ => (pe_call G_is_within (hr.mono (by decide)) (by rfl) T.g_is_within T.F_is_within.kp T.b_is_within .nil pass0 (pa_cons (pv 1) (pa_cons pe_int (pa_cons (pe_glob (v := .int 400) rfl T.g_MAX_ARENA ⟨_, rfl⟩) pa_nil)))))) pa_nil))))), ?_⟩
    refine q_when (b := false) (et_or (a := false) (b := false) (et_is (et_not (et_B (ev_cb (vs := [.ref p, .ty "tuple"]) (by walk_at "ea") (rc_isiTup ha)))) rfl) fun _ => et_is (et_test (ev_op (ev_cb (vs := [.ref p]) (by walk_at "ea") (rc_lenT ha)) ev_c (rv_ne rfl))) (show (!decide (V.int ((2 : Nat) : Int) = V.int 2)) = false by decide)) (fun h => by cases h) fun _ H1 e1 => ?_
    refine s_ret (v := .bl true) (ev_is (ev_allN (bs := [true, true]) ?_) rfl) fun H2 e2 => q H2 (e1.trans e2)
    refine el_lcT (xs := ar.v) (fun _ => true) (fun _ => V.bl true) (ev_var rfl) (ex_t e1 ha) (by show 2 ≤ 40000; decide) (fun _ => rfl) (fun i x H3 e3 hx => fun H4 e4 Q' q' => q' H4 (Ex.refl H4)) fun i x H3 e3 hx _ => ?_
    have hx2 : ∃ n : Int, x = .int n ∧ 1 ≤ n ∧ n ≤ 400 := by
      match i, hx with
      | 0, hx => exact ⟨ar.w, (Option.some.inj hx).symm, h1, h2⟩
      | 1, hx => exact ⟨ar.h, (Option.some.inj hx).symm, h3, h4⟩
      | i + 2, hx => cases hx
    obtain ⟨n, rfl, n1, n2⟩ := hx2
    exact ev_callP (vs := [.int n, .int 1, .int 400]) (by walk_at "ea") fun H4 e4 => ⟨_, _, _, rfl, pl_int, by rw [within_ok ⟨n1, n2⟩ (by omega) (by omega)]⟩
def Sound (cs : List Bx) : Prop := cs.length ≤ 24 ∧ ∀ c ∈ cs, c.ok
def kAmong (K : PySem.W.Frag) (vs : List V) (H : Hp) (z : V) : Prop := ∃ (a p o : Addr) (A : Ar) (b : Bx) (cs : List Bx), vs = [.ref a, .ref p, .ref o] ∧ SqT K H a A.v ∧ SqT K H p b.v ∧ Boxes K H o cs ∧ A.ok ∧ b.ok ∧ Sound cs ∧ z = .non
theorem ok_need_among (T : Txt K mg w) : FnOk P w K mg base CX0 6 T.a_need_among T.fd_need_among ["arena", "box", "others"] (Pure (kAmong K)) := by
  have G_is_arena := ok_is_arena (P := P) (w := w) (base := base) T
  have G_need_box := ok_need_box (P := P) (w := w) (base := base) T
  refine T.F_need_among.ok sc_need_among (fun vs H Q E h => ?_) (fun cdv A outer s H vs Q E hr h => ?_)
  · obtain ⟨_, ⟨_, _, _, _, _, _, rfl, _⟩, _⟩ := h; rfl
  · obtain ⟨_, ⟨a, p, o, ar, b, cs, rfl, ha, hb, ⟨rs, hlen, hO, hC⟩, ka, kb, ⟨kl, kc⟩, rfl⟩, q⟩ := h
    refine ⟨_, (pss_cons (ps_if (pt_not (pt_val (pe_call G_is_arena (hr.mono (by decide)) (by rfl) T.g_is_arena T.F_is_arena.kp T.b_is_arena .nil pass0 (pa_cons (pv 0) pa_nil)))) (pss_one ps_never) pss_nil)
  (pss_cons (ps_expr (pe_call G_need_box (hr.mono (by decide)) (by rfl) T.g_need_box T.F_need_box.kp T.b_need_box .nil pass0 (pa_cons (pv 1) pa_nil)))
  (pss_cons (ps_if (PW.pt (pw_or (pt_not (pt_val (pe_callB call_isi (by rfl) T.z_isinstance (by decide +kernel) (pa_cons (pv 2) (pa_cons (pe_bltn (v := .ty "tuple") (by rfl) T.z_tuple (by decide +kernel) rfl) pa_nil))))) (pw_or1 (pt_cmpR op_gt (pe_callB c_len (by rfl) T.z_len PySem.boot_len (pa_cons (pv 2) pa_nil)) (pe_glob (v := .int 24) rfl T.g_MOST_OTHERS ⟨_, rfl⟩) (nomark _))))) (pss_one ps_never) pss_nil)
  (pss_one (ps_for PassesOwn.never rfl (pi_tup (pv 2)) (pg_name (i := 3) sc_need_among.nd rfl (.inl rfl)) (pss_one (ps_expr (pe_call G_need_box (hr.mono (by decide)) (by rfl) T.g_need_box T.F_need_box.kp T.b_need_box .nil pass0 (pa_cons (pv 3) pa_nil))))))))), ?_⟩
    refine q_when (b := false) (et_is (et_not (et_B (b := true) (ev_callP (vs := [.ref a]) (by walk_at "ea") fun H1 e1 => ⟨a, ar, rfl, ex_t e1 ha, ka, rfl⟩))) rfl) (fun h => by cases h) fun _ H1 e1 => ?_
    refine q_drop (v := .non) (ev_callP (vs := [.ref p]) (by walk_at "ea") fun H2 e2 => ⟨p, b, rfl, ex_t (e1.trans e2) hb, kb, rfl⟩) fun H2 e2 => ?_
    have e2 := e1.trans e2
    have hO2 := ex_t e2 hO
    have l1 : (rs.map V.ref).length = cs.length := by rw [List.length_map, hlen]
    refine q_when (b := false) (et_or (a := false) (b := false) (et_is (et_not (et_B (ev_cb (vs := [.ref o, .ty "tuple"]) (by walk_at "ea") (rc_isiTup hO2)))) rfl) fun _ => et_is (et_test (ev_op (ev_cb (vs := [.ref o]) (by walk_at "ea") (rc_lenT hO2)) ev_c rv_I0)) ?_) (fun h => by cases h) fun _ H3 e3 => ?_
    · exact decide_eq_false (by omega)
    have e3 := e2.trans e3
    refine s_forT (a := o) (xs := rs.map V.ref) (ev_var rfl) (ex_t e3 hO) (fun i σ' H' => Ex H H' ∧ ∃ z, σ' = [some (.ref a), some (.ref p), some (.ref o), z]) (fun H4 e4 => ⟨e3.trans e4, none, rfl⟩) (fun i σ' H' _ h => ex_t h.1 hO) ?_ fun σ' H4 ⟨e4, _⟩ => q H4 e4
    rintro i v σ' H4 hv ⟨e4, z, rfl⟩
    obtain ⟨r, hr1, rfl⟩ : ∃ r, rs[i]? = some r ∧ v = .ref r := by
      rw [List.getElem?_map] at hv
      cases h : rs[i]? with
      | none => rw [h] at hv; cases hv
      | some r => rw [h] at hv; exact ⟨r, rfl, (Option.some.inj hv).symm⟩
    have hi : i < cs.length := by have := (List.getElem?_eq_some_iff.mp hr1).1; omega
    have hc0 := hC i r cs[i] hr1 (List.getElem?_eq_getElem hi)
    exact s_drop (v := .non) (ev_callP (vs := [.ref r]) (by walk_at "ea") fun H5 e5 => ⟨r, cs[i], rfl, ex_t (e4.trans e5) hc0, kc _ (List.getElem_mem hi), rfl⟩) fun H5 e5 => ⟨e4.trans e5, _, rfl⟩
/-- what a way is asked with -/
def Way (K : PySem.W.Frag) (vs : List V) (H : Hp) (A : Ar) (b : Bx) (cs : List Bx) (s : Sd) (m : Int) : Prop := ∃ a p o : Addr, vs = [.ref a, .ref p, .ref o, .str s.n, .int m] ∧ SqT K H a A.v ∧ SqT K H p b.v ∧ Boxes K H o cs ∧ A.ok ∧ b.ok ∧ Sound cs ∧ 0 ≤ m ∧ m ≤ 1000000000
def kWay (K : PySem.W.Frag) (vs : List V) (H : Hp) (z : V) : Prop := ∃ A b cs s m, Way K vs H A b cs s m ∧ z = .non
theorem ok_need_way (T : Txt K mg w) : FnOk P w K mg base CX0 7 T.a_need_way T.fd_need_way ["arena", "box", "others", "side", "many"] (Pure (kWay K)) := by
  have G_need_among := ok_need_among (P := P) (w := w) (base := base) T
  have G_need_within := ok_need_within (P := P) (w := w) (base := base) T
  refine T.F_need_way.ok sc_need_way (fun vs H Q E h => ?_) (fun cdv A outer s H vs Q E hr h => ?_)
  · obtain ⟨_, ⟨_, _, _, _, _, ⟨_, _, _, rfl, _⟩, _⟩, _⟩ := h; rfl
  · obtain ⟨_, ⟨ar, b, cs, d, m, ⟨a, p, o, rfl, ha, hb, hC, ka, kb, kc, m0, m1⟩, rfl⟩, q⟩ := h
    refine ⟨_, (pss_cons (ps_expr (pe_call G_need_among (hr.mono (by decide)) (by rfl) T.g_need_among T.F_need_among.kp T.b_need_among .nil pass0 (pa_cons (pv 0) (pa_cons (pv 1) (pa_cons (pv 2) pa_nil)))))
  (pss_cons (ps_if (pt_cmpR op_notIn_seq (pv 3) (pe_glob (v := .ref _) rfl T.g_SIDES rfl) (by rfl)) (pss_one ps_never) pss_nil)
  (pss_one (ps_expr (pe_call G_need_within (hr.mono (by decide)) (by rfl) T.g_need_within T.F_need_within.kp T.b_need_within .nil pass0 (pa_cons (pv 4) (pa_cons pe_int (pa_cons (pe_glob (v := .int 1000000000) rfl T.g_MOST_MANY ⟨_, rfl⟩) pa_nil)))))))), ?_⟩
    refine q_drop (v := .non) (ev_callP (vs := [.ref a, .ref p, .ref o]) (by walk_at "ea") fun H1 e1 => ⟨a, p, o, ar, b, cs, rfl, ex_t e1 ha, ex_t e1 hb, hC.ex e1, ka, kb, kc, rfl⟩) fun H1 e1 => ?_
    refine q_when (b := false) (et_is (et_test (ev_op (ev_var rfl) ev_c (rv_niT (T.o_SIDES H1) rfl (by decide)))) (by rw [side_in]; rfl)) (fun h => by cases h) fun _ H2 e2 => ?_
    exact s_drop (v := .non) (ev_callP (vs := [.int m, .int 0, .int 1000000000]) (by walk_at "ea") fun H3 e3 => ⟨m, 0, _, rfl, ⟨m0, m1⟩, by decide, by decide, rfl⟩) fun H3 e3 => q H3 ((e1.trans e2).trans e3)
def kReach (K : PySem.W.Frag) (vs : List V) (H : Hp) (z : V) : Prop := ∃ A b cs s m, Way K vs H A b cs s m ∧ z = .int (free s A b cs m)
theorem ok_reach (T : Txt K mg w) : FnOk P w K mg base CX0 8 T.a_reach T.fd_reach ["arena", "box", "others", "side", "many"] (Pure (kReach K)) := by
  have G_need_way := ok_need_way (P := P) (w := w) (base := base) T
  have G_units_free := ok_units_free (P := P) (w := w) (base := base) T
  refine T.F_reach.ok sc_reach (fun vs H Q E h => ?_) (fun cdv A outer s H vs Q E hr h => ?_)
  · obtain ⟨_, ⟨_, _, _, _, _, ⟨_, _, _, rfl, _⟩, _⟩, _⟩ := h; rfl
  · obtain ⟨_, ⟨ar, b, cs, d, m, ⟨a, p, o, rfl, ha, hb, hC, ka, kb, kc, m0, m1⟩, rfl⟩, q⟩ := h
    refine ⟨_, (pss_cons (ps_expr (pe_call G_need_way (hr.mono (by decide)) (by rfl) T.g_need_way T.F_need_way.kp T.b_need_way .nil pass0 (pa_cons (pv 0) (pa_cons (pv 1) (pa_cons (pv 2) (pa_cons (pv 3) (pa_cons (pv 4) pa_nil)))))))
  (pss_one (ps_ret (pe_call G_units_free (hr.mono (by decide)) (by rfl) T.g_units_free T.F_units_free.kp T.b_units_free .nil pass0 (pa_cons (pv 0) (pa_cons (pv 1) (pa_cons (pv 2) (pa_cons (pv 3) (pa_cons (pv 4) pa_nil))))))))), ?_⟩
    refine q_drop (v := .non) (ev_callP (vs := [.ref a, .ref p, .ref o, .str d.n, .int m]) (by walk_at "ea") fun H1 e1 => ⟨ar, b, cs, d, m, ⟨a, p, o, rfl, ex_t e1 ha, ex_t e1 hb, hC.ex e1, ka, kb, kc, m0, m1⟩, rfl⟩) fun H1 e1 => ?_
    have kl := kc.1
    exact s_ret (v := .int (free d ar b cs m)) (ev_callP (vs := [.ref a, .ref p, .ref o, .str d.n, .int m]) (by walk_at "ea") fun H2 e2 => ⟨a, p, o, ar, b, cs, d, m, rfl, ex_t (e1.trans e2) ha, ex_t (e1.trans e2) hb, hC.ex (e1.trans e2), by omega, rfl⟩) fun H2 e2 => q H2 (e1.trans e2)
end
end Kz
set_option Elab.async false
set_option linter.all false
set_option maxRecDepth 100000
set_option maxHeartbeats 4000000
set_option exponentiation.threshold 500
namespace Kz
open PySem PySem.Spec PyProof.Rows L2 Evl Vr
local macro_rules | `(tactic| walk_at "sc") => `(tactic| first | (with_reducible assumption) | (with_reducible exact sc_mul (by omega)) | (with_reducible exact sc_mulr (by omega)) | (with_reducible exact sc_div (by omega) (by decide)) | (show (0 : Int) < _; omega) | (show _ ≠ (0 : Int); omega) | (with_reducible rfl) | decide)
local macro_rules | `(tactic| walk_at "sq") => `(tactic| first | assumption | exact sq_of (by assumption) | exact st_of (by assumption))
local macro_rules | `(tactic| walk_at "pl") => `(tactic| first | assumption | exact pl_int | exact pl_bl | exact pl_str | exact pl_non | exact pl_lst (by assumption) | exact pl_tup (by assumption) | exact pl_dK (by assumption))
local macro_rules | `(tactic| walk_at "rv") => `(tactic| first
  | with_reducible exact rv_I0
  | with_reducible exact ru_neg
  | ((with_reducible apply rv_I); walk_at "sc")
  | ((with_reducible apply rv_ixL); walk_at "sq"; first | rfl | assumption)
  | ((with_reducible apply rv_ixT); walk_at "sq"; first | rfl | assumption)
  | ((with_reducible apply rv_eq); rfl) | ((with_reducible apply rv_ne); rfl))
local macro_rules | `(tactic| walk_at "rc") => `(tactic| first
  | with_reducible exact rc_I1 | with_reducible exact rc_B1 | with_reducible exact rc_I2 | ((with_reducible apply rc_repr); walk_at "sc") | ((with_reducible apply rc_lenL); walk_at "sq")
  | ((with_reducible apply rc_isiInt); walk_at "pl") | ((with_reducible apply rc_isiBool); walk_at "pl"))
local macro_rules | `(tactic| walk_at "ea") => `(tactic| first
  | with_reducible exact ea_nil | ((with_reducible apply ea_cons); walk_at "ev"; walk_at "ea"))
local macro_rules | `(tactic| walk_at "pow") => `(tactic| first
  | with_reducible exact ev_pow (a := 10) (b := 9) (c := 1000000000) (by decide +kernel) (by decide +kernel)
  | with_reducible exact ev_pow (a := 10) (b := 10) (c := 10000000000) (by decide +kernel) (by decide +kernel)
  | with_reducible exact ev_pow (a := 10) (b := 12) (c := 1000000000000) (by decide +kernel) (by decide +kernel)
  | with_reducible exact ev_pow (a := 10) (b := 17) (c := 100000000000000000) (by decide +kernel) (by decide +kernel)
  | with_reducible exact ev_pow (a := 10) (b := 20) (c := 100000000000000000000) (by decide +kernel) (by decide +kernel)
  | with_reducible exact ev_pow (a := 10) (b := 29) (c := 100000000000000000000000000000) (by decide +kernel) (by decide +kernel)
  | with_reducible exact ev_pow (a := 10) (b := 30) (c := 1000000000000000000000000000000) (by decide +kernel) (by decide +kernel)
  | with_reducible exact ev_pow (a := 10) (b := 40) (c := 10000000000000000000000000000000000000000) (by decide +kernel) (by decide +kernel)
  | with_reducible exact ev_pow (a := 10) (b := 57) (c := 1000000000000000000000000000000000000000000000000000000000) (by decide +kernel) (by decide +kernel)
  | with_reducible exact ev_pow (a := 10) (b := 58) (c := 10000000000000000000000000000000000000000000000000000000000) (by decide +kernel) (by decide +kernel)
  | with_reducible exact ev_pow (a := 10) (b := 59) (c := 100000000000000000000000000000000000000000000000000000000000) (by decide +kernel) (by decide +kernel)
  | with_reducible exact ev_pow (a := 10) (b := 60) (c := 1000000000000000000000000000000000000000000000000000000000000) (by decide +kernel) (by decide +kernel))
local macro_rules | `(tactic| walk_at "call") => `(tactic| (intro H9 e9; first | exact ⟨_, rfl, rfl⟩ | exact ⟨_, _, rfl, rfl⟩ | exact ⟨_, _, _, rfl, rfl⟩ | exact ⟨_, rfl, by walk_at "pl", rfl⟩ | (refine ⟨_, _, _, rfl, ?_, rfl⟩; first | exact Plain.ex e9 (by assumption) | walk_at "pl") | (refine ⟨_, rfl, ?_, rfl⟩; first | exact Plain.ex e9 (by assumption) | walk_at "pl")))
local macro_rules | `(tactic| walk_at "ev") => `(tactic| first
  | with_reducible exact ev_c
  | exact ev_var rfl
  | walk_at "pow"
  | ((with_reducible apply ev_op); walk_at "ev"; walk_at "ev"; walk_at "rv")
  | ((with_reducible apply ev_un); walk_at "ev"; walk_at "rv")
  | ((with_reducible apply ev_cb); walk_at "ea"; walk_at "rc")
  | ((with_reducible apply ev_callP); walk_at "ea"; walk_at "call")
  | ((with_reducible apply ev_chain); walk_at "ev"; walk_at "ev"; walk_at "rv"; walk_at "ev"; walk_at "rv")
  | ((with_reducible apply ev_andV); walk_at "ev"; intro _; walk_at "ev")
  | ((with_reducible apply ev_orV); walk_at "ev"; intro _; walk_at "ev")
  | ((with_reducible apply ev_ite); walk_at "et"; intro _; walk_at "ev"; intro _; walk_at "ev")
  | ((with_reducible apply ev_notV); walk_at "ev"))
local macro_rules | `(tactic| walk_at "et") => `(tactic| first
  | ((with_reducible apply et_test); walk_at "ev")
  | ((with_reducible apply et_B); walk_at "ev")
  | ((with_reducible apply et_and); walk_at "et"; intro _; walk_at "et")
  | ((with_reducible apply et_or); walk_at "et"; intro _; walk_at "et")
  | ((with_reducible apply et_not); walk_at "et"))
section
variable {σ : L2.St} {H : Hp} {te ta tb tc : TE} {tr : TA} {K : PySem.W.Frag} {z : V}
theorem ev_callVT {ok : List V → Hp → V → Prop} {E : XK} {x : V} {xs vs : List V} (h0 : Ev ta σ H x) (h1 : EvU tb σ H xs) (h2 : ∀ H1, Ex H H1 → EvA tr σ H1 vs) (ho : ∀ p H1, Ex H H1 → H1 p = some (.tup xs) → ok (x :: .ref p :: vs) H1 z) : Ev (tCall (Pure ok) [] E (tCons ta (tCons tb tr))) σ H z := fun H0 e0 Q q =>
  h0 H0 e0 _ fun H1 e1 => h1 H1 (e0.trans e1) _ fun p H2 hp e2 hx => h2 H2 ((e0.trans e1).trans e2) H2 (Ex.refl H2) _ fun H3 e3 => by
    show Pure ok ((x :: .ref p :: vs) ++ []) H3 Q E
    rw [List.append_nil]
    exact ⟨z, ho p H3 (((e0.trans e1).trans e2).trans e3) (e3 _ _ hx), fun H4 e4 => q H4 (((e1.trans e2).trans e3).trans e4)⟩
end
abbrev ab (i : Int) : Int := if i < 0 then -i else i
def sdX (dx : Int) : Sd := if dx < 0 then .left else .right
def sdY (dy : Int) : Sd := if dy < 0 then .low else .high
def midB (A : Ar) (b : Bx) (cs : List Bx) (dx : Int) : Bx := b.go (sdX dx) (free (sdX dx) A b cs (ab dx))
def movB (A : Ar) (b : Bx) (cs : List Bx) (dx dy : Int) : Bx := (midB A b cs dx).go (sdY dy) (free (sdY dy) A (midB A b cs dx) cs (ab dy))
section
variable {P : Program} {w : World} {K : PySem.W.Frag} {mg : Str → Option Value} {base : Heap}
def kMoved (K : PySem.W.Frag) (vs : List V) (H : Hp) (xs : List V) : Prop := ∃ (a p o : Addr) (A : Ar) (b : Bx) (cs : List Bx) (dx dy : Int), vs = [.ref a, .ref p, .ref o, .int dx, .int dy] ∧ SqT K H a A.v ∧ SqT K H p b.v ∧ Boxes K H o cs ∧ cs.length ≤ 1000 ∧ xs = (movB A b cs dx dy).v
theorem ok_moved (T : Txt K mg w) : FnOk P w K mg base CX0 4 T.a_moved T.fd_moved ["arena", "box", "others", "dx", "dy"] (Tupd (kMoved K)) := by
  have G_shifted := ok_shifted (P := P) (w := w) (base := base) T
  have G_units_free := ok_units_free (P := P) (w := w) (base := base) T
  refine T.F_moved.ok sc_moved (fun vs H Q E h => ?_) (fun cdv A outer s H vs Q E hr h => ?_)
  · obtain ⟨_, ⟨_, _, _, _, _, _, _, _, rfl, _⟩, _⟩ := h; rfl
  · obtain ⟨_, ⟨a, p, o, ar, b, cs, dx, dy, rfl, ha, hb, hC, hl, rfl⟩, q⟩ := h
    refine ⟨_, (pss_cons (ps_set (i := 5) sc_moved.nd rfl (.inl rfl) (pe_ifExp (pt_cmpR op_lt (pv 3) pe_int (nomark _)) pe_str pe_str))
  (pss_cons (ps_set (i := 6) sc_moved.nd rfl (.inl rfl) (pe_call G_shifted (hr.mono (by decide)) (by rfl) T.g_shifted T.F_shifted.kp T.b_shifted .nil pass0 (pa_cons (pv 1) (pa_cons (pv 5) (pa_cons (pe_call G_units_free (hr.mono (by decide)) (by rfl) T.g_units_free T.F_units_free.kp T.b_units_free .nil pass0 (pa_cons (pv 0) (pa_cons (pv 1) (pa_cons (pv 2) (pa_cons (pv 5) (pa_cons (pe_callB c_abs (by rfl) T.z_abs (by decide +kernel) (pa_cons (pv 3) pa_nil)) pa_nil)))))) pa_nil)))))
  (pss_cons (ps_set (i := 7) sc_moved.nd rfl (.inl rfl) (pe_ifExp (pt_cmpR op_lt (pv 4) pe_int (nomark _)) pe_str pe_str))
  (pss_one (ps_ret (pe_call G_shifted (hr.mono (by decide)) (by rfl) T.g_shifted T.F_shifted.kp T.b_shifted .nil pass0 (pa_cons (pv 6) (pa_cons (pv 7) (pa_cons (pe_call G_units_free (hr.mono (by decide)) (by rfl) T.g_units_free T.F_units_free.kp T.b_units_free .nil pass0 (pa_cons (pv 0) (pa_cons (pv 6) (pa_cons (pv 2) (pa_cons (pv 7) (pa_cons (pe_callB c_abs (by rfl) T.z_abs (by decide +kernel) (pa_cons (pv 4) pa_nil)) pa_nil)))))) pa_nil))))))))), ?_⟩
    refine q_asg (v := .str (sdX dx).n) (ev_if (b := decide (dx < 0)) (by walk_at "et") (fun hw => ?_) (fun hw => ?_)) fun H1 e1 => ?_
    · unfold sdX; rw [if_pos (of_decide_eq_true hw)]; exact ev_c
    · unfold sdX; rw [if_neg (of_decide_eq_false hw)]; exact ev_c
    refine q_asgU (xs := (midB ar b cs dx).v) (eu_callT (vs := [.ref p, .str (sdX dx).n, .int (free (sdX dx) ar b cs (ab dx))]) (ea_cons (ev_var rfl) (ea_cons (ev_var rfl) (ea_cons (ev_callP (vs := [.ref a, .ref p, .ref o, .str (sdX dx).n, .int (ab dx)]) (by walk_at "ea") fun H2 e2 => ⟨a, p, o, ar, b, cs, sdX dx, _, rfl, ex_t (e1.trans e2) ha, ex_t (e1.trans e2) hb, hC.ex (e1.trans e2), hl, rfl⟩) ea_nil))) fun H2 e2 => ⟨p, b, sdX dx, _, rfl, ex_t (e1.trans e2) hb, rfl⟩) fun g H2 hg e2 h2 => ?_
    have e2 := e1.trans e2
    refine q_asg (v := .str (sdY dy).n) (ev_if (b := decide (dy < 0)) (by walk_at "et") (fun hw => ?_) (fun hw => ?_)) fun H3 e3 => ?_
    · unfold sdY; rw [if_pos (of_decide_eq_true hw)]; exact ev_c
    · unfold sdY; rw [if_neg (of_decide_eq_false hw)]; exact ev_c
    have h3 := e3 _ _ h2
    have e3 := e2.trans e3
    refine s_retU (xs := (movB ar b cs dx dy).v) (eu_callT (vs := [.ref g, .str (sdY dy).n, .int (free (sdY dy) ar (midB ar b cs dx) cs (ab dy))]) (ea_cons (ev_var rfl) (ea_cons (ev_var rfl) (ea_cons (ev_callP (vs := [.ref a, .ref g, .ref o, .str (sdY dy).n, .int (ab dy)]) (by walk_at "ea") fun H4 e4 => ⟨a, g, o, ar, midB ar b cs dx, cs, sdY dy, _, rfl, ex_t (e3.trans e4) ha, st_of (e4 _ _ h3), hC.ex (e3.trans e4), hl, rfl⟩) ea_nil))) fun H4 e4 => ⟨g, midB ar b cs dx, sdY dy, _, rfl, st_of (e4 _ _ h3), rfl⟩) fun g2 H4 hp e4 h4 => q g2 H4 (fresh_back e3 hp) (e3.trans e4) h4
def kMovedBox (K : PySem.W.Frag) (vs : List V) (H : Hp) (xs : List V) : Prop := ∃ (a p o : Addr) (A : Ar) (b : Bx) (cs : List Bx) (dx dy : Int), vs = [.ref a, .ref p, .ref o, .int dx, .int dy] ∧ SqT K H a A.v ∧ SqT K H p b.v ∧ Boxes K H o cs ∧ A.ok ∧ b.ok ∧ Sound cs ∧ num dx ∧ num dy ∧ xs = (movB A b cs dx dy).v
theorem ok_moved_box (T : Txt K mg w) : FnOk P w K mg base CX0 7 T.a_moved_box T.fd_moved_box ["arena", "box", "others", "dx", "dy"] (Tupd (kMovedBox K)) := by
  have G_need_among := ok_need_among (P := P) (w := w) (base := base) T
  have G_need_number := ok_need_number (P := P) (w := w) (base := base) T
  have G_moved := ok_moved (P := P) (w := w) (base := base) T
  refine T.F_moved_box.ok sc_moved_box (fun vs H Q E h => ?_) (fun cdv A outer s H vs Q E hr h => ?_)
  · obtain ⟨_, ⟨_, _, _, _, _, _, _, _, rfl, _⟩, _⟩ := h; rfl
  · obtain ⟨_, ⟨a, p, o, ar, b, cs, dx, dy, rfl, ha, hb, hC, ka, kb, kc, nx, ny, rfl⟩, q⟩ := h
    refine ⟨_, (pss_cons (ps_expr (pe_call G_need_among (hr.mono (by decide)) (by rfl) T.g_need_among T.F_need_among.kp T.b_need_among .nil pass0 (pa_cons (pv 0) (pa_cons (pv 1) (pa_cons (pv 2) pa_nil)))))
  (pss_cons (ps_expr (pe_call G_need_number (hr.mono (by decide)) (by rfl) T.g_need_number T.F_need_number.kp T.b_need_number .nil pass0 (pa_cons (pv 3) pa_nil)))
  (pss_cons (ps_expr (pe_call G_need_number (hr.mono (by decide)) (by rfl) T.g_need_number T.F_need_number.kp T.b_need_number .nil pass0 (pa_cons (pv 4) pa_nil)))
  (pss_one (ps_ret (pe_call G_moved (hr.mono (by decide)) (by rfl) T.g_moved T.F_moved.kp T.b_moved .nil pass0 (pa_cons (pv 0) (pa_cons (pv 1) (pa_cons (pv 2) (pa_cons (pv 3) (pa_cons (pv 4) pa_nil))))))))))), ?_⟩
    have kl := kc.1
    refine q_drop (v := .non) (ev_callP (vs := [.ref a, .ref p, .ref o]) (by walk_at "ea") fun H1 e1 => ⟨a, p, o, ar, b, cs, rfl, ex_t e1 ha, ex_t e1 hb, hC.ex e1, ka, kb, kc, rfl⟩) fun H1 e1 => ?_
    refine q_drop (v := .non) (ev_callP (vs := [.int dx]) (by walk_at "ea") fun H2 e2 => ⟨dx, rfl, nx, rfl⟩) fun H2 e2 => ?_
    refine q_drop (v := .non) (ev_callP (vs := [.int dy]) (by walk_at "ea") fun H3 e3 => ⟨dy, rfl, ny, rfl⟩) fun H3 e3 => ?_
    have e3 := (e1.trans e2).trans e3
    exact s_retU (xs := (movB ar b cs dx dy).v) (eu_callT (vs := [.ref a, .ref p, .ref o, .int dx, .int dy]) (by walk_at "ea") fun H4 e4 => ⟨a, p, o, ar, b, cs, dx, dy, rfl, ex_t (e3.trans e4) ha, ex_t (e3.trans e4) hb, hC.ex (e3.trans e4), by omega, rfl⟩) fun g H4 hp e4 h4 => q g H4 (fresh_back e3 hp) (e3.trans e4) h4
/-- how many units, one by one, none of them barred: at most n more -/
def stepsB (s : Sd) (A : Ar) (b : Bx) (cs : List Bx) : Nat → Nat → Nat
  | 0, g => g
  | n + 1, g => if barred s A (b.go s g) cs = true then g else stepsB s A b cs n (g + 1)
def kUnits (K : PySem.W.Frag) (vs : List V) (H : Hp) (z : V) : Prop := ∃ (A : Ar) (b : Bx) (cs : List Bx) (s : Sd) (m : Nat), Way K vs H A b cs s (m : Int) ∧ m ≤ 1000 ∧ z = .int (stepsB s A b cs m 0 : Nat)
theorem ok_by_units (T : Txt K mg w) : FnOk P w K mg base CX0 8 T.a_reach_by_units T.fd_reach_by_units ["arena", "box", "others", "side", "many"] (Pure (kUnits K)) := by
  have G_need_way := ok_need_way (P := P) (w := w) (base := base) T
  have G_is_barred := ok_is_barred (P := P) (w := w) (base := base) T
  have G_shifted := ok_shifted (P := P) (w := w) (base := base) T
  refine T.F_reach_by_units.ok sc_reach_by_units (fun vs H Q E h => ?_) (fun cdv A outer s H vs Q E hr h => ?_)
  · obtain ⟨_, ⟨_, _, _, _, _, ⟨_, _, _, rfl, _⟩, _⟩, _⟩ := h; rfl
  · obtain ⟨_, ⟨ar, b, cs, d, m, ⟨a, p, o, rfl, ha, hb, hC, ka, kb, kc, m0, m1⟩, hm, rfl⟩, q⟩ := h
    refine ⟨_, (pss_cons (ps_expr (pe_call G_need_way (hr.mono (by decide)) (by rfl) T.g_need_way T.F_need_way.kp T.b_need_way .nil pass0 (pa_cons (pv 0) (pa_cons (pv 1) (pa_cons (pv 2) (pa_cons (pv 3) (pa_cons (pv 4) pa_nil)))))))
  (pss_cons (ps_if (pt_cmpR op_gt (pv 4) (pe_glob (v := .int 1000) rfl T.g_MOST_UNITS ⟨_, rfl⟩) (nomark _)) (pss_one ps_never) pss_nil)
  (pss_cons (ps_set (i := 5) sc_reach_by_units.nd rfl (.inl rfl) pe_int)
  (pss_cons (ps_while PassesOwn.never (PW.pt (pw_and (pt_cmpR op_lt (pv 5) (pv 4) (nomark _)) (pw_and1 (pt_not (pt_val (pe_call G_is_barred (hr.mono (by decide)) (by rfl) T.g_is_barred T.F_is_barred.kp T.b_is_barred .nil pass0 (pa_cons (pv 0) (pa_cons (pe_call G_shifted (hr.mono (by decide)) (by rfl) T.g_shifted T.F_shifted.kp T.b_shifted .nil pass0 (pa_cons (pv 1) (pa_cons (pv 3) (pa_cons (pv 5) pa_nil)))) (pa_cons (pv 2) (pa_cons (pv 3) pa_nil)))))))))) (pss_one (ps_set (i := 5) sc_reach_by_units.nd rfl (.inl rfl) (pe_op op_add (pv 5) pe_int))))
  (pss_one (ps_ret (pv 5))))))), ?_⟩
    have kl := kc.1
    refine q_drop (v := .non) (ev_callP (vs := [.ref a, .ref p, .ref o, .str d.n, .int m]) (by walk_at "ea") fun H1 e1 => ⟨ar, b, cs, d, m, ⟨a, p, o, rfl, ex_t e1 ha, ex_t e1 hb, hC.ex e1, ka, kb, kc, m0, m1⟩, rfl⟩) fun H1 e1 => ?_
    refine q_when (b := false) (et_is (by walk_at "et") (decide_eq_false (by omega))) (fun h => by cases h) fun _ H2 e2 => ?_
    refine q_asg (v := .int 0) ev_c fun H3 e3 => ?_
    have e3 := (e1.trans e2).trans e3
    generalize hZ : stepsB d ar b cs m 0 = Z at q
    refine q_while (fun n σ H' => ∃ g : Nat, σ = [some (.ref a), some (.ref p), some (.ref o), some (.str d.n), some (.int m), some (.int g)] ∧ g + n = m ∧ stepsB d ar b cs n g = Z ∧ Ex H H') m ⟨0, rfl, by omega, hZ, e3⟩ ?_
    rintro n σ H4 ⟨g, rfl, hg, hz, e4⟩
    by_cases hn : n = 0
    · subst hn
      have hgz : g = Z := hz
      subst hgz
      refine ⟨false, et_is (et_and (a := false) (b := false) (et_is (et_test (ev_op (ev_var rfl) (ev_var rfl) rv_I0)) (decide_eq_false (by omega))) fun h => by cases h) rfl, (fun h => by cases h), fun _ H5 e5 => ?_⟩
      exact s_ret (ev_var rfl) fun H6 e6 => q H6 ((e4.trans e5).trans e6)
    obtain ⟨n, rfl⟩ : ∃ k, n = k + 1 := ⟨n - 1, by omega⟩
    have hz2 : (if barred d ar (b.go d g) cs = true then g else stepsB d ar b cs n (g + 1)) = Z := hz
    refine ⟨!barred d ar (b.go d g) cs, et_is (et_and (a := true) (b := !barred d ar (b.go d g) cs) (et_is (et_test (ev_op (ev_var rfl) (ev_var rfl) rv_I0)) (decide_eq_true (by omega))) fun _ => et_not (et_B ?_)) (by simp), fun hd H5 e5 => ?_, fun hd H5 e5 => ?_⟩
    · exact ev_callVT (x := .ref a) (xs := (b.go d g).v) (vs := [.ref o, .str d.n]) (ev_var rfl) (eu_callT (vs := [.ref p, .str d.n, .int g]) (by walk_at "ea") fun H5 e5 => ⟨p, b, d, g, rfl, ex_t (e4.trans e5) hb, rfl⟩) (fun H5 e5 => by walk_at "ea") fun r H5 e5 h5 => ⟨a, r, o, ar, b.go d g, cs, d, rfl, ex_t (e4.trans e5) ha, st_of h5, hC.ex (e4.trans e5), by omega, rfl⟩
    · have hb2 : ¬ barred d ar (b.go d g) cs = true := by simpa using hd
      rw [if_neg hb2] at hz2
      refine ⟨_, fun _ _ h => h, ?_⟩
      exact s_asg (v := .int ((g + 1 : Nat) : Int)) (ev_is (by walk_at "ev") (by rw [Int.natCast_add]; rfl)) fun H6 e6 => ⟨n, by omega, g + 1, rfl, by omega, hz2, (e4.trans e5).trans e6⟩
    · have hb2 : barred d ar (b.go d g) cs = true := by simpa using hd
      rw [if_pos hb2] at hz2
      subst hz2
      exact s_ret (ev_var rfl) fun H6 e6 => q H6 ((e4.trans e5).trans e6)
end
end Kz
set_option Elab.async false
set_option linter.all false
set_option maxRecDepth 100000
set_option maxHeartbeats 4000000
set_option exponentiation.threshold 500
namespace Kz
open PySem PySem.Spec PyProof.Rows L2 Evl Vr
local macro_rules | `(tactic| walk_at "sc") => `(tactic| first | (with_reducible assumption) | (with_reducible exact sc_mul (by omega)) | (with_reducible exact sc_mulr (by omega)) | (with_reducible exact sc_div (by omega) (by decide)) | (show (0 : Int) < _; omega) | (show _ ≠ (0 : Int); omega) | (with_reducible rfl) | decide)
local macro_rules | `(tactic| walk_at "sq") => `(tactic| first | assumption | exact sq_of (by assumption) | exact st_of (by assumption))
local macro_rules | `(tactic| walk_at "pl") => `(tactic| first | assumption | exact pl_int | exact pl_bl | exact pl_str | exact pl_non | exact pl_lst (by assumption) | exact pl_tup (by assumption) | exact pl_dK (by assumption))
local macro_rules | `(tactic| walk_at "rv") => `(tactic| first
  | with_reducible exact rv_I0
  | with_reducible exact ru_neg
  | ((with_reducible apply rv_I); walk_at "sc")
  | ((with_reducible apply rv_ixL); walk_at "sq"; first | rfl | assumption)
  | ((with_reducible apply rv_ixT); walk_at "sq"; first | rfl | assumption)
  | ((with_reducible apply rv_eq); rfl) | ((with_reducible apply rv_ne); rfl))
local macro_rules | `(tactic| walk_at "rc") => `(tactic| first
  | with_reducible exact rc_I1 | with_reducible exact rc_B1 | with_reducible exact rc_I2 | ((with_reducible apply rc_repr); walk_at "sc") | ((with_reducible apply rc_lenL); walk_at "sq")
  | ((with_reducible apply rc_isiInt); walk_at "pl") | ((with_reducible apply rc_isiBool); walk_at "pl"))
local macro_rules | `(tactic| walk_at "ea") => `(tactic| first
  | with_reducible exact ea_nil | ((with_reducible apply ea_cons); walk_at "ev"; walk_at "ea"))
local macro_rules | `(tactic| walk_at "pow") => `(tactic| first
  | with_reducible exact ev_pow (a := 10) (b := 9) (c := 1000000000) (by decide +kernel) (by decide +kernel)
  | with_reducible exact ev_pow (a := 10) (b := 10) (c := 10000000000) (by decide +kernel) (by decide +kernel)
  | with_reducible exact ev_pow (a := 10) (b := 12) (c := 1000000000000) (by decide +kernel) (by decide +kernel)
  | with_reducible exact ev_pow (a := 10) (b := 17) (c := 100000000000000000) (by decide +kernel) (by decide +kernel)
  | with_reducible exact ev_pow (a := 10) (b := 20) (c := 100000000000000000000) (by decide +kernel) (by decide +kernel)
  | with_reducible exact ev_pow (a := 10) (b := 29) (c := 100000000000000000000000000000) (by decide +kernel) (by decide +kernel)
  | with_reducible exact ev_pow (a := 10) (b := 30) (c := 1000000000000000000000000000000) (by decide +kernel) (by decide +kernel)
  | with_reducible exact ev_pow (a := 10) (b := 40) (c := 10000000000000000000000000000000000000000) (by decide +kernel) (by decide +kernel)
  | with_reducible exact ev_pow (a := 10) (b := 57) (c := 1000000000000000000000000000000000000000000000000000000000) (by decide +kernel) (by decide +kernel)
  | with_reducible exact ev_pow (a := 10) (b := 58) (c := 10000000000000000000000000000000000000000000000000000000000) (by decide +kernel) (by decide +kernel)
  | with_reducible exact ev_pow (a := 10) (b := 59) (c := 100000000000000000000000000000000000000000000000000000000000) (by decide +kernel) (by decide +kernel)
  | with_reducible exact ev_pow (a := 10) (b := 60) (c := 1000000000000000000000000000000000000000000000000000000000000) (by decide +kernel) (by decide +kernel))
local macro_rules | `(tactic| walk_at "call") => `(tactic| (intro H9 e9; first | exact ⟨_, rfl, rfl⟩ | exact ⟨_, _, rfl, rfl⟩ | exact ⟨_, _, _, rfl, rfl⟩ | exact ⟨_, rfl, by walk_at "pl", rfl⟩ | (refine ⟨_, _, _, rfl, ?_, rfl⟩; first | exact Plain.ex e9 (by assumption) | walk_at "pl") | (refine ⟨_, rfl, ?_, rfl⟩; first | exact Plain.ex e9 (by assumption) | walk_at "pl")))
local macro_rules | `(tactic| walk_at "ev") => `(tactic| first
  | with_reducible exact ev_c
  | exact ev_var rfl
  | walk_at "pow"
  | ((with_reducible apply ev_op); walk_at "ev"; walk_at "ev"; walk_at "rv")
  | ((with_reducible apply ev_un); walk_at "ev"; walk_at "rv")
  | ((with_reducible apply ev_cb); walk_at "ea"; walk_at "rc")
  | ((with_reducible apply ev_callP); walk_at "ea"; walk_at "call")
  | ((with_reducible apply ev_chain); walk_at "ev"; walk_at "ev"; walk_at "rv"; walk_at "ev"; walk_at "rv")
  | ((with_reducible apply ev_andV); walk_at "ev"; intro _; walk_at "ev")
  | ((with_reducible apply ev_orV); walk_at "ev"; intro _; walk_at "ev")
  | ((with_reducible apply ev_ite); walk_at "et"; intro _; walk_at "ev"; intro _; walk_at "ev")
  | ((with_reducible apply ev_notV); walk_at "ev"))
local macro_rules | `(tactic| walk_at "et") => `(tactic| first
  | ((with_reducible apply et_test); walk_at "ev")
  | ((with_reducible apply et_B); walk_at "ev")
  | ((with_reducible apply et_and); walk_at "et"; intro _; walk_at "et")
  | ((with_reducible apply et_or); walk_at "et"; intro _; walk_at "et")
  | ((with_reducible apply et_not); walk_at "et"))
def sweep (s : Sd) (b : Bx) (m : Int) : Bx := match s with
  | .left => ⟨b.x - m, b.y, b.w + m, b.h⟩
  | .right => ⟨b.x, b.y, b.w + m, b.h⟩
  | .low => ⟨b.x, b.y - m, b.w, b.h + m⟩
  | .high => ⟨b.x, b.y, b.w, b.h + m⟩
def beyond (s : Sd) (A : Ar) (b : Bx) : Bool := if s.wy = -1 then decide (b.at s.ax < 0) else decide (b.at s.ax + b.sz s.ax > A.at s.ax)
/-- do they meet, by the law's own look -/
def lmeet (b c : Bx) : Bool := !decide (mn b.w b.h < 1) && ((decide (b.x < c.x + c.w) && decide (c.x < b.x + b.w)) && (decide (b.y < c.y + c.h) && decide (c.y < b.y + b.h)))
theorem flat2 (s : Sd) : inV (.str s.n) [.str "left", .str "right"] = decide (s.ax = 0) := by cases s <;> decide +kernel
theorem str_eq (s t : Sd) : decide (V.str s.n = V.str t.n) = (match s, t with | .left, .left => true | .right, .right => true | .low, .low => true | .high, .high => true | _, _ => false) := by cases s <;> cases t <;> decide +kernel
section
variable {P : Program} {w : World} {K : PySem.W.Frag} {mg : Str → Option Value} {base : Heap}
def kPut (K : PySem.W.Frag) (f : Sd → Bx → Int → Bx) (vs : List V) (H : Hp) (xs : List V) : Prop := ∃ (p : Addr) (b : Bx) (s : Sd) (m : Int), vs = [.ref p, .str s.n, .int m] ∧ SqT K H p b.v ∧ xs = (f s b m).v
theorem ok_put (T : Txt K mg w) : FnOk P w K mg base CX0 1 T.a_law_bo_put T.fd_law_bo_put ["box", "side", "many"] (Tupd (kPut K fun s b m => b.go s m)) := by
  refine T.F_law_bo_put.ok sc_law_bo_put (fun vs H Q E h => ?_) (fun cdv A outer s H vs Q E hr h => ?_)
  · obtain ⟨_, ⟨_, _, _, _, rfl, _⟩, _⟩ := h; rfl
  · obtain ⟨_, ⟨p, b, d, m, rfl, hb, rfl⟩, q⟩ := h
    refine ⟨_, (pss_cons (ps_asg (pv 0) (pg_tup rfl (pgs_cons (pg_name (i := 3) sc_law_bo_put.nd rfl (.inl rfl)) (pgs_cons (pg_name (i := 4) sc_law_bo_put.nd rfl (.inl rfl)) (pgs_cons (pg_name (i := 5) sc_law_bo_put.nd rfl (.inl rfl)) (pgs_cons (pg_name (i := 6) sc_law_bo_put.nd rfl (.inl rfl)) pgs_nil))))))
  (pss_cons (ps_if (pt_cmpR op_in_seq (pv 1) (pe_tup (pa_cons pe_str (pa_cons pe_str pa_nil))) (by rfl)) (pss_one (ps_ret (pe_tup (pa_cons (pe_ifExp (pt_cmpR op_eq (pv 1) pe_str (nomark _)) (pe_op op_sub (pv 3) (pv 2)) (pe_op op_add (pv 3) (pv 2))) (pa_cons (pv 4) (pa_cons (pv 5) (pa_cons (pv 6) pa_nil))))))) pss_nil)
  (pss_one (ps_ret (pe_tup (pa_cons (pv 3) (pa_cons (pe_ifExp (pt_cmpR op_eq (pv 1) pe_str (nomark _)) (pe_op op_sub (pv 4) (pv 2)) (pe_op op_add (pv 4) (pv 2))) (pa_cons (pv 5) (pa_cons (pv 6) pa_nil))))))))), ?_⟩
    refine q_asg4T (p := p) (v1 := .int b.x) (v2 := .int b.y) (v3 := .int b.w) (v4 := .int b.h) (ev_var rfl) hb fun H1 e1 => ?_
    have hin : ∀ H2, EvT (tTest (tOp (rIn K false) (tVar 1) (tTup (tCons (tC (.str "left")) (tCons (tC (.str "right")) tNil))))) [some (.ref p), some (.str d.n), some (.int m), some (.int b.x), some (.int b.y), some (.int b.w), some (.int b.h)] H2 (decide (d.ax = 0)) := fun H2 => et_is (et_test (ev_inU (ev_var rfl) (eu_tup (by walk_at "ea") (by decide)) rfl (by decide))) (flat2 d)
    refine q_when (hin H1) (fun hx H2 e2 => ?_) (fun hx H2 e2 => ?_)
    · have hy : ∀ H3, Ex H2 H3 → Ev (tIf (tTest (tOp rEq (tVar 1) (tC (.str "left")))) (tOp (rI0 fun i j => .int (i - j)) (tVar 3) (tVar 2)) (tOp (rI0 fun i j => .int (i + j)) (tVar 3) (tVar 2))) [some (.ref p), some (.str d.n), some (.int m), some (.int b.x), some (.int b.y), some (.int b.w), some (.int b.h)] H3 (.int (b.go d m).x) := fun H3 _ => by
        refine ev_if (b := decide (V.str d.n = V.str "left")) (by walk_at "et") (fun hw => ?_) (fun hw => ?_)
        · cases d
          · exact ev_is (by walk_at "ev") (show V.int (b.x - m) = V.int (b.x + -1 * m) by congr 1; omega)
          · exact absurd (of_decide_eq_true hw) (by decide +kernel)
          · cases hx
          · cases hx
        · cases d
          · exact absurd (rfl : V.str Sd.left.n = V.str "left") (of_decide_eq_false hw)
          · exact ev_is (by walk_at "ev") (show V.int (b.x + m) = V.int (b.x + 1 * m) by congr 1; omega)
          · cases hx
          · cases hx
      have hv : (b.go d m).v = [.int (b.go d m).x, .int b.y, .int b.w, .int b.h] := by
        cases d
        · rfl
        · rfl
        · cases hx
        · cases hx
      rw [hv] at q
      exact s_retU (eu_tup (ea_cons (hy H2 (Ex.refl H2)) (ea_cons (ev_var rfl) (ea_cons (ev_var rfl) (ea_cons (ev_var rfl) ea_nil)))) (by show 4 ≤ 100000; decide)) fun g H3 hp e3 h3 => q g H3 (fresh_back (e1.trans e2) hp) ((e1.trans e2).trans e3) h3
    · have hy : ∀ H3, Ex H2 H3 → Ev (tIf (tTest (tOp rEq (tVar 1) (tC (.str "low")))) (tOp (rI0 fun i j => .int (i - j)) (tVar 4) (tVar 2)) (tOp (rI0 fun i j => .int (i + j)) (tVar 4) (tVar 2))) [some (.ref p), some (.str d.n), some (.int m), some (.int b.x), some (.int b.y), some (.int b.w), some (.int b.h)] H3 (.int (b.go d m).y) := fun H3 _ => by
        refine ev_if (b := decide (V.str d.n = V.str "low")) (by walk_at "et") (fun hw => ?_) (fun hw => ?_)
        · cases d
          · cases hx
          · cases hx
          · exact ev_is (by walk_at "ev") (show V.int (b.y - m) = V.int (b.y + -1 * m) by congr 1; omega)
          · exact absurd (of_decide_eq_true hw) (by decide +kernel)
        · cases d
          · cases hx
          · cases hx
          · exact absurd (rfl : V.str Sd.low.n = V.str "low") (of_decide_eq_false hw)
          · exact ev_is (by walk_at "ev") (show V.int (b.y + m) = V.int (b.y + 1 * m) by congr 1; omega)
      have hv : (b.go d m).v = [.int b.x, .int (b.go d m).y, .int b.w, .int b.h] := by
        cases d
        · cases hx
        · cases hx
        · rfl
        · rfl
      rw [hv] at q
      exact s_retU (eu_tup (ea_cons (ev_var rfl) (ea_cons (hy H2 (Ex.refl H2)) (ea_cons (ev_var rfl) (ea_cons (ev_var rfl) ea_nil)))) (by show 4 ≤ 100000; decide)) fun g H3 hp e3 h3 => q g H3 (fresh_back (e1.trans e2) hp) ((e1.trans e2).trans e3) h3
def kLmeet (K : PySem.W.Frag) (vs : List V) (H : Hp) (z : V) : Prop := ∃ (p r : Addr) (b c : Bx), vs = [.ref p, .ref r] ∧ SqT K H p b.v ∧ SqT K H r c.v ∧ z = .bl (lmeet b c)
theorem ok_lmeet (T : Txt K mg w) : FnOk P w K mg base CX0 1 T.a_law_bo_meet T.fd_law_bo_meet ["one", "other"] (Pure (kLmeet K)) := by
  refine T.F_law_bo_meet.ok sc_law_bo_meet (fun vs H Q E h => ?_) (fun cdv A outer s H vs Q E hr h => ?_)
  · obtain ⟨_, ⟨_, _, _, _, rfl, _⟩, _⟩ := h; rfl
  · obtain ⟨_, ⟨p, r, b, c, rfl, hb, hc, rfl⟩, q⟩ := h
    refine ⟨_, (pss_cons (ps_if (pt_cmpR op_lt (pe_callB (c_min rfl) (by rfl) T.z_min (by decide +kernel) (pa_cons (pe_ix ix_tup (pv 0) pe_int (fun _ _ => rfl)) (pa_cons (pe_ix ix_tup (pv 0) pe_int (fun _ _ => rfl)) pa_nil))) pe_int (nomark _)) (pss_one (ps_ret pe_bl)) pss_nil)
  (pss_cons (ps_set (i := 2) sc_law_bo_meet.nd rfl (.inl rfl) (pe_and (pe_cmpR op_lt (pe_ix ix_tup (pv 0) pe_int (fun _ _ => rfl)) (pe_op op_add (pe_ix ix_tup (pv 1) pe_int (fun _ _ => rfl)) (pe_ix ix_tup (pv 1) pe_int (fun _ _ => rfl))) (nomark _)) (pe_one (pe_cmpR op_lt (pe_ix ix_tup (pv 1) pe_int (fun _ _ => rfl)) (pe_op op_add (pe_ix ix_tup (pv 0) pe_int (fun _ _ => rfl)) (pe_ix ix_tup (pv 0) pe_int (fun _ _ => rfl))) (nomark _)))))
  (pss_one (ps_ret (pe_and (pv 2) (pe_and (pe_cmpR op_lt (pe_ix ix_tup (pv 0) pe_int (fun _ _ => rfl)) (pe_op op_add (pe_ix ix_tup (pv 1) pe_int (fun _ _ => rfl)) (pe_ix ix_tup (pv 1) pe_int (fun _ _ => rfl))) (nomark _)) (pe_one (pe_cmpR op_lt (pe_ix ix_tup (pv 1) pe_int (fun _ _ => rfl)) (pe_op op_add (pe_ix ix_tup (pv 0) pe_int (fun _ _ => rfl)) (pe_ix ix_tup (pv 0) pe_int (fun _ _ => rfl))) (nomark _))))))))), ?_⟩
    have i0 : atI b.v 0 = some (.int b.x) := rfl
    have i1 : atI b.v 1 = some (.int b.y) := rfl
    have i2 : atI b.v 2 = some (.int b.w) := rfl
    have i3 : atI b.v 3 = some (.int b.h) := rfl
    have j0 : atI c.v 0 = some (.int c.x) := rfl
    have j1 : atI c.v 1 = some (.int c.y) := rfl
    have j2 : atI c.v 2 = some (.int c.w) := rfl
    have j3 : atI c.v 3 = some (.int c.h) := rfl
    refine q_when (b := decide (mn b.w b.h < 1)) (et_test (ev_op (x := .int (mn b.w b.h)) (ev_cb (vs := [.int b.w, .int b.h]) (by walk_at "ea") rc_I2) ev_c rv_I0)) (fun hx H1 e1 => ?_) (fun hx H1 e1 => ?_)
    · refine s_ret (v := .bl (lmeet b c)) (ev_is ev_c ?_) fun H2 e2 => q H2 (e1.trans e2)
      unfold lmeet
      rw [hx]
      rfl
    · have hb := ex_t e1 hb
      have hc := ex_t e1 hc
      refine q_asg (v := .bl (decide (b.x < c.x + c.w) && decide (c.x < b.x + b.w))) (by walk_at "ev") fun H2 e2 => ?_
      have hb := ex_t e2 hb
      have hc := ex_t e2 hc
      refine s_ret (v := .bl (lmeet b c)) (ev_is (v := .bl ((decide (b.x < c.x + c.w) && decide (c.x < b.x + b.w)) && (decide (b.y < c.y + c.h) && decide (c.y < b.y + b.h)))) (by walk_at "ev") ?_) fun H3 e3 => q H3 ((e1.trans e2).trans e3)
      unfold lmeet
      rw [hx]
      rfl
end
end Kz
set_option Elab.async false
set_option linter.all false
set_option maxRecDepth 100000
set_option maxHeartbeats 4000000
set_option exponentiation.threshold 500
namespace Kz
open PySem PySem.Spec PyProof.Rows L2 Evl Vr
local macro_rules | `(tactic| walk_at "sc") => `(tactic| first | (with_reducible assumption) | (with_reducible exact sc_mul (by omega)) | (with_reducible exact sc_mulr (by omega)) | (with_reducible exact sc_div (by omega) (by decide)) | (show (0 : Int) < _; omega) | (show _ ≠ (0 : Int); omega) | (with_reducible rfl) | decide)
local macro_rules | `(tactic| walk_at "sq") => `(tactic| first | assumption | exact sq_of (by assumption) | exact st_of (by assumption))
local macro_rules | `(tactic| walk_at "pl") => `(tactic| first | assumption | exact pl_int | exact pl_bl | exact pl_str | exact pl_non | exact pl_lst (by assumption) | exact pl_tup (by assumption) | exact pl_dK (by assumption))
local macro_rules | `(tactic| walk_at "rv") => `(tactic| first
  | with_reducible exact rv_I0
  | with_reducible exact ru_neg
  | ((with_reducible apply rv_I); walk_at "sc")
  | ((with_reducible apply rv_ixL); walk_at "sq"; first | rfl | assumption)
  | ((with_reducible apply rv_ixT); walk_at "sq"; first | rfl | assumption)
  | ((with_reducible apply rv_eq); rfl) | ((with_reducible apply rv_ne); rfl))
local macro_rules | `(tactic| walk_at "rc") => `(tactic| first
  | with_reducible exact rc_I1 | with_reducible exact rc_B1 | with_reducible exact rc_I2 | ((with_reducible apply rc_repr); walk_at "sc") | ((with_reducible apply rc_lenL); walk_at "sq")
  | ((with_reducible apply rc_isiInt); walk_at "pl") | ((with_reducible apply rc_isiBool); walk_at "pl"))
local macro_rules | `(tactic| walk_at "ea") => `(tactic| first
  | with_reducible exact ea_nil | ((with_reducible apply ea_cons); walk_at "ev"; walk_at "ea"))
local macro_rules | `(tactic| walk_at "pow") => `(tactic| first
  | with_reducible exact ev_pow (a := 10) (b := 9) (c := 1000000000) (by decide +kernel) (by decide +kernel)
  | with_reducible exact ev_pow (a := 10) (b := 10) (c := 10000000000) (by decide +kernel) (by decide +kernel)
  | with_reducible exact ev_pow (a := 10) (b := 12) (c := 1000000000000) (by decide +kernel) (by decide +kernel)
  | with_reducible exact ev_pow (a := 10) (b := 17) (c := 100000000000000000) (by decide +kernel) (by decide +kernel)
  | with_reducible exact ev_pow (a := 10) (b := 20) (c := 100000000000000000000) (by decide +kernel) (by decide +kernel)
  | with_reducible exact ev_pow (a := 10) (b := 29) (c := 100000000000000000000000000000) (by decide +kernel) (by decide +kernel)
  | with_reducible exact ev_pow (a := 10) (b := 30) (c := 1000000000000000000000000000000) (by decide +kernel) (by decide +kernel)
  | with_reducible exact ev_pow (a := 10) (b := 40) (c := 10000000000000000000000000000000000000000) (by decide +kernel) (by decide +kernel)
  | with_reducible exact ev_pow (a := 10) (b := 57) (c := 1000000000000000000000000000000000000000000000000000000000) (by decide +kernel) (by decide +kernel)
  | with_reducible exact ev_pow (a := 10) (b := 58) (c := 10000000000000000000000000000000000000000000000000000000000) (by decide +kernel) (by decide +kernel)
  | with_reducible exact ev_pow (a := 10) (b := 59) (c := 100000000000000000000000000000000000000000000000000000000000) (by decide +kernel) (by decide +kernel)
  | with_reducible exact ev_pow (a := 10) (b := 60) (c := 1000000000000000000000000000000000000000000000000000000000000) (by decide +kernel) (by decide +kernel))
local macro_rules | `(tactic| walk_at "call") => `(tactic| (intro H9 e9; first | exact ⟨_, rfl, rfl⟩ | exact ⟨_, _, rfl, rfl⟩ | exact ⟨_, _, _, rfl, rfl⟩ | exact ⟨_, rfl, by walk_at "pl", rfl⟩ | (refine ⟨_, _, _, rfl, ?_, rfl⟩; first | exact Plain.ex e9 (by assumption) | walk_at "pl") | (refine ⟨_, rfl, ?_, rfl⟩; first | exact Plain.ex e9 (by assumption) | walk_at "pl")))
local macro_rules | `(tactic| walk_at "ev") => `(tactic| first
  | with_reducible exact ev_c
  | exact ev_var rfl
  | walk_at "pow"
  | ((with_reducible apply ev_op); walk_at "ev"; walk_at "ev"; walk_at "rv")
  | ((with_reducible apply ev_un); walk_at "ev"; walk_at "rv")
  | ((with_reducible apply ev_cb); walk_at "ea"; walk_at "rc")
  | ((with_reducible apply ev_callP); walk_at "ea"; walk_at "call")
  | ((with_reducible apply ev_chain); walk_at "ev"; walk_at "ev"; walk_at "rv"; walk_at "ev"; walk_at "rv")
  | ((with_reducible apply ev_andV); walk_at "ev"; intro _; walk_at "ev")
  | ((with_reducible apply ev_orV); walk_at "ev"; intro _; walk_at "ev")
  | ((with_reducible apply ev_ite); walk_at "et"; intro _; walk_at "ev"; intro _; walk_at "ev")
  | ((with_reducible apply ev_notV); walk_at "ev"))
local macro_rules | `(tactic| walk_at "et") => `(tactic| first
  | ((with_reducible apply et_test); walk_at "ev")
  | ((with_reducible apply et_B); walk_at "ev")
  | ((with_reducible apply et_and); walk_at "et"; intro _; walk_at "et")
  | ((with_reducible apply et_or); walk_at "et"; intro _; walk_at "et")
  | ((with_reducible apply et_not); walk_at "et"))
section
variable {P : Program} {w : World} {K : PySem.W.Frag} {mg : Str → Option Value} {base : Heap}
theorem ok_swept (T : Txt K mg w) : FnOk P w K mg base CX0 1 T.a_law_bo_swept T.fd_law_bo_swept ["box", "side", "many"] (Tupd (kPut K sweep)) := by
  refine T.F_law_bo_swept.ok sc_law_bo_swept (fun vs H Q E h => ?_) (fun cdv A outer s H vs Q E hr h => ?_)
  · obtain ⟨_, ⟨_, _, _, _, rfl, _⟩, _⟩ := h; rfl
  · obtain ⟨_, ⟨p, b, d, m, rfl, hb, rfl⟩, q⟩ := h
    refine ⟨_, (pss_cons (ps_asg (pv 0) (pg_tup rfl (pgs_cons (pg_name (i := 3) sc_law_bo_swept.nd rfl (.inl rfl)) (pgs_cons (pg_name (i := 4) sc_law_bo_swept.nd rfl (.inl rfl)) (pgs_cons (pg_name (i := 5) sc_law_bo_swept.nd rfl (.inl rfl)) (pgs_cons (pg_name (i := 6) sc_law_bo_swept.nd rfl (.inl rfl)) pgs_nil))))))
  (pss_cons (ps_if (pt_cmpR op_in_seq (pv 1) (pe_tup (pa_cons pe_str (pa_cons pe_str pa_nil))) (by rfl)) (pss_one (ps_ret (pe_tup (pa_cons (pe_ifExp (pt_cmpR op_eq (pv 1) pe_str (nomark _)) (pe_op op_sub (pv 3) (pv 2)) (pv 3)) (pa_cons (pv 4) (pa_cons (pe_op op_add (pv 5) (pv 2)) (pa_cons (pv 6) pa_nil))))))) pss_nil)
  (pss_one (ps_ret (pe_tup (pa_cons (pv 3) (pa_cons (pe_ifExp (pt_cmpR op_eq (pv 1) pe_str (nomark _)) (pe_op op_sub (pv 4) (pv 2)) (pv 4)) (pa_cons (pv 5) (pa_cons (pe_op op_add (pv 6) (pv 2)) pa_nil))))))))), ?_⟩
    refine q_asg4T (p := p) (v1 := .int b.x) (v2 := .int b.y) (v3 := .int b.w) (v4 := .int b.h) (ev_var rfl) hb fun H1 e1 => ?_
    have hin : ∀ H2, EvT (tTest (tOp (rIn K false) (tVar 1) (tTup (tCons (tC (.str "left")) (tCons (tC (.str "right")) tNil))))) [some (.ref p), some (.str d.n), some (.int m), some (.int b.x), some (.int b.y), some (.int b.w), some (.int b.h)] H2 (decide (d.ax = 0)) := fun H2 => et_is (et_test (ev_inU (ev_var rfl) (eu_tup (by walk_at "ea") (by decide)) rfl (by decide))) (flat2 d)
    refine q_when (hin H1) (fun hx H2 e2 => ?_) (fun hx H2 e2 => ?_)
    · have hy : ∀ H3, Ex H2 H3 → Ev (tIf (tTest (tOp rEq (tVar 1) (tC (.str "left")))) (tOp (rI0 fun i j => .int (i - j)) (tVar 3) (tVar 2)) (tVar 3)) [some (.ref p), some (.str d.n), some (.int m), some (.int b.x), some (.int b.y), some (.int b.w), some (.int b.h)] H3 (.int (sweep d b m).x) := fun H3 _ => by
        refine ev_if (b := decide (V.str d.n = V.str "left")) (by walk_at "et") (fun hw => ?_) (fun hw => ?_)
        · cases d
          · exact ev_is (v := .int (b.x - m)) (by walk_at "ev") rfl
          · exact absurd (of_decide_eq_true hw) (by decide +kernel)
          · cases hx
          · cases hx
        · cases d
          · exact absurd (rfl : V.str Sd.left.n = V.str "left") (of_decide_eq_false hw)
          · exact ev_var rfl
          · cases hx
          · cases hx
      have hv : (sweep d b m).v = [.int (sweep d b m).x, .int b.y, .int (b.w + m), .int b.h] := by
        cases d
        · rfl
        · rfl
        · cases hx
        · cases hx
      rw [hv] at q
      exact s_retU (eu_tup (ea_cons (hy H2 (Ex.refl H2)) (ea_cons (ev_var rfl) (ea_cons (ev_op (ev_var rfl) (ev_var rfl) rv_I0) (ea_cons (ev_var rfl) ea_nil)))) (by show 4 ≤ 100000; decide)) fun g H3 hp e3 h3 => q g H3 (fresh_back (e1.trans e2) hp) ((e1.trans e2).trans e3) h3
    · have hy : ∀ H3, Ex H2 H3 → Ev (tIf (tTest (tOp rEq (tVar 1) (tC (.str "low")))) (tOp (rI0 fun i j => .int (i - j)) (tVar 4) (tVar 2)) (tVar 4)) [some (.ref p), some (.str d.n), some (.int m), some (.int b.x), some (.int b.y), some (.int b.w), some (.int b.h)] H3 (.int (sweep d b m).y) := fun H3 _ => by
        refine ev_if (b := decide (V.str d.n = V.str "low")) (by walk_at "et") (fun hw => ?_) (fun hw => ?_)
        · cases d
          · cases hx
          · cases hx
          · exact ev_is (v := .int (b.y - m)) (by walk_at "ev") rfl
          · exact absurd (of_decide_eq_true hw) (by decide +kernel)
        · cases d
          · cases hx
          · cases hx
          · exact absurd (rfl : V.str Sd.low.n = V.str "low") (of_decide_eq_false hw)
          · exact ev_var rfl
      have hv : (sweep d b m).v = [.int b.x, .int (sweep d b m).y, .int b.w, .int (b.h + m)] := by
        cases d
        · cases hx
        · cases hx
        · rfl
        · rfl
      rw [hv] at q
      exact s_retU (eu_tup (ea_cons (ev_var rfl) (ea_cons (hy H2 (Ex.refl H2)) (ea_cons (ev_var rfl) (ea_cons (ev_op (ev_var rfl) (ev_var rfl) rv_I0) ea_nil)))) (by show 4 ≤ 100000; decide)) fun g H3 hp e3 h3 => q g H3 (fresh_back (e1.trans e2) hp) ((e1.trans e2).trans e3) h3
def kBeyond (K : PySem.W.Frag) (vs : List V) (H : Hp) (z : V) : Prop := ∃ (a p : Addr) (A : Ar) (b : Bx) (s : Sd), vs = [.ref a, .ref p, .str s.n] ∧ SqT K H a A.v ∧ SqT K H p b.v ∧ z = .bl (beyond s A b)
theorem ok_beyond (T : Txt K mg w) : FnOk P w K mg base CX0 1 T.a_law_bo_is_beyond T.fd_law_bo_is_beyond ["arena", "box", "side"] (Pure (kBeyond K)) := by
  refine T.F_law_bo_is_beyond.ok sc_law_bo_is_beyond (fun vs H Q E h => ?_) (fun cdv A outer s H vs Q E hr h => ?_)
  · obtain ⟨_, ⟨_, _, _, _, _, rfl, _⟩, _⟩ := h; rfl
  · obtain ⟨_, ⟨a, p, ar, b, d, rfl, ha, hb, rfl⟩, q⟩ := h
    refine ⟨_, (pss_cons (ps_if (pt_cmpR op_eq (pv 2) pe_str (nomark _)) (pss_one (ps_ret (pe_cmpR op_lt (pe_ix ix_tup (pv 1) pe_int (fun _ _ => rfl)) pe_int (nomark _)))) pss_nil)
  (pss_cons (ps_if (pt_cmpR op_eq (pv 2) pe_str (nomark _)) (pss_one (ps_ret (pe_cmpR op_lt (pe_ix ix_tup (pv 1) pe_int (fun _ _ => rfl)) pe_int (nomark _)))) pss_nil)
  (pss_one (ps_ret (pe_ifExp (pt_cmpR op_eq (pv 2) pe_str (nomark _)) (pe_cmpR op_gt (pe_op op_add (pe_ix ix_tup (pv 1) pe_int (fun _ _ => rfl)) (pe_ix ix_tup (pv 1) pe_int (fun _ _ => rfl))) (pe_ix ix_tup (pv 0) pe_int (fun _ _ => rfl)) (nomark _)) (pe_cmpR op_gt (pe_op op_add (pe_ix ix_tup (pv 1) pe_int (fun _ _ => rfl)) (pe_ix ix_tup (pv 1) pe_int (fun _ _ => rfl))) (pe_ix ix_tup (pv 0) pe_int (fun _ _ => rfl)) (nomark _))))))), ?_⟩
    have i0 : atI b.v 0 = some (.int b.x) := rfl
    have i1 : atI b.v 1 = some (.int b.y) := rfl
    have i2 : atI b.v 2 = some (.int b.w) := rfl
    have i3 : atI b.v 3 = some (.int b.h) := rfl
    have a0 : atI ar.v 0 = some (.int ar.w) := rfl
    have a1 : atI ar.v 1 = some (.int ar.h) := rfl
    refine q_when (b := decide (V.str d.n = V.str "left")) (by walk_at "et") (fun hw H1 e1 => ?_) (fun hw H1 e1 => ?_)
    · have hb := ex_t e1 hb
      refine s_ret (v := .bl (beyond d ar b)) (ev_is (v := .bl (decide (b.x < 0))) (by walk_at "ev") ?_) fun H2 e2 => q H2 (e1.trans e2)
      cases d
      · rfl
      all_goals exact absurd (of_decide_eq_true hw) (by decide +kernel)
    refine q_when (b := decide (V.str d.n = V.str "low")) (by walk_at "et") (fun hw2 H2 e2 => ?_) (fun hw2 H2 e2 => ?_)
    · have hb := ex_t (e1.trans e2) hb
      refine s_ret (v := .bl (beyond d ar b)) (ev_is (v := .bl (decide (b.y < 0))) (by walk_at "ev") ?_) fun H3 e3 => q H3 ((e1.trans e2).trans e3)
      cases d
      case low => rfl
      all_goals exact absurd (of_decide_eq_true hw2) (by decide +kernel)
    have hb := ex_t (e1.trans e2) hb
    have ha := ex_t (e1.trans e2) ha
    refine s_ret (v := .bl (beyond d ar b)) (ev_if (b := decide (V.str d.n = V.str "right")) (by walk_at "et") (fun h3 => ?_) (fun h3 => ?_)) fun H3 e3 => q H3 ((e1.trans e2).trans e3)
    · refine ev_is (v := .bl (decide (b.x + b.w > ar.w))) (by walk_at "ev") ?_
      cases d
      case right => rfl
      all_goals exact absurd (of_decide_eq_true h3) (by decide +kernel)
    · refine ev_is (v := .bl (decide (b.y + b.h > ar.h))) (by walk_at "ev") ?_
      cases d
      case high => rfl
      case left => exact absurd (rfl : V.str Sd.left.n = V.str "left") (of_decide_eq_false hw)
      case low => exact absurd (rfl : V.str Sd.low.n = V.str "low") (of_decide_eq_false hw2)
      case right => exact absurd (rfl : V.str Sd.right.n = V.str "right") (of_decide_eq_false h3)
end
end Kz
set_option Elab.async false
set_option linter.all false
set_option maxRecDepth 100000
set_option maxHeartbeats 4000000
set_option exponentiation.threshold 500
namespace Kz
open PySem PySem.Spec PyProof.Rows L2 Evl Vr
local macro_rules | `(tactic| walk_at "sc") => `(tactic| first | (with_reducible assumption) | (with_reducible exact sc_mul (by omega)) | (with_reducible exact sc_mulr (by omega)) | (with_reducible exact sc_div (by omega) (by decide)) | (show (0 : Int) < _; omega) | (show _ ≠ (0 : Int); omega) | (with_reducible rfl) | decide)
local macro_rules | `(tactic| walk_at "sq") => `(tactic| first | assumption | exact sq_of (by assumption) | exact st_of (by assumption))
local macro_rules | `(tactic| walk_at "pl") => `(tactic| first | assumption | exact pl_int | exact pl_bl | exact pl_str | exact pl_non | exact pl_lst (by assumption) | exact pl_tup (by assumption) | exact pl_dK (by assumption))
local macro_rules | `(tactic| walk_at "rv") => `(tactic| first
  | with_reducible exact rv_I0
  | with_reducible exact ru_neg
  | ((with_reducible apply rv_I); walk_at "sc")
  | ((with_reducible apply rv_ixL); walk_at "sq"; first | rfl | assumption)
  | ((with_reducible apply rv_ixT); walk_at "sq"; first | rfl | assumption)
  | ((with_reducible apply rv_eq); rfl) | ((with_reducible apply rv_ne); rfl))
local macro_rules | `(tactic| walk_at "rc") => `(tactic| first
  | with_reducible exact rc_I1 | with_reducible exact rc_B1 | with_reducible exact rc_I2 | ((with_reducible apply rc_repr); walk_at "sc") | ((with_reducible apply rc_lenL); walk_at "sq")
  | ((with_reducible apply rc_isiInt); walk_at "pl") | ((with_reducible apply rc_isiBool); walk_at "pl"))
local macro_rules | `(tactic| walk_at "ea") => `(tactic| first
  | with_reducible exact ea_nil | ((with_reducible apply ea_cons); walk_at "ev"; walk_at "ea"))
local macro_rules | `(tactic| walk_at "pow") => `(tactic| first
  | with_reducible exact ev_pow (a := 10) (b := 9) (c := 1000000000) (by decide +kernel) (by decide +kernel)
  | with_reducible exact ev_pow (a := 10) (b := 10) (c := 10000000000) (by decide +kernel) (by decide +kernel)
  | with_reducible exact ev_pow (a := 10) (b := 12) (c := 1000000000000) (by decide +kernel) (by decide +kernel)
  | with_reducible exact ev_pow (a := 10) (b := 17) (c := 100000000000000000) (by decide +kernel) (by decide +kernel)
  | with_reducible exact ev_pow (a := 10) (b := 20) (c := 100000000000000000000) (by decide +kernel) (by decide +kernel)
  | with_reducible exact ev_pow (a := 10) (b := 29) (c := 100000000000000000000000000000) (by decide +kernel) (by decide +kernel)
  | with_reducible exact ev_pow (a := 10) (b := 30) (c := 1000000000000000000000000000000) (by decide +kernel) (by decide +kernel)
  | with_reducible exact ev_pow (a := 10) (b := 40) (c := 10000000000000000000000000000000000000000) (by decide +kernel) (by decide +kernel)
  | with_reducible exact ev_pow (a := 10) (b := 57) (c := 1000000000000000000000000000000000000000000000000000000000) (by decide +kernel) (by decide +kernel)
  | with_reducible exact ev_pow (a := 10) (b := 58) (c := 10000000000000000000000000000000000000000000000000000000000) (by decide +kernel) (by decide +kernel)
  | with_reducible exact ev_pow (a := 10) (b := 59) (c := 100000000000000000000000000000000000000000000000000000000000) (by decide +kernel) (by decide +kernel)
  | with_reducible exact ev_pow (a := 10) (b := 60) (c := 1000000000000000000000000000000000000000000000000000000000000) (by decide +kernel) (by decide +kernel))
local macro_rules | `(tactic| walk_at "call") => `(tactic| (intro H9 e9; first | exact ⟨_, rfl, rfl⟩ | exact ⟨_, _, rfl, rfl⟩ | exact ⟨_, _, _, rfl, rfl⟩ | exact ⟨_, rfl, by walk_at "pl", rfl⟩ | (refine ⟨_, _, _, rfl, ?_, rfl⟩; first | exact Plain.ex e9 (by assumption) | walk_at "pl") | (refine ⟨_, rfl, ?_, rfl⟩; first | exact Plain.ex e9 (by assumption) | walk_at "pl")))
local macro_rules | `(tactic| walk_at "ev") => `(tactic| first
  | with_reducible exact ev_c
  | exact ev_var rfl
  | walk_at "pow"
  | ((with_reducible apply ev_op); walk_at "ev"; walk_at "ev"; walk_at "rv")
  | ((with_reducible apply ev_un); walk_at "ev"; walk_at "rv")
  | ((with_reducible apply ev_cb); walk_at "ea"; walk_at "rc")
  | ((with_reducible apply ev_callP); walk_at "ea"; walk_at "call")
  | ((with_reducible apply ev_chain); walk_at "ev"; walk_at "ev"; walk_at "rv"; walk_at "ev"; walk_at "rv")
  | ((with_reducible apply ev_andV); walk_at "ev"; intro _; walk_at "ev")
  | ((with_reducible apply ev_orV); walk_at "ev"; intro _; walk_at "ev")
  | ((with_reducible apply ev_ite); walk_at "et"; intro _; walk_at "ev"; intro _; walk_at "ev")
  | ((with_reducible apply ev_notV); walk_at "ev"))
local macro_rules | `(tactic| walk_at "et") => `(tactic| first
  | ((with_reducible apply et_test); walk_at "ev")
  | ((with_reducible apply et_B); walk_at "ev")
  | ((with_reducible apply et_and); walk_at "et"; intro _; walk_at "et")
  | ((with_reducible apply et_or); walk_at "et"; intro _; walk_at "et")
  | ((with_reducible apply et_not); walk_at "et"))
theorem given_filter {α : Type} (l : List α) (d : α) (g : α → Bool) (h : α → V) : given l.length (fun i => g (l.getD i d)) (fun i => h (l.getD i d)) = (l.filter g).map h := by
  unfold given
  have e : (List.range l.length).map (fun i => l.getD i d) = l := by
    apply List.ext_getElem
    · simp
    · intro i h1 h2
      simp [List.getD_eq_getElem?_getD, List.getElem?_eq_getElem h2]
  conv => rhs; rw [← e, List.filter_map, List.map_map]
  rfl
def hits (s : Sd) (b : Bx) (m : Int) (c : Bx) : Bool := lmeet (sweep s b m) c && !lmeet b c
def lfree (s : Sd) (A : Ar) (b : Bx) (cs : List Bx) (m : Int) : Bool := !cs.any (hits s b m) && (decide (m = 0) || !beyond s A (b.go s m))
section
variable {σ : L2.St} {H : Hp} {ta tb tc : TE} {tr : TA} {K : PySem.W.Frag} {z : V}
theorem lay_ints : ∀ ns : List Int, PyData.canLayAll0 (ns.map PyData.int) = true ∧ PyData.depthAll (ns.map PyData.int) = 0
  | [] => ⟨rfl, rfl⟩
  | n :: ns => by
    have h := lay_ints ns
    refine ⟨?_, ?_⟩
    · show (true && PyData.canLayAll0 (ns.map PyData.int)) = true
      rw [h.1]
      rfl
    · show max 0 (PyData.depthAll (ns.map PyData.int)) = 0
      rw [h.2]
      rfl
theorem shaped_ints (ns : List Int) : SeqAt.shaped (.list (ns.map PyData.int)) = true := by
  have h := lay_ints ns
  show (PyData.canLayAll0 (ns.map PyData.int) && decide (PyData.depthAll (ns.map PyData.int) + 1 ≤ 64)) = true
  rw [h.1, h.2]
  rfl
theorem any_filter {α : Type} (f : α → Bool) : ∀ l : List α, (!((l.filter f).map fun _ => (1 : Int)).isEmpty) = l.any f
  | [] => rfl
  | c :: cs => by
    rw [List.filter_cons, List.any_cons]
    split
    · rename_i h; rw [h]; rfl
    · rename_i h
      have hf : f c = false := by simpa using h
      rw [any_filter f cs, hf]
      rfl
theorem ones_ne {ns : List Int} : (!PyData.eqv (.list (ns.map PyData.int)) (.list [])) = !ns.isEmpty := by
  cases ns with
  | nil => decide +kernel
  | cons n ns => rfl
end
section
variable {P : Program} {w : World} {K : PySem.W.Frag} {mg : Str → Option Value} {base : Heap}
def kLfree (K : PySem.W.Frag) (vs : List V) (H : Hp) (z : V) : Prop := ∃ (a p o : Addr) (A : Ar) (b : Bx) (cs : List Bx) (s : Sd) (m : Int), vs = [.ref a, .ref p, .ref o, .str s.n, .int m] ∧ SqT K H a A.v ∧ SqT K H p b.v ∧ Boxes K H o cs ∧ cs.length ≤ 1000 ∧ z = .bl (lfree s A b cs m)
theorem ok_lfree (T : Txt K mg w) : FnOk P w K mg base CX0 2 T.a_law_bo_is_free T.fd_law_bo_is_free ["arena", "box", "others", "side", "many"] (Pure (kLfree K)) := by
  have G_law_bo_swept := ok_swept (P := P) (w := w) (base := base) T
  have G_law_bo_meet := ok_lmeet (P := P) (w := w) (base := base) T
  have G_law_bo_is_beyond := ok_beyond (P := P) (w := w) (base := base) T
  have G_law_bo_put := ok_put (P := P) (w := w) (base := base) T
  refine T.F_law_bo_is_free.ok sc_law_bo_is_free (fun vs H Q E h => ?_) (fun cdv A outer s H vs Q E hr h => ?_)
  · obtain ⟨_, ⟨_, _, _, _, _, _, _, _, rfl, _⟩, _⟩ := h; rfl
  · obtain ⟨_, ⟨a, p, o, ar, b, cs, d, m, rfl, ha, hb, ⟨rs, hlen, hO, hC⟩, hl, rfl⟩, q⟩ := h
    refine ⟨_, (pss_cons (ps_set (i := 5) sc_law_bo_is_free.nd rfl (.inr rfl) (pe_call G_law_bo_swept (hr.mono (by decide)) (by rfl) T.g_law_bo_swept T.F_law_bo_swept.kp T.b_law_bo_swept .nil pass0 (pa_cons (pv 1) (pa_cons (pv 3) (pa_cons (pv 4) pa_nil)))))
  (pss_cons (ps_if (pt_cmpR (op_neD hr.units) (pe_lc (own := [("other", 6)]) (g := gName 6) (by rfl) sc_law_bo_is_free.nd (pi_tup (pv 2)) (blkOk_by (own := [("other", 6)]) (N := ["arena", "box", "others", "side", "many", "swept", "other"]) (sc := defScope s_law_bo_is_free) (by decide +kernel)) (fun _ _ _ _ _ => pg_name (i := 6) sc_law_bo_is_free.nd rfl (Or.inl rfl)) (fun _ _ _ _ _ => (pts_one (PW.pt (pw_and (pt_val (pe_call G_law_bo_meet (hr.mono (by decide)) (by rfl) T.g_law_bo_meet T.F_law_bo_meet.kp T.b_law_bo_meet .nil pass0 (pa_cons (pv 5) (pa_cons (pv 6) pa_nil)))) (pw_and1 (pt_not (pt_val (pe_call G_law_bo_meet (hr.mono (by decide)) (by rfl) T.g_law_bo_meet T.F_law_bo_meet.kp T.b_law_bo_meet .nil pass0 (pa_cons (pv 1) (pa_cons (pv 6) pa_nil)))))))))) (fun _ _ _ _ _ => pe_int)) (pe_lst pa_nil) (nomark _)) (pss_one (ps_ret pe_bl)) pss_nil)
  (pss_one (ps_ret (pe_or (pe_cmpR op_eq (pv 4) pe_int (nomark _)) (pe_one (pe_not (pe_call G_law_bo_is_beyond (hr.mono (by decide)) (by rfl) T.g_law_bo_is_beyond T.F_law_bo_is_beyond.kp T.b_law_bo_is_beyond .nil pass0 (pa_cons (pv 0) (pa_cons (pe_call G_law_bo_put (hr.mono (by decide)) (by rfl) T.g_law_bo_put T.F_law_bo_put.kp T.b_law_bo_put .nil pass0 (pa_cons (pv 1) (pa_cons (pv 3) (pa_cons (pv 4) pa_nil)))) (pa_cons (pv 3) pa_nil))))))))))), ?_⟩
    refine q_asgU (xs := (sweep d b m).v) (eu_callT (vs := [.ref p, .str d.n, .int m]) (by walk_at "ea") fun H1 e1 => ⟨p, b, d, m, rfl, ex_t e1 hb, rfl⟩) fun g H1 hg e1 h1 => ?_
    have hg := st_of (K := K) h1
    refine q_when (b := cs.any (hits d b m)) (et_is (et_test (ev_neD (d := .list (((cs.filter (hits d b m)).map fun _ => (1 : Int)).map PyData.int)) (e := .list []) (evd_ints ?lc) (evd_lst evda_nil (by decide)) (shaped_ints _) (by decide +kernel))) (by rw [ones_ne, any_filter])) (fun hx H2 e2 => ?_) (fun hx H2 e2 => ?_)
    case lc =>
      have e : given (rs.map V.ref).length (fun i => hits d b m (cs.getD i ⟨0, 0, 0, 0⟩)) (fun i => V.int 1) = ((cs.filter (hits d b m)).map fun _ => (1 : Int)).map V.int := by
        rw [List.length_map, hlen, given_filter cs ⟨0, 0, 0, 0⟩ (hits d b m) fun _ => V.int 1, List.map_map]
        rfl
      rw [← e]
      refine el_lcT (xs := rs.map V.ref) (fun i => hits d b m (cs.getD i ⟨0, 0, 0, 0⟩)) (fun _ => V.int 1) (ev_var rfl) (ex_t e1 hO) (by rw [List.length_map]; omega) (fun _ => rfl) (fun i x H2 e2 hx => ?_) fun i x H2 e2 hx _ => ev_c
      obtain ⟨r, hr1, rfl⟩ : ∃ r, rs[i]? = some r ∧ x = .ref r := by
        rw [List.getElem?_map] at hx
        cases h : rs[i]? with
        | none => rw [h] at hx; cases hx
        | some r => rw [h] at hx; exact ⟨r, rfl, (Option.some.inj hx).symm⟩
      have hi : i < cs.length := by have := (List.getElem?_eq_some_iff.mp hr1).1; omega
      have hc0 := hC i r cs[i] hr1 (List.getElem?_eq_getElem hi)
      have hc1 : cs.getD i ⟨0, 0, 0, 0⟩ = cs[i] := by rw [List.getD_eq_getElem?_getD, List.getElem?_eq_getElem hi]; rfl
      rw [hc1]
      exact et_and (et_B (ev_callP (vs := [.ref g, .ref r]) (by walk_at "ea") fun H3 e3 => ⟨g, r, _, cs[i], rfl, ex_t (e2.trans e3) hg, ex_t ((e1.trans e2).trans e3) hc0, rfl⟩)) fun _ => et_not (et_B (ev_callP (vs := [.ref p, .ref r]) (by walk_at "ea") fun H3 e3 => ⟨p, r, b, cs[i], rfl, ex_t ((e1.trans e2).trans e3) hb, ex_t ((e1.trans e2).trans e3) hc0, rfl⟩))
    · refine s_ret (v := .bl (lfree d ar b cs m)) (ev_is ev_c ?_) fun H3 e3 => q H3 ((e1.trans e2).trans e3)
      unfold lfree
      rw [hx]
      rfl
    · have e2 := e1.trans e2
      refine s_ret (v := .bl (lfree d ar b cs m)) (ev_is (ev_orV (a := decide (V.int m = V.int 0)) (b := !beyond d ar (b.go d m)) (by walk_at "ev") fun _ => ev_notV (ev_callVT (x := .ref a) (xs := (b.go d m).v) (vs := [.str d.n]) (ev_var rfl) (eu_callT (vs := [.ref p, .str d.n, .int m]) (by walk_at "ea") fun H3 e3 => ⟨p, b, d, m, rfl, ex_t (e2.trans e3) hb, rfl⟩) (fun H3 e3 => by walk_at "ea") fun r H3 e3 h3 => ⟨a, r, ar, b.go d m, d, rfl, ex_t (e2.trans e3) ha, st_of h3, rfl⟩)) ?_) fun H3 e3 => q H3 (e2.trans e3)
      have hm : decide (V.int m = V.int 0) = decide (m = 0) := decide_eq_decide.mpr ⟨V.int.inj, fun h => by rw [h]⟩
      unfold lfree
      rw [hx, hm]
      rfl
end
end Kz
set_option Elab.async false
set_option linter.all false
set_option maxRecDepth 100000
set_option maxHeartbeats 4000000
set_option exponentiation.threshold 500
namespace Kz
open PySem PySem.Spec PyProof.Rows L2 Evl Vr
/-- with places -/
def Bx.pos (b : Bx) : Prop := 1 ≤ b.w ∧ 1 ≤ b.h
theorem share_iff (ax : Nat) (b c : Bx) (hb : 0 < b.sz ax) (hc : 0 < c.sz ax) : share ax 0 b c = true ↔ b.at ax < c.at ax + c.sz ax ∧ c.at ax < b.at ax + b.sz ax := by
  unfold share mx mn
  rw [decide_eq_true_iff]
  constructor
  · intro h
    split at h <;> split at h <;> omega
  · intro h
    split <;> split <;> omega
theorem lmeet_iff (b c : Bx) (hb : b.pos) : lmeet b c = true ↔ (b.x < c.x + c.w ∧ c.x < b.x + b.w) ∧ (b.y < c.y + c.h ∧ c.y < b.y + b.h) := by
  obtain ⟨h1, h2⟩ := hb
  have h3 : decide (mn b.w b.h < 1) = false := by
    apply decide_eq_false
    unfold mn
    split <;> omega
  unfold lmeet
  rw [h3]
  simp only [Bool.not_false, Bool.true_and, Bool.and_eq_true, decide_eq_true_eq]
theorem sweep_pos (s : Sd) (b : Bx) (k : Int) (hk : 0 ≤ k) (hb : b.pos) : (sweep s b k).pos := by
  obtain ⟨h1, h2⟩ := hb
  cases s <;> exact ⟨by show 1 ≤ _; simp only [sweep]; omega, by show 1 ≤ _; simp only [sweep]; omega⟩
theorem hits_iff (s : Sd) (b c : Bx) (k : Int) (hk : 0 ≤ k) (hb : b.pos) (hc : c.pos) : hits s b k c = true ↔ share (1 - s.ax) 0 b c = true ∧ 0 ≤ gap s b c ∧ gap s b c < k := by
  have hb' := hb
  have hc' := hc
  obtain ⟨b1, b2⟩ := hb'
  obtain ⟨c1, c2⟩ := hc'
  have hs := share_iff (1 - s.ax) b c (by cases s <;> first | exact b2 | exact b1) (by cases s <;> first | exact c2 | exact c1)
  rw [hs]
  unfold hits
  rw [Bool.and_eq_true, Bool.not_eq_true', ← Bool.not_eq_true, lmeet_iff _ _ (sweep_pos s b k hk hb), lmeet_iff _ _ hb]
  cases s
  · show ((b.x - k < c.x + c.w ∧ c.x < b.x - k + (b.w + k)) ∧ (b.y < c.y + c.h ∧ c.y < b.y + b.h)) ∧ _ ↔ (b.y < c.y + c.h ∧ c.y < b.y + b.h) ∧ 0 ≤ b.x - c.x - c.w ∧ b.x - c.x - c.w < k
    omega
  · show ((b.x < c.x + c.w ∧ c.x < b.x + (b.w + k)) ∧ (b.y < c.y + c.h ∧ c.y < b.y + b.h)) ∧ _ ↔ (b.y < c.y + c.h ∧ c.y < b.y + b.h) ∧ 0 ≤ c.x - b.x - b.w ∧ c.x - b.x - b.w < k
    omega
  · show ((b.x < c.x + c.w ∧ c.x < b.x + b.w) ∧ (b.y - k < c.y + c.h ∧ c.y < b.y - k + (b.h + k))) ∧ _ ↔ (b.x < c.x + c.w ∧ c.x < b.x + b.w) ∧ 0 ≤ b.y - c.y - c.h ∧ b.y - c.y - c.h < k
    omega
  · show ((b.x < c.x + c.w ∧ c.x < b.x + b.w) ∧ (b.y < c.y + c.h ∧ c.y < b.y + (b.h + k))) ∧ _ ↔ (b.x < c.x + c.w ∧ c.x < b.x + b.w) ∧ 0 ≤ c.y - b.y - b.h ∧ c.y - b.y - b.h < k
    omega
theorem raw_mem (s : Sd) (b : Bx) (g : Int) : ∀ cs, g ∈ raw s b cs ↔ ∃ c ∈ cs, share (1 - s.ax) 0 b c = true ∧ g = gap s b c
  | [] => by simp [raw]
  | c :: cs => by
    show g ∈ _ ++ raw s b cs ↔ _
    rw [List.mem_append, raw_mem s b g cs]
    simp only [List.mem_cons, or_and_right, exists_or, exists_eq_left]
    refine or_congr ?_ Iff.rfl
    split
    · rename_i h
      simp [h]
    · rename_i h
      simp [h]
theorem edge_iff (s : Sd) (A : Ar) (b : Bx) (k : Int) (hk : 0 ≤ k) : (k = 0 ∨ beyond s A (b.go s k) = false) ↔ k ≤ bgap s A b := by
  unfold beyond bgap mx
  cases s
  · show (k = 0 ∨ decide (b.x + -1 * k < 0) = false) ↔ k ≤ (if b.x > 0 then b.x else 0)
    rw [decide_eq_false_iff_not]; split <;> omega
  · show (k = 0 ∨ decide (b.x + 1 * k + b.w > A.w) = false) ↔ k ≤ (if A.w - b.x - b.w > 0 then A.w - b.x - b.w else 0)
    rw [decide_eq_false_iff_not]; split <;> omega
  · show (k = 0 ∨ decide (b.y + -1 * k < 0) = false) ↔ k ≤ (if b.y > 0 then b.y else 0)
    rw [decide_eq_false_iff_not]; split <;> omega
  · show (k = 0 ∨ decide (b.y + 1 * k + b.h > A.h) = false) ↔ k ≤ (if A.h - b.y - b.h > 0 then A.h - b.y - b.h else 0)
    rw [decide_eq_false_iff_not]; split <;> omega
/-- what is free, by the law's own look, is what is free by gaps -/
theorem lfree_iff (s : Sd) (A : Ar) (b : Bx) (cs : List Bx) (m k : Int) (hk : 0 ≤ k) (hm : k ≤ m) (hb : b.pos) (hc : ∀ c ∈ cs, c.pos) : lfree s A b cs k = true ↔ k ≤ free s A b cs m := by
  have e1 : lfree s A b cs k = true ↔ (∀ c ∈ cs, ¬ hits s b k c = true) ∧ (k = 0 ∨ beyond s A (b.go s k) = false) := by
    unfold lfree
    rw [Bool.and_eq_true, Bool.or_eq_true, Bool.not_eq_true', List.any_eq_false, decide_eq_true_iff, Bool.not_eq_true']
  rw [e1, edge_iff s A b k hk]
  constructor
  · rintro ⟨h1, h2⟩
    have h3 := least_mem (x := m) (l := bgap s A b :: gaps s b cs)
    show k ≤ least m _
    rcases List.mem_cons.mp h3 with h | h
    · rw [h]; exact hm
    · rcases List.mem_cons.mp h with h | h
      · rw [h]; exact h2
      · obtain ⟨h4, h5⟩ := List.mem_filter.mp h
        obtain ⟨c, c1, c2, c3⟩ := (raw_mem s b _ cs).mp h4
        have h6 := h1 c c1
        rw [hits_iff s b c k hk hb (hc c c1)] at h6
        have h7 := of_decide_eq_true h5
        rw [c3] at h7 ⊢
        by_cases z : k ≤ gap s b c
        · exact z
        · exact absurd ⟨c2, h7, by omega⟩ h6
  · intro h
    have h0 := least_le (x := m) (l := bgap s A b :: gaps s b cs)
    refine ⟨fun c c1 h1 => ?_, Int.le_trans h (h0 _ (List.mem_cons_of_mem _ (List.mem_cons_self ..)))⟩
    rw [hits_iff s b c k hk hb (hc c c1)] at h1
    obtain ⟨h2, h3, h4⟩ := h1
    have h5 : gap s b c ∈ gaps s b cs := List.mem_filter.mpr ⟨(raw_mem s b _ cs).mpr ⟨c, c1, h2, rfl⟩, decide_eq_true h3⟩
    have h6 := h0 _ (List.mem_cons_of_mem _ (List.mem_cons_of_mem _ h5))
    have h7 : k ≤ least m (bgap s A b :: gaps s b cs) := h
    omega
end Kz
set_option Elab.async false
set_option linter.all false
set_option maxRecDepth 100000
set_option maxHeartbeats 4000000
set_option exponentiation.threshold 500
namespace Kz
open PySem PySem.Spec PyProof.Rows L2 Evl Vr
local macro_rules | `(tactic| walk_at "sc") => `(tactic| first | (with_reducible assumption) | (with_reducible exact sc_mul (by omega)) | (with_reducible exact sc_mulr (by omega)) | (with_reducible exact sc_div (by omega) (by decide)) | (show (0 : Int) < _; omega) | (show _ ≠ (0 : Int); omega) | (with_reducible rfl) | decide)
local macro_rules | `(tactic| walk_at "sq") => `(tactic| first | assumption | exact sq_of (by assumption) | exact st_of (by assumption))
local macro_rules | `(tactic| walk_at "pl") => `(tactic| first | assumption | exact pl_int | exact pl_bl | exact pl_str | exact pl_non | exact pl_lst (by assumption) | exact pl_tup (by assumption) | exact pl_dK (by assumption))
local macro_rules | `(tactic| walk_at "rv") => `(tactic| first
  | with_reducible exact rv_I0
  | with_reducible exact ru_neg
  | ((with_reducible apply rv_I); walk_at "sc")
  | ((with_reducible apply rv_ixL); walk_at "sq"; first | rfl | assumption)
  | ((with_reducible apply rv_ixT); walk_at "sq"; first | rfl | assumption)
  | ((with_reducible apply rv_eq); rfl) | ((with_reducible apply rv_ne); rfl))
local macro_rules | `(tactic| walk_at "rc") => `(tactic| first
  | with_reducible exact rc_I1 | with_reducible exact rc_B1 | with_reducible exact rc_I2 | ((with_reducible apply rc_repr); walk_at "sc") | ((with_reducible apply rc_lenL); walk_at "sq")
  | ((with_reducible apply rc_isiInt); walk_at "pl") | ((with_reducible apply rc_isiBool); walk_at "pl"))
local macro_rules | `(tactic| walk_at "ea") => `(tactic| first
  | with_reducible exact ea_nil | ((with_reducible apply ea_cons); walk_at "ev"; walk_at "ea"))
local macro_rules | `(tactic| walk_at "pow") => `(tactic| first
  | with_reducible exact ev_pow (a := 10) (b := 9) (c := 1000000000) (by decide +kernel) (by decide +kernel)
  | with_reducible exact ev_pow (a := 10) (b := 10) (c := 10000000000) (by decide +kernel) (by decide +kernel)
  | with_reducible exact ev_pow (a := 10) (b := 12) (c := 1000000000000) (by decide +kernel) (by decide +kernel)
  | with_reducible exact ev_pow (a := 10) (b := 17) (c := 100000000000000000) (by decide +kernel) (by decide +kernel)
  | with_reducible exact ev_pow (a := 10) (b := 20) (c := 100000000000000000000) (by decide +kernel) (by decide +kernel)
  | with_reducible exact ev_pow (a := 10) (b := 29) (c := 100000000000000000000000000000) (by decide +kernel) (by decide +kernel)
  | with_reducible exact ev_pow (a := 10) (b := 30) (c := 1000000000000000000000000000000) (by decide +kernel) (by decide +kernel)
  | with_reducible exact ev_pow (a := 10) (b := 40) (c := 10000000000000000000000000000000000000000) (by decide +kernel) (by decide +kernel)
  | with_reducible exact ev_pow (a := 10) (b := 57) (c := 1000000000000000000000000000000000000000000000000000000000) (by decide +kernel) (by decide +kernel)
  | with_reducible exact ev_pow (a := 10) (b := 58) (c := 10000000000000000000000000000000000000000000000000000000000) (by decide +kernel) (by decide +kernel)
  | with_reducible exact ev_pow (a := 10) (b := 59) (c := 100000000000000000000000000000000000000000000000000000000000) (by decide +kernel) (by decide +kernel)
  | with_reducible exact ev_pow (a := 10) (b := 60) (c := 1000000000000000000000000000000000000000000000000000000000000) (by decide +kernel) (by decide +kernel))
local macro_rules | `(tactic| walk_at "call") => `(tactic| (intro H9 e9; first | exact ⟨_, rfl, rfl⟩ | exact ⟨_, _, rfl, rfl⟩ | exact ⟨_, _, _, rfl, rfl⟩ | exact ⟨_, rfl, by walk_at "pl", rfl⟩ | (refine ⟨_, _, _, rfl, ?_, rfl⟩; first | exact Plain.ex e9 (by assumption) | walk_at "pl") | (refine ⟨_, rfl, ?_, rfl⟩; first | exact Plain.ex e9 (by assumption) | walk_at "pl")))
local macro_rules | `(tactic| walk_at "ev") => `(tactic| first
  | with_reducible exact ev_c
  | exact ev_var rfl
  | walk_at "pow"
  | ((with_reducible apply ev_op); walk_at "ev"; walk_at "ev"; walk_at "rv")
  | ((with_reducible apply ev_un); walk_at "ev"; walk_at "rv")
  | ((with_reducible apply ev_cb); walk_at "ea"; walk_at "rc")
  | ((with_reducible apply ev_callP); walk_at "ea"; walk_at "call")
  | ((with_reducible apply ev_chain); walk_at "ev"; walk_at "ev"; walk_at "rv"; walk_at "ev"; walk_at "rv")
  | ((with_reducible apply ev_andV); walk_at "ev"; intro _; walk_at "ev")
  | ((with_reducible apply ev_orV); walk_at "ev"; intro _; walk_at "ev")
  | ((with_reducible apply ev_ite); walk_at "et"; intro _; walk_at "ev"; intro _; walk_at "ev")
  | ((with_reducible apply ev_notV); walk_at "ev"))
local macro_rules | `(tactic| walk_at "et") => `(tactic| first
  | ((with_reducible apply et_test); walk_at "ev")
  | ((with_reducible apply et_B); walk_at "ev")
  | ((with_reducible apply et_and); walk_at "et"; intro _; walk_at "et")
  | ((with_reducible apply et_or); walk_at "et"; intro _; walk_at "et")
  | ((with_reducible apply et_not); walk_at "et"))
theorem free_le (s : Sd) (A : Ar) (b : Bx) (cs : List Bx) (m : Int) : free s A b cs m ≤ m := least_le _ (List.mem_cons_self ..)
theorem free_pos (s : Sd) (A : Ar) (b : Bx) (cs : List Bx) (m : Int) (h : 0 ≤ m) : 0 ≤ free s A b cs m := by
  have h3 := least_mem (x := m) (l := bgap s A b :: gaps s b cs)
  show 0 ≤ least m _
  rcases List.mem_cons.mp h3 with h1 | h1
  · rw [h1]; exact h
  · rcases List.mem_cons.mp h1 with h1 | h1
    · rw [h1]
      unfold bgap mx
      generalize (if s.wy = -1 then b.at s.ax else A.at s.ax - b.at s.ax - b.sz s.ax) = u
      split <;> omega
    · exact of_decide_eq_true (List.mem_filter.mp h1).2
section
variable {P : Program} {w : World} {K : PySem.W.Frag} {mg : Str → Option Value} {base : Heap}
def kLreach (K : PySem.W.Frag) (vs : List V) (H : Hp) (z : V) : Prop := ∃ (a p o : Addr) (A : Ar) (b : Bx) (cs : List Bx) (s : Sd) (m : Int), vs = [.ref a, .ref p, .ref o, .str s.n, .int m] ∧ SqT K H a A.v ∧ SqT K H p b.v ∧ Boxes K H o cs ∧ cs.length ≤ 1000 ∧ 0 ≤ m ∧ b.pos ∧ (∀ c ∈ cs, c.pos) ∧ z = .int (free s A b cs m)
theorem ok_lreach (T : Txt K mg w) : FnOk P w K mg base CX0 3 T.a_law_bo_reach T.fd_law_bo_reach ["arena", "box", "others", "side", "many"] (Pure (kLreach K)) := by
  have G_law_bo_is_free := ok_lfree (P := P) (w := w) (base := base) T
  refine T.F_law_bo_reach.ok sc_law_bo_reach (fun vs H Q E h => ?_) (fun cdv A outer s H vs Q E hr h => ?_)
  · obtain ⟨_, ⟨_, _, _, _, _, _, _, _, rfl, _⟩, _⟩ := h; rfl
  · obtain ⟨_, ⟨a, p, o, ar, b, cs, d, m, rfl, ha, hb, hC, hl, m0, bp, cp, rfl⟩, q⟩ := h
    refine ⟨_, (pss_cons (ps_par (i := 5) (j := 6) (by rfl) sc_law_bo_reach.nd rfl rfl (by decide) rfl rfl (pa_cons pe_int (pa_cons (pe_op op_add (pv 4) pe_int) pa_nil)) (by rfl))
  (pss_cons (ps_while PassesOwn.never (pt_cmpR op_gt (pe_op op_sub (pv 6) (pv 5)) pe_int (nomark _)) (pss_cons (ps_set (i := 7) sc_law_bo_reach.nd rfl (.inl rfl) (pe_op op_fdivW (pe_op op_add (pv 5) (pv 6)) pe_int))
  (pss_one (ps_if (pt_val (pe_call G_law_bo_is_free (hr.mono (by decide)) (by rfl) T.g_law_bo_is_free T.F_law_bo_is_free.kp T.b_law_bo_is_free .nil pass0 (pa_cons (pv 0) (pa_cons (pv 1) (pa_cons (pv 2) (pa_cons (pv 3) (pa_cons (pv 7) pa_nil))))))) (pss_one (ps_set (i := 5) sc_law_bo_reach.nd rfl (.inl rfl) (pv 7))) (pss_one (ps_set (i := 6) sc_law_bo_reach.nd rfl (.inl rfl) (pv 7)))))))
  (pss_one (ps_ret (pv 5))))), ?_⟩
    have f0 := free_pos d ar b cs m m0
    have f1 := free_le d ar b cs m
    have iff := fun k h0 h1 => lfree_iff d ar b cs m k h0 h1 bp cp
    generalize free d ar b cs m = F at *
    refine q_par (v1 := .int 0) (v2 := .int (m + 1)) (by walk_at "ea") fun H1 e1 => ?_
    refine q_while (fun n σ H' => ∃ (l u : Int) (z : Option V), σ = [some (.ref a), some (.ref p), some (.ref o), some (.str d.n), some (.int m), some (.int l), some (.int u), z] ∧ 0 ≤ l ∧ l ≤ F ∧ F < u ∧ u ≤ m + 1 ∧ n = (u - l).toNat ∧ Ex H H') (m + 1 - 0).toNat ⟨0, m + 1, none, rfl, by omega, f0, by omega, by omega, rfl, e1⟩ ?_
    rintro n σ H2 ⟨l, u, z, rfl, l0, l1, u0, u1, hn, e2⟩
    refine ⟨decide (u - l > 1), by walk_at "et", fun hd H3 e3 => ?_, fun hd H3 e3 => ?_⟩
    · have hd := of_decide_eq_true hd
      refine ⟨_, fun _ _ h => h, ?_⟩
      refine q_asg (v := .int ((l + u) / 2)) (by walk_at "ev") fun H4 e4 => ?_
      have e4 := (e2.trans e3).trans e4
      have h1 : l < (l + u) / 2 := by omega
      have h2 : (l + u) / 2 < u := by omega
      generalize (l + u) / 2 = hf at h1 h2
      have hi := iff hf (by omega) (by omega)
      refine s_if (b := lfree d ar b cs hf) (et_B (ev_callP (vs := [.ref a, .ref p, .ref o, .str d.n, .int hf]) (by walk_at "ea") fun H5 e5 => ⟨a, p, o, ar, b, cs, d, hf, rfl, ex_t (e4.trans e5) ha, ex_t (e4.trans e5) hb, hC.ex (e4.trans e5), hl, rfl⟩)) (fun hx H5 e5 => ?_) (fun hx H5 e5 => ?_)
      · have := hi.mp hx
        exact s_asg (ev_var rfl) fun H6 e6 => ⟨(u - hf).toNat, by omega, hf, u, _, rfl, by omega, this, u0, u1, rfl, (e4.trans e5).trans e6⟩
      · have : ¬ hf ≤ F := fun z => by rw [hi.mpr z] at hx; cases hx
        exact s_asg (ev_var rfl) fun H6 e6 => ⟨(hf - l).toNat, by omega, l, hf, _, rfl, l0, l1, by omega, by omega, rfl, (e4.trans e5).trans e6⟩
    · have hd := of_decide_eq_false hd
      have e : l = F := by omega
      subst e
      exact s_ret (ev_var rfl) fun H4 e4 => q H4 ((e2.trans e3).trans e4)
end
end Kz
set_option Elab.async false
set_option linter.all false
set_option maxRecDepth 100000
set_option maxHeartbeats 4000000
set_option exponentiation.threshold 500
namespace Kz
open PySem PySem.Spec PyProof.Rows L2 Evl Vr
local macro_rules | `(tactic| walk_at "sc") => `(tactic| first | (with_reducible assumption) | (with_reducible exact sc_mul (by omega)) | (with_reducible exact sc_mulr (by omega)) | (with_reducible exact sc_div (by omega) (by decide)) | (show (0 : Int) < _; omega) | (show _ ≠ (0 : Int); omega) | (with_reducible rfl) | decide)
local macro_rules | `(tactic| walk_at "sq") => `(tactic| first | assumption | exact sq_of (by assumption) | exact st_of (by assumption))
local macro_rules | `(tactic| walk_at "pl") => `(tactic| first | assumption | exact pl_int | exact pl_bl | exact pl_str | exact pl_non | exact pl_lst (by assumption) | exact pl_tup (by assumption) | exact pl_dK (by assumption))
local macro_rules | `(tactic| walk_at "rv") => `(tactic| first
  | with_reducible exact rv_I0
  | with_reducible exact ru_neg
  | ((with_reducible apply rv_I); walk_at "sc")
  | ((with_reducible apply rv_ixL); walk_at "sq"; first | rfl | assumption)
  | ((with_reducible apply rv_ixT); walk_at "sq"; first | rfl | assumption)
  | ((with_reducible apply rv_eq); rfl) | ((with_reducible apply rv_ne); rfl))
local macro_rules | `(tactic| walk_at "rc") => `(tactic| first
  | with_reducible exact rc_I1 | with_reducible exact rc_B1 | with_reducible exact rc_I2 | ((with_reducible apply rc_repr); walk_at "sc") | ((with_reducible apply rc_lenL); walk_at "sq")
  | ((with_reducible apply rc_isiInt); walk_at "pl") | ((with_reducible apply rc_isiBool); walk_at "pl"))
local macro_rules | `(tactic| walk_at "ea") => `(tactic| first
  | with_reducible exact ea_nil | ((with_reducible apply ea_cons); walk_at "ev"; walk_at "ea"))
local macro_rules | `(tactic| walk_at "pow") => `(tactic| first
  | with_reducible exact ev_pow (a := 10) (b := 9) (c := 1000000000) (by decide +kernel) (by decide +kernel)
  | with_reducible exact ev_pow (a := 10) (b := 10) (c := 10000000000) (by decide +kernel) (by decide +kernel)
  | with_reducible exact ev_pow (a := 10) (b := 12) (c := 1000000000000) (by decide +kernel) (by decide +kernel)
  | with_reducible exact ev_pow (a := 10) (b := 17) (c := 100000000000000000) (by decide +kernel) (by decide +kernel)
  | with_reducible exact ev_pow (a := 10) (b := 20) (c := 100000000000000000000) (by decide +kernel) (by decide +kernel)
  | with_reducible exact ev_pow (a := 10) (b := 29) (c := 100000000000000000000000000000) (by decide +kernel) (by decide +kernel)
  | with_reducible exact ev_pow (a := 10) (b := 30) (c := 1000000000000000000000000000000) (by decide +kernel) (by decide +kernel)
  | with_reducible exact ev_pow (a := 10) (b := 40) (c := 10000000000000000000000000000000000000000) (by decide +kernel) (by decide +kernel)
  | with_reducible exact ev_pow (a := 10) (b := 57) (c := 1000000000000000000000000000000000000000000000000000000000) (by decide +kernel) (by decide +kernel)
  | with_reducible exact ev_pow (a := 10) (b := 58) (c := 10000000000000000000000000000000000000000000000000000000000) (by decide +kernel) (by decide +kernel)
  | with_reducible exact ev_pow (a := 10) (b := 59) (c := 100000000000000000000000000000000000000000000000000000000000) (by decide +kernel) (by decide +kernel)
  | with_reducible exact ev_pow (a := 10) (b := 60) (c := 1000000000000000000000000000000000000000000000000000000000000) (by decide +kernel) (by decide +kernel))
local macro_rules | `(tactic| walk_at "call") => `(tactic| (intro H9 e9; first | exact ⟨_, rfl, rfl⟩ | exact ⟨_, _, rfl, rfl⟩ | exact ⟨_, _, _, rfl, rfl⟩ | exact ⟨_, rfl, by walk_at "pl", rfl⟩ | (refine ⟨_, _, _, rfl, ?_, rfl⟩; first | exact Plain.ex e9 (by assumption) | walk_at "pl") | (refine ⟨_, rfl, ?_, rfl⟩; first | exact Plain.ex e9 (by assumption) | walk_at "pl")))
local macro_rules | `(tactic| walk_at "ev") => `(tactic| first
  | with_reducible exact ev_c
  | exact ev_var rfl
  | walk_at "pow"
  | ((with_reducible apply ev_op); walk_at "ev"; walk_at "ev"; walk_at "rv")
  | ((with_reducible apply ev_un); walk_at "ev"; walk_at "rv")
  | ((with_reducible apply ev_cb); walk_at "ea"; walk_at "rc")
  | ((with_reducible apply ev_callP); walk_at "ea"; walk_at "call")
  | ((with_reducible apply ev_chain); walk_at "ev"; walk_at "ev"; walk_at "rv"; walk_at "ev"; walk_at "rv")
  | ((with_reducible apply ev_andV); walk_at "ev"; intro _; walk_at "ev")
  | ((with_reducible apply ev_orV); walk_at "ev"; intro _; walk_at "ev")
  | ((with_reducible apply ev_ite); walk_at "et"; intro _; walk_at "ev"; intro _; walk_at "ev")
  | ((with_reducible apply ev_notV); walk_at "ev"))
local macro_rules | `(tactic| walk_at "et") => `(tactic| first
  | ((with_reducible apply et_test); walk_at "ev")
  | ((with_reducible apply et_B); walk_at "ev")
  | ((with_reducible apply et_and); walk_at "et"; intro _; walk_at "et")
  | ((with_reducible apply et_or); walk_at "et"; intro _; walk_at "et")
  | ((with_reducible apply et_not); walk_at "et"))
theorem go_pos (s : Sd) (b : Bx) (u : Int) (h : b.pos) : (b.go s u).pos := by cases s <;> exact h
theorem ab_pos (i : Int) : 0 ≤ ab i := by unfold ab; split <;> omega
section
variable {P : Program} {w : World} {K : PySem.W.Frag} {mg : Str → Option Value} {base : Heap}
def kLmoved (K : PySem.W.Frag) (vs : List V) (H : Hp) (xs : List V) : Prop := ∃ (a p o : Addr) (A : Ar) (b : Bx) (cs : List Bx) (dx dy : Int), vs = [.ref a, .ref p, .ref o, .int dx, .int dy] ∧ SqT K H a A.v ∧ SqT K H p b.v ∧ Boxes K H o cs ∧ cs.length ≤ 1000 ∧ b.pos ∧ (∀ c ∈ cs, c.pos) ∧ xs = (movB A b cs dx dy).v
theorem ok_lmoved (T : Txt K mg w) : FnOk P w K mg base CX0 4 T.a_law_bo_moved T.fd_law_bo_moved ["arena", "box", "others", "dx", "dy"] (Tupd (kLmoved K)) := by
  have G_law_bo_put := ok_put (P := P) (w := w) (base := base) T
  have G_law_bo_reach := ok_lreach (P := P) (w := w) (base := base) T
  refine T.F_law_bo_moved.ok sc_law_bo_moved (fun vs H Q E h => ?_) (fun cdv A outer s H vs Q E hr h => ?_)
  · obtain ⟨_, ⟨_, _, _, _, _, _, _, _, rfl, _⟩, _⟩ := h; rfl
  · obtain ⟨_, ⟨a, p, o, ar, b, cs, dx, dy, rfl, ha, hb, hC, hl, bp, cp, rfl⟩, q⟩ := h
    refine ⟨_, (pss_cons (ps_set (i := 5) sc_law_bo_moved.nd rfl (.inl rfl) (pe_ifExp (pt_cmpR op_lt (pv 3) pe_int (nomark _)) pe_str pe_str))
  (pss_cons (ps_set (i := 1) sc_law_bo_moved.nd rfl (.inl rfl) (pe_call G_law_bo_put (hr.mono (by decide)) (by rfl) T.g_law_bo_put T.F_law_bo_put.kp T.b_law_bo_put .nil pass0 (pa_cons (pv 1) (pa_cons (pv 5) (pa_cons (pe_call G_law_bo_reach (hr.mono (by decide)) (by rfl) T.g_law_bo_reach T.F_law_bo_reach.kp T.b_law_bo_reach .nil pass0 (pa_cons (pv 0) (pa_cons (pv 1) (pa_cons (pv 2) (pa_cons (pv 5) (pa_cons (pe_callB c_abs (by rfl) T.z_abs (by decide +kernel) (pa_cons (pv 3) pa_nil)) pa_nil)))))) pa_nil)))))
  (pss_cons (ps_set (i := 5) sc_law_bo_moved.nd rfl (.inl rfl) (pe_ifExp (pt_cmpR op_lt (pv 4) pe_int (nomark _)) pe_str pe_str))
  (pss_one (ps_ret (pe_call G_law_bo_put (hr.mono (by decide)) (by rfl) T.g_law_bo_put T.F_law_bo_put.kp T.b_law_bo_put .nil pass0 (pa_cons (pv 1) (pa_cons (pv 5) (pa_cons (pe_call G_law_bo_reach (hr.mono (by decide)) (by rfl) T.g_law_bo_reach T.F_law_bo_reach.kp T.b_law_bo_reach .nil pass0 (pa_cons (pv 0) (pa_cons (pv 1) (pa_cons (pv 2) (pa_cons (pv 5) (pa_cons (pe_callB c_abs (by rfl) T.z_abs (by decide +kernel) (pa_cons (pv 4) pa_nil)) pa_nil)))))) pa_nil))))))))), ?_⟩
    refine q_asg (v := .str (sdX dx).n) (ev_if (b := decide (dx < 0)) (by walk_at "et") (fun hw => ?_) (fun hw => ?_)) fun H1 e1 => ?_
    · unfold sdX; rw [if_pos (of_decide_eq_true hw)]; exact ev_c
    · unfold sdX; rw [if_neg (of_decide_eq_false hw)]; exact ev_c
    refine q_asgU (xs := (midB ar b cs dx).v) (eu_callT (vs := [.ref p, .str (sdX dx).n, .int (free (sdX dx) ar b cs (ab dx))]) (ea_cons (ev_var rfl) (ea_cons (ev_var rfl) (ea_cons (ev_callP (vs := [.ref a, .ref p, .ref o, .str (sdX dx).n, .int (ab dx)]) (by walk_at "ea") fun H2 e2 => ⟨a, p, o, ar, b, cs, sdX dx, _, rfl, ex_t (e1.trans e2) ha, ex_t (e1.trans e2) hb, hC.ex (e1.trans e2), hl, ab_pos dx, bp, cp, rfl⟩) ea_nil))) fun H2 e2 => ⟨p, b, sdX dx, _, rfl, ex_t (e1.trans e2) hb, rfl⟩) fun g H2 hg e2 h2 => ?_
    have e2 := e1.trans e2
    refine q_asg (v := .str (sdY dy).n) (ev_if (b := decide (dy < 0)) (by walk_at "et") (fun hw => ?_) (fun hw => ?_)) fun H3 e3 => ?_
    · unfold sdY; rw [if_pos (of_decide_eq_true hw)]; exact ev_c
    · unfold sdY; rw [if_neg (of_decide_eq_false hw)]; exact ev_c
    have h3 := e3 _ _ h2
    have e3 := e2.trans e3
    refine s_retU (xs := (movB ar b cs dx dy).v) (eu_callT (vs := [.ref g, .str (sdY dy).n, .int (free (sdY dy) ar (midB ar b cs dx) cs (ab dy))]) (ea_cons (ev_var rfl) (ea_cons (ev_var rfl) (ea_cons (ev_callP (vs := [.ref a, .ref g, .ref o, .str (sdY dy).n, .int (ab dy)]) (by walk_at "ea") fun H4 e4 => ⟨a, g, o, ar, midB ar b cs dx, cs, sdY dy, _, rfl, ex_t (e3.trans e4) ha, st_of (e4 _ _ h3), hC.ex (e3.trans e4), hl, ab_pos dy, go_pos _ _ _ bp, cp, rfl⟩) ea_nil))) fun H4 e4 => ⟨g, midB ar b cs dx, sdY dy, _, rfl, st_of (e4 _ _ h3), rfl⟩) fun g2 H4 hp e4 h4 => q g2 H4 (fresh_back e3 hp) (e3.trans e4) h4
end
end Kz
set_option Elab.async false
set_option linter.all false
set_option maxRecDepth 100000
set_option maxHeartbeats 4000000
set_option exponentiation.threshold 500
namespace Kz
open PySem PySem.Spec PyProof.Rows L2 Evl Vr
theorem meet_iff (b c : Bx) (hb : b.pos) (hc : c.pos) : meet 0 b c = true ↔ (b.x < c.x + c.w ∧ c.x < b.x + b.w) ∧ (b.y < c.y + c.h ∧ c.y < b.y + b.h) := by
  unfold meet
  rw [Bool.and_eq_true, share_iff 0 b c hb.1 hc.1, share_iff 1 b c hb.2 hc.2]
  exact Iff.rfl
theorem go_go (s : Sd) (b : Bx) (g : Int) : (b.go s g).go s 1 = b.go s (g + 1) := by
  cases s <;> simp only [Bx.go, Sd.ax, Sd.wy, if_true, Bx.mk.injEq, true_and, and_true, if_false, Nat.one_ne_zero] <;> omega
theorem bars_iff (s : Sd) (b c : Bx) (g : Int) (hb : b.pos) (hc : c.pos) : bars s (b.go s g) c = true ↔ share (1 - s.ax) 0 b c = true ∧ gap s b c = g := by
  have hb' := hb
  have hc' := hc
  obtain ⟨b1, b2⟩ := hb'
  obtain ⟨c1, c2⟩ := hc'
  have hs := share_iff (1 - s.ax) b c (by cases s <;> first | exact b2 | exact b1) (by cases s <;> first | exact c2 | exact c1)
  rw [hs]
  unfold bars
  rw [Bool.and_eq_true, Bool.not_eq_true', ← Bool.not_eq_true, go_go, meet_iff _ _ (go_pos _ _ _ hb) hc, meet_iff _ _ (go_pos _ _ _ hb) hc]
  cases s
  · show ((b.x + -1 * (g + 1) < c.x + c.w ∧ c.x < b.x + -1 * (g + 1) + b.w) ∧ (b.y < c.y + c.h ∧ c.y < b.y + b.h)) ∧ ¬((b.x + -1 * g < c.x + c.w ∧ c.x < b.x + -1 * g + b.w) ∧ (b.y < c.y + c.h ∧ c.y < b.y + b.h)) ↔ (b.y < c.y + c.h ∧ c.y < b.y + b.h) ∧ b.x - c.x - c.w = g
    omega
  · show ((b.x + 1 * (g + 1) < c.x + c.w ∧ c.x < b.x + 1 * (g + 1) + b.w) ∧ (b.y < c.y + c.h ∧ c.y < b.y + b.h)) ∧ ¬((b.x + 1 * g < c.x + c.w ∧ c.x < b.x + 1 * g + b.w) ∧ (b.y < c.y + c.h ∧ c.y < b.y + b.h)) ↔ (b.y < c.y + c.h ∧ c.y < b.y + b.h) ∧ c.x - b.x - b.w = g
    omega
  · show ((b.x < c.x + c.w ∧ c.x < b.x + b.w) ∧ (b.y + -1 * (g + 1) < c.y + c.h ∧ c.y < b.y + -1 * (g + 1) + b.h)) ∧ ¬((b.x < c.x + c.w ∧ c.x < b.x + b.w) ∧ (b.y + -1 * g < c.y + c.h ∧ c.y < b.y + -1 * g + b.h)) ↔ (b.x < c.x + c.w ∧ c.x < b.x + b.w) ∧ b.y - c.y - c.h = g
    omega
  · show ((b.x < c.x + c.w ∧ c.x < b.x + b.w) ∧ (b.y + 1 * (g + 1) < c.y + c.h ∧ c.y < b.y + 1 * (g + 1) + b.h)) ∧ ¬((b.x < c.x + c.w ∧ c.x < b.x + b.w) ∧ (b.y + 1 * g < c.y + c.h ∧ c.y < b.y + 1 * g + b.h)) ↔ (b.x < c.x + c.w ∧ c.x < b.x + b.w) ∧ c.y - b.y - b.h = g
    omega
theorem ahead_iff (s : Sd) (A : Ar) (b : Bx) (g : Int) (hg : 0 ≤ g) : ahead s A (b.go s g) = true ↔ ¬ g + 1 ≤ bgap s A b := by
  have e : ahead s A (b.go s g) = beyond s A (b.go s (g + 1)) := by
    unfold ahead beyond
    rw [go_go]
  have h := edge_iff s A b (g + 1) (by omega)
  rw [e, ← h]
  cases beyond s A (b.go s (g + 1)) with
  | true => simp; omega
  | false => simp
theorem barred_iff (s : Sd) (A : Ar) (b : Bx) (cs : List Bx) (m g : Int) (hg : 0 ≤ g) (hm : g + 1 ≤ m) (hf : g ≤ free s A b cs m) (hb : b.pos) (hc : ∀ c ∈ cs, c.pos) : barred s A (b.go s g) cs = true ↔ ¬ g + 1 ≤ free s A b cs m := by
  unfold barred
  rw [Bool.or_eq_true, ahead_iff s A b g hg, List.any_eq_true]
  have h0 := least_le (x := m) (l := bgap s A b :: gaps s b cs)
  have h3 := least_mem (x := m) (l := bgap s A b :: gaps s b cs)
  change g ≤ least m (bgap s A b :: gaps s b cs) at hf
  show _ ↔ ¬ g + 1 ≤ least m (bgap s A b :: gaps s b cs)
  constructor
  · rintro (h | ⟨c, c1, c2⟩) z
    · have := h0 _ (List.mem_cons_of_mem _ (List.mem_cons_self ..))
      omega
    · rw [bars_iff s b c g hb (hc c c1)] at c2
      have h5 : gap s b c ∈ gaps s b cs := List.mem_filter.mpr ⟨(raw_mem s b _ cs).mpr ⟨c, c1, c2.1, rfl⟩, decide_eq_true (by omega)⟩
      have := h0 _ (List.mem_cons_of_mem _ (List.mem_cons_of_mem _ h5))
      omega
  · intro z
    rcases List.mem_cons.mp h3 with h | h
    · omega
    · rcases List.mem_cons.mp h with h | h
      · exact .inl (by omega)
      · obtain ⟨h4, h5⟩ := List.mem_filter.mp h
        obtain ⟨c, c1, c2, c3⟩ := (raw_mem s b _ cs).mp h4
        exact .inr ⟨c, c1, (bars_iff s b c g hb (hc c c1)).mpr ⟨c2, by omega⟩⟩
theorem steps_free (s : Sd) (A : Ar) (b : Bx) (cs : List Bx) (m : Int) (hb : b.pos) (hc : ∀ c ∈ cs, c.pos) : ∀ (n g : Nat), (g : Int) + n = m → (g : Int) ≤ free s A b cs m → ((stepsB s A b cs n g : Nat) : Int) = free s A b cs m
  | 0, g, h, h1 => by
    have := free_le s A b cs m
    show (g : Int) = _
    omega
  | n + 1, g, h, h1 => by
    have hi := barred_iff s A b cs m g (by omega) (by omega) h1 hb hc
    show ((if barred s A (b.go s g) cs = true then g else stepsB s A b cs n (g + 1) : Nat) : Int) = _
    split
    · rename_i hx
      have := hi.mp hx
      omega
    · rename_i hx
      have h2 : (g : Int) + 1 ≤ free s A b cs m := by
        by_cases z : (g : Int) + 1 ≤ free s A b cs m
        · exact z
        · exact absurd (hi.mpr z) hx
      exact steps_free s A b cs m hb hc n (g + 1) (by omega) (by omega)
theorem units_free_eq (s : Sd) (A : Ar) (b : Bx) (cs : List Bx) (m : Nat) (hb : b.pos) (hc : ∀ c ∈ cs, c.pos) : ((stepsB s A b cs m 0 : Nat) : Int) = free s A b cs m := steps_free s A b cs m hb hc m 0 (by omega) (free_pos s A b cs m (by omega))
end Kz
set_option Elab.async false
set_option linter.all false
set_option maxRecDepth 100000
set_option maxHeartbeats 4000000
set_option exponentiation.threshold 500
namespace Kz
open PySem PySem.Spec PyProof.Rows L2 Evl Vr
local macro_rules | `(tactic| walk_at "sc") => `(tactic| first | (with_reducible assumption) | (with_reducible exact sc_mul (by omega)) | (with_reducible exact sc_mulr (by omega)) | (with_reducible exact sc_div (by omega) (by decide)) | (show (0 : Int) < _; omega) | (show _ ≠ (0 : Int); omega) | (with_reducible rfl) | decide)
local macro_rules | `(tactic| walk_at "sq") => `(tactic| first | assumption | exact sq_of (by assumption) | exact st_of (by assumption))
local macro_rules | `(tactic| walk_at "pl") => `(tactic| first | assumption | exact pl_int | exact pl_bl | exact pl_str | exact pl_non | exact pl_lst (by assumption) | exact pl_tup (by assumption) | exact pl_dK (by assumption))
local macro_rules | `(tactic| walk_at "rv") => `(tactic| first
  | with_reducible exact rv_I0
  | with_reducible exact ru_neg
  | ((with_reducible apply rv_I); walk_at "sc")
  | ((with_reducible apply rv_ixL); walk_at "sq"; first | rfl | assumption)
  | ((with_reducible apply rv_ixT); walk_at "sq"; first | rfl | assumption)
  | ((with_reducible apply rv_eq); rfl) | ((with_reducible apply rv_ne); rfl))
local macro_rules | `(tactic| walk_at "rc") => `(tactic| first
  | with_reducible exact rc_I1 | with_reducible exact rc_B1 | with_reducible exact rc_I2 | ((with_reducible apply rc_repr); walk_at "sc") | ((with_reducible apply rc_lenL); walk_at "sq")
  | ((with_reducible apply rc_isiInt); walk_at "pl") | ((with_reducible apply rc_isiBool); walk_at "pl"))
local macro_rules | `(tactic| walk_at "ea") => `(tactic| first
  | with_reducible exact ea_nil | ((with_reducible apply ea_cons); walk_at "ev"; walk_at "ea"))
local macro_rules | `(tactic| walk_at "pow") => `(tactic| first
  | with_reducible exact ev_pow (a := 10) (b := 9) (c := 1000000000) (by decide +kernel) (by decide +kernel)
  | with_reducible exact ev_pow (a := 10) (b := 10) (c := 10000000000) (by decide +kernel) (by decide +kernel)
  | with_reducible exact ev_pow (a := 10) (b := 12) (c := 1000000000000) (by decide +kernel) (by decide +kernel)
  | with_reducible exact ev_pow (a := 10) (b := 17) (c := 100000000000000000) (by decide +kernel) (by decide +kernel)
  | with_reducible exact ev_pow (a := 10) (b := 20) (c := 100000000000000000000) (by decide +kernel) (by decide +kernel)
  | with_reducible exact ev_pow (a := 10) (b := 29) (c := 100000000000000000000000000000) (by decide +kernel) (by decide +kernel)
  | with_reducible exact ev_pow (a := 10) (b := 30) (c := 1000000000000000000000000000000) (by decide +kernel) (by decide +kernel)
  | with_reducible exact ev_pow (a := 10) (b := 40) (c := 10000000000000000000000000000000000000000) (by decide +kernel) (by decide +kernel)
  | with_reducible exact ev_pow (a := 10) (b := 57) (c := 1000000000000000000000000000000000000000000000000000000000) (by decide +kernel) (by decide +kernel)
  | with_reducible exact ev_pow (a := 10) (b := 58) (c := 10000000000000000000000000000000000000000000000000000000000) (by decide +kernel) (by decide +kernel)
  | with_reducible exact ev_pow (a := 10) (b := 59) (c := 100000000000000000000000000000000000000000000000000000000000) (by decide +kernel) (by decide +kernel)
  | with_reducible exact ev_pow (a := 10) (b := 60) (c := 1000000000000000000000000000000000000000000000000000000000000) (by decide +kernel) (by decide +kernel))
local macro_rules | `(tactic| walk_at "call") => `(tactic| (intro H9 e9; first | exact ⟨_, rfl, rfl⟩ | exact ⟨_, _, rfl, rfl⟩ | exact ⟨_, _, _, rfl, rfl⟩ | exact ⟨_, rfl, by walk_at "pl", rfl⟩ | (refine ⟨_, _, _, rfl, ?_, rfl⟩; first | exact Plain.ex e9 (by assumption) | walk_at "pl") | (refine ⟨_, rfl, ?_, rfl⟩; first | exact Plain.ex e9 (by assumption) | walk_at "pl")))
local macro_rules | `(tactic| walk_at "ev") => `(tactic| first
  | with_reducible exact ev_c
  | exact ev_var rfl
  | walk_at "pow"
  | ((with_reducible apply ev_op); walk_at "ev"; walk_at "ev"; walk_at "rv")
  | ((with_reducible apply ev_un); walk_at "ev"; walk_at "rv")
  | ((with_reducible apply ev_cb); walk_at "ea"; walk_at "rc")
  | ((with_reducible apply ev_callP); walk_at "ea"; walk_at "call")
  | ((with_reducible apply ev_chain); walk_at "ev"; walk_at "ev"; walk_at "rv"; walk_at "ev"; walk_at "rv")
  | ((with_reducible apply ev_andV); walk_at "ev"; intro _; walk_at "ev")
  | ((with_reducible apply ev_orV); walk_at "ev"; intro _; walk_at "ev")
  | ((with_reducible apply ev_ite); walk_at "et"; intro _; walk_at "ev"; intro _; walk_at "ev")
  | ((with_reducible apply ev_notV); walk_at "ev"))
local macro_rules | `(tactic| walk_at "et") => `(tactic| first
  | ((with_reducible apply et_test); walk_at "ev")
  | ((with_reducible apply et_B); walk_at "ev")
  | ((with_reducible apply et_and); walk_at "et"; intro _; walk_at "et")
  | ((with_reducible apply et_or); walk_at "et"; intro _; walk_at "et")
  | ((with_reducible apply et_not); walk_at "et"))
def NumV (v : V) : Prop := ∃ n : Int, v = .int n ∧ num n
def kOne (R' : V → Prop) (vs : List V) (_ : Hp) (p : Addr) (R : V → Prop) : Prop := vs = [.ref p] ∧ R = R'
def kOneI (R' : V → Prop) (vs : List V) (_ : Hp) (p : Addr) (R : V → Prop) : Prop := ∃ m : Int, vs = [.ref p, .int m] ∧ 0 ≤ m ∧ m ≤ 400 ∧ R = R'
theorem dv_roll {p : Addr} {σ : L2.St} {H : Hp} {ta : TE} {m : Int} {i : Nat} (hs : σ[i]? = some (some (.ref p))) (ha : ∀ H1, Ev ta σ H1 (.int m)) (h0 : 0 < m) (h1 : m.natAbs < 2 ^ 400) : Dv p (tCall (Draws kRoll) [] E0 (tCons (tVar i) (tCons ta tNil))) σ H (fun v => ∃ r : Int, v = .int r ∧ 0 ≤ r ∧ r < m) :=
  dv_call (vs := [.ref p, .int m]) (fun H1 _ _ => ea_cons (ev_var hs) (ea_cons (ha H1) ea_nil)) (fun H1 _ _ => ⟨m, rfl, h0, h1, rfl⟩)
def grow (g : Int) (b : Bx) : Bx := ⟨b.x - g, b.y - g, b.w + 2 * g, b.h + 2 * g⟩
section
variable {P : Program} {w : World} {K : PySem.W.Frag} {mg : Str → Option Value} {base : Heap}
def kGrown (K : PySem.W.Frag) (vs : List V) (H : Hp) (xs : List V) : Prop := ∃ (p : Addr) (b : Bx) (g : Int), vs = [.ref p, .int g] ∧ SqT K H p b.v ∧ xs = (grow g b).v
theorem ok_grown (T : Txt K mg w) : FnOk P w K mg base CX0 1 T.a_law_bo_grown T.fd_law_bo_grown ["box", "grown_here"] (Tupd (kGrown K)) := by
  refine T.F_law_bo_grown.ok sc_law_bo_grown (fun vs H Q E h => ?_) (fun cdv A outer s H vs Q E hr h => ?_)
  · obtain ⟨_, ⟨_, _, _, rfl, _⟩, _⟩ := h; rfl
  · obtain ⟨_, ⟨p, b, g, rfl, hb, rfl⟩, q⟩ := h
    refine ⟨_, (pss_one (ps_ret (pe_tup (pa_cons (pe_op op_sub (pe_ix ix_tup (pv 0) pe_int (fun _ _ => rfl)) (pv 1)) (pa_cons (pe_op op_sub (pe_ix ix_tup (pv 0) pe_int (fun _ _ => rfl)) (pv 1)) (pa_cons (pe_op op_add (pe_ix ix_tup (pv 0) pe_int (fun _ _ => rfl)) (pe_op op_mul pe_int (pv 1))) (pa_cons (pe_op op_add (pe_ix ix_tup (pv 0) pe_int (fun _ _ => rfl)) (pe_op op_mul pe_int (pv 1))) pa_nil))))))), ?_⟩
    have i0 : atI b.v 0 = some (.int b.x) := rfl
    have i1 : atI b.v 1 = some (.int b.y) := rfl
    have i2 : atI b.v 2 = some (.int b.w) := rfl
    have i3 : atI b.v 3 = some (.int b.h) := rfl
    have m1 : CMul (2 : Int) g := .inl (by decide)
    exact s_retU (xs := [.int (b.x - g), .int (b.y - g), .int (b.w + 2 * g), .int (b.h + 2 * g)]) (eu_tup (by walk_at "ea") (by show 4 ≤ 100000; decide)) fun r H1 hr e1 h1 => q r H1 hr e1 h1
theorem ok_pace (T : Txt K mg w) : FnOk P w K mg base CX0 3 T.a_law_bo_pace T.fd_law_bo_pace ["dice"] (Draws (kOne NumV)) := by
  have G_law_roll := ok_roll (P := P) (w := w) (base := base) T
  have G_law_pick := ok_pick (P := P) (w := w) (base := base) T
  refine T.F_law_bo_pace.ok sc_law_bo_pace (fun vs H Q E h => ?_) (fun cdv A outer s H vs Q E hr h => ?_)
  · obtain ⟨p, _, ⟨rfl, _⟩, _⟩ := h; rfl
  · obtain ⟨p, _, ⟨rfl, rfl⟩, hd, q⟩ := h
    refine ⟨_, (pss_cons (ps_set (i := 1) sc_law_bo_pace.nd rfl (.inl rfl) (pe_call G_law_roll (hr.mono (by decide)) (by rfl) T.g_law_roll T.F_law_roll.kp T.b_law_roll .nil pass0 (pa_cons (pv 0) (pa_cons pe_int pa_nil))))
  (pss_cons (ps_if (pt_cmpR op_eq (pv 1) pe_int (nomark _)) (pss_one (ps_ret (pe_call G_law_pick (hr.mono (by decide)) (by rfl) T.g_law_pick T.F_law_pick.kp T.b_law_pick .nil pass0 (pa_cons (pv 0) (pa_cons (pe_lst (pa_cons (pe_op op_pow pe_int pe_int) (pa_cons (pe_un un_neg (pe_op op_pow pe_int pe_int)) (pa_cons pe_int pa_nil)))) pa_nil))))) pss_nil)
  (pss_one (ps_ret (pe_op op_sub (pe_call G_law_roll (hr.mono (by decide)) (by rfl) T.g_law_roll T.F_law_roll.kp T.b_law_roll .nil pass0 (pa_cons (pv 0) (pa_cons pe_int pa_nil))) pe_int))))), ?_⟩
    refine q_asgDv (dv_roll (p := p) (m := 8) (i := 0) rfl (fun H1 => ev_c) (by decide) (by decide)) hd fun v H1 hv e1 d1 => ?_
    obtain ⟨way, rfl, hw0, hw1⟩ := hv
    refine q_when (b := decide (V.int way = V.int 0)) (by walk_at "et") (fun hc H2 e2 => ?_) (fun hc H2 e2 => ?_)
    · refine s_retDv (p := p) (R := NumV) ((dv_pickL (xs := [.int 1000000000, .int (-1000000000), .int 999]) (R := fun v => v ∈ [V.int 1000000000, .int (-1000000000), .int 999]) rfl (fun H1 _ _ => el_lst (by walk_at "ea") (by decide)) (fun l H1 _ _ hl h => ⟨l, _, rfl, hl, sq_of h, by decide, by decide, rfl⟩)).mono fun v hv => ?_) (d1.ex e2) fun v H3 hv e3 d3 => q v H3 hv ((e1.trans (Exd.of e2)).trans e3) d3
      simp only [List.mem_cons, List.not_mem_nil, or_false] at hv
      rcases hv with rfl | rfl | rfl
      · exact ⟨_, rfl, by decide, by decide⟩
      · exact ⟨_, rfl, by decide, by decide⟩
      · exact ⟨_, rfl, by decide, by decide⟩
    · refine s_retDv (p := p) (R := NumV) (dv_op (R1 := fun v => ∃ r : Int, v = .int r ∧ 0 ≤ r ∧ r < 15) (R2' := fun v => v = .int 7) (dv_roll (m := 15) rfl (fun H1 => ev_c) (by decide) (by decide)) (dv_c rfl) ?_) (d1.ex e2) fun v H3 hv e3 d3 => q v H3 hv ((e1.trans (Exd.of e2)).trans e3) d3
      rintro x y H4 ⟨r, rfl, h0, h1⟩ rfl
      exact ⟨_, rv_I0, _, rfl, by unfold num; omega⟩
theorem ok_number (T : Txt K mg w) : FnOk P w K mg base CX0 3 T.a_law_bo_number T.fd_law_bo_number ["dice", "most"] (Draws (kOneI NumV)) := by
  have G_law_roll := ok_roll (P := P) (w := w) (base := base) T
  have G_law_pick := ok_pick (P := P) (w := w) (base := base) T
  refine T.F_law_bo_number.ok sc_law_bo_number (fun vs H Q E h => ?_) (fun cdv A outer s H vs Q E hr h => ?_)
  · obtain ⟨p, _, ⟨_, rfl, _⟩, _⟩ := h; rfl
  · obtain ⟨p, _, ⟨m, rfl, m0, m1, rfl⟩, hd, q⟩ := h
    refine ⟨_, (pss_cons (ps_set (i := 2) sc_law_bo_number.nd rfl (.inl rfl) (pe_call G_law_roll (hr.mono (by decide)) (by rfl) T.g_law_roll T.F_law_roll.kp T.b_law_roll .nil pass0 (pa_cons (pv 0) (pa_cons pe_int pa_nil))))
  (pss_cons (ps_if (pt_cmpR op_eq (pv 2) pe_int (nomark _)) (pss_one (ps_ret (pe_call G_law_pick (hr.mono (by decide)) (by rfl) T.g_law_pick T.F_law_pick.kp T.b_law_pick .nil pass0 (pa_cons (pv 0) (pa_cons (pe_lst (pa_cons (pe_op op_pow pe_int pe_int) (pa_cons (pe_un un_neg (pe_op op_pow pe_int pe_int)) (pa_cons (pe_op op_sub (pe_op op_pow pe_int pe_int) pe_int) (pa_cons pe_int (pa_cons (pe_un un_neg pe_int) pa_nil)))))) pa_nil))))) pss_nil)
  (pss_one (ps_ret (pe_op op_sub (pe_call G_law_roll (hr.mono (by decide)) (by rfl) T.g_law_roll T.F_law_roll.kp T.b_law_roll .nil pass0 (pa_cons (pv 0) (pa_cons (pe_op op_add (pv 1) pe_int) pa_nil))) pe_int))))), ?_⟩
    refine q_asgDv (dv_roll (p := p) (m := 14) (i := 0) rfl (fun H1 => ev_c) (by decide) (by decide)) hd fun v H1 hv e1 d1 => ?_
    obtain ⟨way, rfl, hw0, hw1⟩ := hv
    refine q_when (b := decide (V.int way = V.int 0)) (by walk_at "et") (fun hc H2 e2 => ?_) (fun hc H2 e2 => ?_)
    · refine s_retDv (p := p) (R := NumV) ((dv_pickL (xs := [.int 1000000000, .int (-1000000000), .int (1000000000 - 3), .int 1000, .int (-777)]) (R := fun v => v ∈ [V.int 1000000000, .int (-1000000000), .int (1000000000 - 3), .int 1000, .int (-777)]) rfl (fun H1 _ _ => el_lst (by walk_at "ea") (by decide)) (fun l H1 _ _ hl h => ⟨l, _, rfl, hl, sq_of h, by decide, by decide, rfl⟩)).mono fun v hv => ?_) (d1.ex e2) fun v H3 hv e3 d3 => q v H3 hv ((e1.trans (Exd.of e2)).trans e3) d3
      simp only [List.mem_cons, List.not_mem_nil, or_false] at hv
      rcases hv with rfl | rfl | rfl | rfl | rfl <;> exact ⟨_, rfl, by decide, by decide⟩
    · refine s_retDv (p := p) (R := NumV) (dv_op (R1 := fun v => ∃ r : Int, v = .int r ∧ 0 ≤ r ∧ r < m + 9) (R2' := fun v => v = .int 4) (dv_roll (m := m + 9) rfl (fun H1 => by walk_at "ev") (by omega) (by omega)) (dv_c rfl) ?_) (d1.ex e2) fun v H3 hv e3 d3 => q v H3 hv ((e1.trans (Exd.of e2)).trans e3) d3
      rintro x y H4 ⟨r, rfl, h0, h1⟩ rfl
      exact ⟨_, rv_I0, _, rfl, by unfold num; omega⟩
end
end Kz
set_option Elab.async false
set_option linter.all false
set_option maxRecDepth 100000
set_option maxHeartbeats 4000000
set_option exponentiation.threshold 500
namespace Kz
open PySem PySem.Spec PyProof.Rows L2 Evl Vr
local macro_rules | `(tactic| walk_at "sc") => `(tactic| first | (with_reducible assumption) | (with_reducible exact sc_mul (by omega)) | (with_reducible exact sc_mulr (by omega)) | (with_reducible exact sc_div (by omega) (by decide)) | (show (0 : Int) < _; omega) | (show _ ≠ (0 : Int); omega) | (with_reducible rfl) | decide)
local macro_rules | `(tactic| walk_at "sq") => `(tactic| first | assumption | exact sq_of (by assumption) | exact st_of (by assumption))
local macro_rules | `(tactic| walk_at "pl") => `(tactic| first | assumption | exact pl_int | exact pl_bl | exact pl_str | exact pl_non | exact pl_lst (by assumption) | exact pl_tup (by assumption) | exact pl_dK (by assumption))
local macro_rules | `(tactic| walk_at "rv") => `(tactic| first
  | with_reducible exact rv_I0
  | with_reducible exact ru_neg
  | ((with_reducible apply rv_I); walk_at "sc")
  | ((with_reducible apply rv_ixL); walk_at "sq"; first | rfl | assumption)
  | ((with_reducible apply rv_ixT); walk_at "sq"; first | rfl | assumption)
  | ((with_reducible apply rv_eq); rfl) | ((with_reducible apply rv_ne); rfl))
local macro_rules | `(tactic| walk_at "rc") => `(tactic| first
  | with_reducible exact rc_I1 | with_reducible exact rc_B1 | with_reducible exact rc_I2 | ((with_reducible apply rc_repr); walk_at "sc") | ((with_reducible apply rc_lenL); walk_at "sq")
  | ((with_reducible apply rc_isiInt); walk_at "pl") | ((with_reducible apply rc_isiBool); walk_at "pl"))
local macro_rules | `(tactic| walk_at "ea") => `(tactic| first
  | with_reducible exact ea_nil | ((with_reducible apply ea_cons); walk_at "ev"; walk_at "ea"))
local macro_rules | `(tactic| walk_at "pow") => `(tactic| first
  | with_reducible exact ev_pow (a := 10) (b := 9) (c := 1000000000) (by decide +kernel) (by decide +kernel)
  | with_reducible exact ev_pow (a := 10) (b := 10) (c := 10000000000) (by decide +kernel) (by decide +kernel)
  | with_reducible exact ev_pow (a := 10) (b := 12) (c := 1000000000000) (by decide +kernel) (by decide +kernel)
  | with_reducible exact ev_pow (a := 10) (b := 17) (c := 100000000000000000) (by decide +kernel) (by decide +kernel)
  | with_reducible exact ev_pow (a := 10) (b := 20) (c := 100000000000000000000) (by decide +kernel) (by decide +kernel)
  | with_reducible exact ev_pow (a := 10) (b := 29) (c := 100000000000000000000000000000) (by decide +kernel) (by decide +kernel)
  | with_reducible exact ev_pow (a := 10) (b := 30) (c := 1000000000000000000000000000000) (by decide +kernel) (by decide +kernel)
  | with_reducible exact ev_pow (a := 10) (b := 40) (c := 10000000000000000000000000000000000000000) (by decide +kernel) (by decide +kernel)
  | with_reducible exact ev_pow (a := 10) (b := 57) (c := 1000000000000000000000000000000000000000000000000000000000) (by decide +kernel) (by decide +kernel)
  | with_reducible exact ev_pow (a := 10) (b := 58) (c := 10000000000000000000000000000000000000000000000000000000000) (by decide +kernel) (by decide +kernel)
  | with_reducible exact ev_pow (a := 10) (b := 59) (c := 100000000000000000000000000000000000000000000000000000000000) (by decide +kernel) (by decide +kernel)
  | with_reducible exact ev_pow (a := 10) (b := 60) (c := 1000000000000000000000000000000000000000000000000000000000000) (by decide +kernel) (by decide +kernel))
local macro_rules | `(tactic| walk_at "call") => `(tactic| (intro H9 e9; first | exact ⟨_, rfl, rfl⟩ | exact ⟨_, _, rfl, rfl⟩ | exact ⟨_, _, _, rfl, rfl⟩ | exact ⟨_, rfl, by walk_at "pl", rfl⟩ | (refine ⟨_, _, _, rfl, ?_, rfl⟩; first | exact Plain.ex e9 (by assumption) | walk_at "pl") | (refine ⟨_, rfl, ?_, rfl⟩; first | exact Plain.ex e9 (by assumption) | walk_at "pl")))
local macro_rules | `(tactic| walk_at "ev") => `(tactic| first
  | with_reducible exact ev_c
  | exact ev_var rfl
  | walk_at "pow"
  | ((with_reducible apply ev_op); walk_at "ev"; walk_at "ev"; walk_at "rv")
  | ((with_reducible apply ev_un); walk_at "ev"; walk_at "rv")
  | ((with_reducible apply ev_cb); walk_at "ea"; walk_at "rc")
  | ((with_reducible apply ev_callP); walk_at "ea"; walk_at "call")
  | ((with_reducible apply ev_chain); walk_at "ev"; walk_at "ev"; walk_at "rv"; walk_at "ev"; walk_at "rv")
  | ((with_reducible apply ev_andV); walk_at "ev"; intro _; walk_at "ev")
  | ((with_reducible apply ev_orV); walk_at "ev"; intro _; walk_at "ev")
  | ((with_reducible apply ev_ite); walk_at "et"; intro _; walk_at "ev"; intro _; walk_at "ev")
  | ((with_reducible apply ev_notV); walk_at "ev"))
local macro_rules | `(tactic| walk_at "et") => `(tactic| first
  | ((with_reducible apply et_test); walk_at "ev")
  | ((with_reducible apply et_B); walk_at "ev")
  | ((with_reducible apply et_and); walk_at "et"; intro _; walk_at "et")
  | ((with_reducible apply et_or); walk_at "et"; intro _; walk_at "et")
  | ((with_reducible apply et_not); walk_at "et"))
/-- promises of defs that answer with a new tuple, by the dice at p -/
def DrawsT (ok : List V → Hp → Addr → (List V → Prop) → Prop) : Sp := fun vs H Q _ => ∃ p R, ok vs H p R ∧ Dice p H ∧ ∀ a xs H', R xs → a ≠ p → Exd p H H' → Dice p H' → H' a = some (.tup xs) → Q (.ref a) H'
section
variable {σ : L2.St} {H : Hp} {te ta tb : TE} {tr : TA} {D : Ends} {K : PySem.W.Frag}
theorem du_callT {ok : List V → Hp → Addr → (List V → Prop) → Prop} {E : XK} {ts : TA} {p : Addr} {R : List V → Prop} {vs : List V} (h : ∀ H1, Exd p H H1 → Dice p H1 → EvA ts σ H1 vs) (ho : ∀ H1, Exd p H H1 → Dice p H1 → ok vs H1 p R) : DvU K p (tCall (DrawsT ok) [] E ts) σ H R := fun H1 e d Q q =>
  h H1 e d H1 (Ex.refl H1) _ fun H2 e2 => by
    show DrawsT ok (vs ++ []) H2 Q E
    rw [List.append_nil]
    exact ⟨p, R, ho H2 (e.trans (Exd.of e2)) (d.ex e2), d.ex e2, fun a xs H3 hx ha e3 d3 h3 => q a xs H3 hx ha ((Exd.of e2).trans e3) d3 (st_of h3)⟩
theorem s_retT {p : Addr} {ts : TA} {R : List V → Prop} (h : DvA p ts σ H R) (hd : Dice p H) (hl : ∀ xs, R xs → xs.length ≤ 100000) (k : ∀ a xs H1, R xs → a ≠ p → Exd p H H1 → Dice p H1 → H1 a = some (.tup xs) → D.rt (.ref a) H1) : tRet (tTup ts) D σ H :=
  h H (Exd.refl p H) hd _ fun xs H1 hx e1 d1 => ⟨sz_of (hl xs hx), fun a ha => k a xs _ hx (d1.ne ha) (e1.trans (Exd.of (Ex.new ha))) (d1.ex (Ex.new ha)) upd_same⟩
theorem da_nil0 {p : Addr} : DvA p tNil σ H (fun vs => vs = []) := fun H1 e d Q q => q [] H1 rfl (Exd.refl p H1) d
theorem da_cons2 {p : Addr} {R1 : V → Prop} {R2' : List V → Prop} (h : Dv p te σ H R1) (hr : DvA p tr σ H R2') : DvA p (tCons te tr) σ H (fun vs => ∃ v ws, vs = v :: ws ∧ R1 v ∧ R2' ws) := fun H1 e d Q q =>
  h H1 e d _ fun v H2 r e2 d2 => hr H2 (e.trans e2) d2 _ fun ws H3 rs e3 d3 => q (v :: ws) H3 ⟨v, ws, rfl, r, rs⟩ (e2.trans e3) d3
theorem q_asgLc {p : Addr} {n i j : Nat} {vs : List Nat} {R : V → Prop} {tz : TS} (hw : ∀ x, wipe ((wipe σ vs).set j (some x)) vs = wipe σ vs) (hn : n ≤ 1000) (he : ∀ k : Nat, k < n → Dv p te ((wipe σ vs).set j (some (.int (0 + (k : Int))))) H R) (hd : Dice p H)
    (k : ∀ l xs H2, (xs.length = n ∧ ∀ v ∈ xs, R v) → l ≠ p → Exd p H H2 → Dice p H2 → H2 l = some (.lst xs) → tz D (σ.set i (some (.ref l))) H2) : tSeq (tAsg (tLc (iRng1 (tCons (tC (.int n)) tNil)) (gName j) tYes te vs) (gName i)) tz D σ H := dl_lcR (Q := fun v H2 => tz D (σ.set i (some v)) H2) hw hn he hd k
end
def ArenaR (xs : List V) : Prop := ∃ A : Ar, xs = A.v ∧ A.ok
def SideV (v : V) : Prop := ∃ n : Int, v = .int n ∧ 1 ≤ n ∧ n ≤ 400
def SizeV (v : V) : Prop := ∃ n : Int, v = .int n ∧ 1 ≤ n ∧ n ≤ 40
def BoxR (xs : List V) : Prop := ∃ b : Bx, xs = b.v ∧ b.ok
def kOneT (R' : List V → Prop) (vs : List V) (_ : Hp) (p : Addr) (R : List V → Prop) : Prop := vs = [.ref p] ∧ R = R'
section
variable {P : Program} {w : World} {K : PySem.W.Frag} {mg : Str → Option Value} {base : Heap}
theorem ok_arena (T : Txt K mg w) : FnOk P w K mg base CX0 3 T.a_law_bo_arena T.fd_law_bo_arena ["dice"] (DrawsT (kOneT ArenaR)) := by
  have G_law_pick := ok_pick (P := P) (w := w) (base := base) T
  refine T.F_law_bo_arena.ok sc_law_bo_arena (fun vs H Q E h => ?_) (fun cdv A outer s H vs Q E hr h => ?_)
  · obtain ⟨p, _, ⟨rfl, _⟩, _⟩ := h; rfl
  · obtain ⟨p, _, ⟨rfl, rfl⟩, hd, q⟩ := h
    refine ⟨_, (pss_one (ps_ret (pe_tup (pa_cons (pe_call G_law_pick (hr.mono (by decide)) (by rfl) T.g_law_pick T.F_law_pick.kp T.b_law_pick .nil pass0 (pa_cons (pv 0) (pa_cons (pe_lst (pa_cons pe_int (pa_cons pe_int (pa_cons pe_int (pa_cons pe_int (pa_cons pe_int pa_nil)))))) pa_nil))) (pa_cons (pe_call G_law_pick (hr.mono (by decide)) (by rfl) T.g_law_pick T.F_law_pick.kp T.b_law_pick .nil pass0 (pa_cons (pv 0) (pa_cons (pe_lst (pa_cons pe_int (pa_cons pe_int (pa_cons pe_int (pa_cons pe_int (pa_cons pe_int pa_nil)))))) pa_nil))) pa_nil))))), ?_⟩
    have pk : ∀ {xs : List V} {ts : TA}, (∀ H1, EvA ts [some (.ref p)] H1 xs) → 0 < xs.length → xs.length < 100000 → (∀ v ∈ xs, SideV v) → Dv p (tCall (Draws (kPick K)) [] E0 (tCons (tVar 0) (tCons (tLst ts) tNil))) [some (.ref p)] H SideV := fun h1 h2 h3 h4 =>
      (dv_pickL (xs := _) (R := fun v => v ∈ _) rfl (fun H1 _ _ => el_lst (h1 H1) (by omega)) (fun l H1 _ _ hl h => ⟨l, _, rfl, hl, sq_of h, h2, by omega, rfl⟩)).mono h4
    refine s_retT (da_cons2 (pk (xs := [.int 1, .int 6, .int 8, .int 12, .int 400]) (fun H1 => by walk_at "ea") (by decide) (by decide) ?_) (da_cons2 (pk (xs := [.int 1, .int 5, .int 8, .int 10, .int 400]) (fun H1 => by walk_at "ea") (by decide) (by decide) ?_) da_nil0)) hd ?_ fun a xs H1 hx ha e1 d1 h1 => q a xs H1 ?_ ha e1 d1 h1
    · intro v hv
      simp only [List.mem_cons, List.not_mem_nil, or_false] at hv
      rcases hv with rfl | rfl | rfl | rfl | rfl <;> exact ⟨_, rfl, by decide, by decide⟩
    · intro v hv
      simp only [List.mem_cons, List.not_mem_nil, or_false] at hv
      rcases hv with rfl | rfl | rfl | rfl | rfl <;> exact ⟨_, rfl, by decide, by decide⟩
    · rintro xs ⟨_, _, rfl, _, _, _, rfl, _, rfl⟩
      show 2 ≤ 100000
      decide
    · obtain ⟨_, _, rfl, ⟨x, rfl, h2, h3⟩, _, _, rfl, ⟨y, rfl, h4, h5⟩, rfl⟩ := hx
      exact ⟨⟨x, y⟩, rfl, h2, h3, h4, h5⟩
def kDrawn (K : PySem.W.Frag) (vs : List V) (H : Hp) (p : Addr) (R : List V → Prop) : Prop := ∃ (a : Addr) (A : Ar), vs = [.ref p, .ref a] ∧ a ≠ p ∧ SqT K H a A.v ∧ A.ok ∧ R = BoxR
theorem ok_drawn_box (T : Txt K mg w) : FnOk P w K mg base CX0 4 T.a_law_bo_drawn T.fd_law_bo_drawn ["dice", "arena"] (DrawsT (kDrawn K)) := by
  have G_law_pick := ok_pick (P := P) (w := w) (base := base) T
  have G_law_bo_number := ok_number (P := P) (w := w) (base := base) T
  refine T.F_law_bo_drawn.ok sc_law_bo_drawn (fun vs H Q E h => ?_) (fun cdv A outer s H vs Q E hr h => ?_)
  · obtain ⟨p, _, ⟨_, _, rfl, _⟩, _⟩ := h; rfl
  · obtain ⟨p, _, ⟨a, ar, rfl, hap, ha, ⟨k1, k2, k3, k4⟩, rfl⟩, hd, q⟩ := h
    refine ⟨_, (pss_cons (ps_setLc (i := 2) (own := [("turn", 3)]) (g := gName 3) (by rfl) sc_law_bo_drawn.nd rfl rfl (sw_true rfl rfl rfl (by decide +kernel)) (pi_range1 rfl T.z_range (pa_cons pe_int pa_nil)) (blkOk_by (own := [("turn", 3)]) (N := ["dice", "arena", "sizes", "turn"]) (sc := defScope s_law_bo_drawn) (by decide +kernel)) (fun _ _ _ _ _ => pg_name (i := 3) sc_law_bo_drawn.nd rfl (Or.inl rfl)) (fun _ _ _ _ _ => pts_nil) (fun _ _ _ _ _ => (pe_call G_law_pick (hr.mono (by decide)) (by rfl) T.g_law_pick T.F_law_pick.kp T.b_law_pick .nil pass0 (pa_cons (pv 0) (pa_cons (pe_lst (pa_cons pe_int (pa_cons pe_int (pa_cons pe_int (pa_cons pe_int (pa_cons pe_int (pa_cons pe_int (pa_cons pe_int pa_nil)))))))) pa_nil)))))
  (pss_one (ps_ret (pe_tup (pa_cons (pe_call G_law_bo_number (hr.mono (by decide)) (by rfl) T.g_law_bo_number T.F_law_bo_number.kp T.b_law_bo_number .nil pass0 (pa_cons (pv 0) (pa_cons (pe_ix ix_tup (pv 1) pe_int (fun _ _ => rfl)) pa_nil))) (pa_cons (pe_call G_law_bo_number (hr.mono (by decide)) (by rfl) T.g_law_bo_number T.F_law_bo_number.kp T.b_law_bo_number .nil pass0 (pa_cons (pv 0) (pa_cons (pe_ix ix_tup (pv 1) pe_int (fun _ _ => rfl)) pa_nil))) (pa_cons (pe_ix ix_list (pv 2) pe_int (fun _ _ => rfl)) (pa_cons (pe_ix ix_list (pv 2) pe_int (fun _ _ => rfl)) pa_nil)))))))), ?_⟩
    refine q_asgLc (p := p) (n := 2) (R := SizeV) (fun _ => rfl) (by decide) (fun i hi => ?_) hd fun l xs H1 hx hl e1 d1 h1 => ?_
    · refine (dv_pickL (xs := [.int 1, .int 1, .int 2, .int 2, .int 3, .int 5, .int 40]) (R := fun v => v ∈ [V.int 1, .int 1, .int 2, .int 2, .int 3, .int 5, .int 40]) rfl (fun H1 _ _ => el_lst (by walk_at "ea") (by decide)) (fun l H1 _ _ hl h => ⟨l, _, rfl, hl, sq_of h, by decide, by decide, rfl⟩)).mono fun v hv => ?_
      simp only [List.mem_cons, List.not_mem_nil, or_false] at hv
      rcases hv with rfl | rfl | rfl | rfl | rfl | rfl | rfl <;> exact ⟨_, rfl, by decide, by decide⟩
    obtain ⟨hlen, hxs⟩ := hx
    match xs, hlen with
    | [s1, s2], _ =>
    obtain ⟨w1, rfl, w2, w3⟩ := hxs s1 (by simp)
    obtain ⟨g1, rfl, g2, g3⟩ := hxs s2 (by simp)
    have i0 : atI ar.v 0 = some (.int ar.w) := rfl
    have i1 : atI ar.v 1 = some (.int ar.h) := rfl
    have j0 : atI [V.int w1, .int g1] 0 = some (.int w1) := rfl
    have j1 : atI [V.int w1, .int g1] 1 = some (.int g1) := rfl
    have ha1 := e1.tt hap ha
    refine s_retT (p := p) (da_cons2 (R1 := NumV) (dv_call (vs := [.ref p, .int ar.w]) (fun H2 e2 _ => ?_) fun H2 _ _ => ⟨_, rfl, by omega, k2, rfl⟩) (da_cons2 (R1 := NumV) (dv_call (vs := [.ref p, .int ar.h]) (fun H2 e2 _ => ?_) fun H2 _ _ => ⟨_, rfl, by omega, k4, rfl⟩) (da_cons2 (R1 := fun v => v = .int w1) (dv_ev (fun H2 e2 _ => ?_) rfl) (da_cons2 (R1 := fun v => v = .int g1) (dv_ev (fun H2 e2 _ => ?_) rfl) da_nil0)))) d1 ?_ fun b xs H2 hx hb e2 d2 h2 => q b xs H2 ?_ hb (e1.trans e2) d2 h2
    · have ha2 := e2.tt hap ha1
      exact ea_cons (ev_var rfl) (ea_cons (ev_op (ev_var rfl) ev_c (rv_ixT ha2 i0)) ea_nil)
    · have ha2 := e2.tt hap ha1
      exact ea_cons (ev_var rfl) (ea_cons (ev_op (ev_var rfl) ev_c (rv_ixT ha2 i1)) ea_nil)
    · exact ev_op (ev_var rfl) ev_c (rv_ixL (sq_of (e2 _ _ hl h1)) j0)
    · exact ev_op (ev_var rfl) ev_c (rv_ixL (sq_of (e2 _ _ hl h1)) j1)
    · rintro xs ⟨_, _, rfl, _, _, _, rfl, _, _, _, rfl, _, _, _, rfl, _, rfl⟩
      show 4 ≤ 100000
      decide
    · obtain ⟨_, _, rfl, ⟨x, rfl, hx1⟩, _, _, rfl, ⟨y, rfl, hy1⟩, _, _, rfl, rfl, _, _, rfl, rfl, rfl⟩ := hx
      exact ⟨⟨x, y, w1, g1⟩, rfl, hx1, hy1, w2, w3, g2, g3⟩
end
end Kz
set_option Elab.async false
set_option linter.all false
set_option maxRecDepth 100000
set_option maxHeartbeats 4000000
set_option exponentiation.threshold 500
namespace Kz
open PySem PySem.Spec PyProof.Rows L2 Evl Vr
local macro_rules | `(tactic| walk_at "sc") => `(tactic| first | (with_reducible assumption) | (with_reducible exact sc_mul (by omega)) | (with_reducible exact sc_mulr (by omega)) | (with_reducible exact sc_div (by omega) (by decide)) | (show (0 : Int) < _; omega) | (show _ ≠ (0 : Int); omega) | (with_reducible rfl) | decide)
local macro_rules | `(tactic| walk_at "sq") => `(tactic| first | assumption | exact sq_of (by assumption) | exact st_of (by assumption))
local macro_rules | `(tactic| walk_at "pl") => `(tactic| first | assumption | exact pl_int | exact pl_bl | exact pl_str | exact pl_non | exact pl_lst (by assumption) | exact pl_tup (by assumption) | exact pl_dK (by assumption))
local macro_rules | `(tactic| walk_at "rv") => `(tactic| first
  | with_reducible exact rv_I0
  | with_reducible exact ru_neg
  | ((with_reducible apply rv_I); walk_at "sc")
  | ((with_reducible apply rv_ixL); walk_at "sq"; first | rfl | assumption)
  | ((with_reducible apply rv_ixT); walk_at "sq"; first | rfl | assumption)
  | ((with_reducible apply rv_eq); rfl) | ((with_reducible apply rv_ne); rfl))
local macro_rules | `(tactic| walk_at "rc") => `(tactic| first
  | with_reducible exact rc_I1 | with_reducible exact rc_B1 | with_reducible exact rc_I2 | ((with_reducible apply rc_repr); walk_at "sc") | ((with_reducible apply rc_lenL); walk_at "sq")
  | ((with_reducible apply rc_isiInt); walk_at "pl") | ((with_reducible apply rc_isiBool); walk_at "pl"))
local macro_rules | `(tactic| walk_at "ea") => `(tactic| first
  | with_reducible exact ea_nil | ((with_reducible apply ea_cons); walk_at "ev"; walk_at "ea"))
local macro_rules | `(tactic| walk_at "pow") => `(tactic| first
  | with_reducible exact ev_pow (a := 10) (b := 9) (c := 1000000000) (by decide +kernel) (by decide +kernel)
  | with_reducible exact ev_pow (a := 10) (b := 10) (c := 10000000000) (by decide +kernel) (by decide +kernel)
  | with_reducible exact ev_pow (a := 10) (b := 12) (c := 1000000000000) (by decide +kernel) (by decide +kernel)
  | with_reducible exact ev_pow (a := 10) (b := 17) (c := 100000000000000000) (by decide +kernel) (by decide +kernel)
  | with_reducible exact ev_pow (a := 10) (b := 20) (c := 100000000000000000000) (by decide +kernel) (by decide +kernel)
  | with_reducible exact ev_pow (a := 10) (b := 29) (c := 100000000000000000000000000000) (by decide +kernel) (by decide +kernel)
  | with_reducible exact ev_pow (a := 10) (b := 30) (c := 1000000000000000000000000000000) (by decide +kernel) (by decide +kernel)
  | with_reducible exact ev_pow (a := 10) (b := 40) (c := 10000000000000000000000000000000000000000) (by decide +kernel) (by decide +kernel)
  | with_reducible exact ev_pow (a := 10) (b := 57) (c := 1000000000000000000000000000000000000000000000000000000000) (by decide +kernel) (by decide +kernel)
  | with_reducible exact ev_pow (a := 10) (b := 58) (c := 10000000000000000000000000000000000000000000000000000000000) (by decide +kernel) (by decide +kernel)
  | with_reducible exact ev_pow (a := 10) (b := 59) (c := 100000000000000000000000000000000000000000000000000000000000) (by decide +kernel) (by decide +kernel)
  | with_reducible exact ev_pow (a := 10) (b := 60) (c := 1000000000000000000000000000000000000000000000000000000000000) (by decide +kernel) (by decide +kernel))
local macro_rules | `(tactic| walk_at "call") => `(tactic| (intro H9 e9; first | exact ⟨_, rfl, rfl⟩ | exact ⟨_, _, rfl, rfl⟩ | exact ⟨_, _, _, rfl, rfl⟩ | exact ⟨_, rfl, by walk_at "pl", rfl⟩ | (refine ⟨_, _, _, rfl, ?_, rfl⟩; first | exact Plain.ex e9 (by assumption) | walk_at "pl") | (refine ⟨_, rfl, ?_, rfl⟩; first | exact Plain.ex e9 (by assumption) | walk_at "pl")))
local macro_rules | `(tactic| walk_at "ev") => `(tactic| first
  | with_reducible exact ev_c
  | exact ev_var rfl
  | walk_at "pow"
  | ((with_reducible apply ev_op); walk_at "ev"; walk_at "ev"; walk_at "rv")
  | ((with_reducible apply ev_un); walk_at "ev"; walk_at "rv")
  | ((with_reducible apply ev_cb); walk_at "ea"; walk_at "rc")
  | ((with_reducible apply ev_callP); walk_at "ea"; walk_at "call")
  | ((with_reducible apply ev_chain); walk_at "ev"; walk_at "ev"; walk_at "rv"; walk_at "ev"; walk_at "rv")
  | ((with_reducible apply ev_andV); walk_at "ev"; intro _; walk_at "ev")
  | ((with_reducible apply ev_orV); walk_at "ev"; intro _; walk_at "ev")
  | ((with_reducible apply ev_ite); walk_at "et"; intro _; walk_at "ev"; intro _; walk_at "ev")
  | ((with_reducible apply ev_notV); walk_at "ev"))
local macro_rules | `(tactic| walk_at "et") => `(tactic| first
  | ((with_reducible apply et_test); walk_at "ev")
  | ((with_reducible apply et_B); walk_at "ev")
  | ((with_reducible apply et_and); walk_at "et"; intro _; walk_at "et")
  | ((with_reducible apply et_or); walk_at "et"; intro _; walk_at "et")
  | ((with_reducible apply et_not); walk_at "et"))
open En
/-- what repr says of None, an integer, a bool -/
def reprV : V → Str
  | .int i => toString i
  | .bl b => if b then "True" else "False"
  | _ => "None"
def reprOk : V → Prop
  | .int i => i.natAbs.log2 < 1920
  | .bl _ => True
  | .non => True
  | _ => False
def rReprA : List V → Hp → VK → Prop := fun xs H Q => ∃ x, xs = [x] ∧ reprOk x ∧ Q (.str (reprV x)) H
theorem c_reprA {X : Cx} : CallR X (.builtin "repr") rReprA := by
  intro pins s σ H xs us Q I r h
  obtain ⟨x, rfl, hz, q⟩ := h
  match x, hz with
  | .int i, hz => 
    obtain ⟨u, rfl, t, rfl⟩ := vals1 r
    exact PySem.P.repr_of_int hz ⟨.str _, H, I.tok _, ⟨_, rfl⟩, q⟩
  | .bl b, _ =>
    obtain ⟨u, rfl, rfl⟩ := vals1 r
    exact PySem.P.repr_of_bool ⟨.str _, H, I.tok _, ⟨_, rfl⟩, q⟩
  | .non, _ =>
    obtain ⟨u, rfl, rfl⟩ := vals1 r
    exact PySem.P.repr_of_none ⟨.str _, H, I.tok _, ⟨_, rfl⟩, q⟩
section
variable {σ : L2.St} {H : Hp} {te ta tb : TE} {tr tk : TA} {D : Ends} {K : PySem.W.Frag} {x z : V}
theorem rc_reprA (h : reprOk x) : RC rReprA [x] H (.str (reprV x)) := fun H1 _ _ q => ⟨x, rfl, h, q H1 (Ex.refl H1)⟩
theorem el_cat {xs ys : List V} (h1 : EvL ta σ H xs) (h2 : EvL tb σ H ys) (hz : xs.length + ys.length ≤ 100000) : EvL (tOp rCat ta tb) σ H (xs ++ ys) := fun H1 e Q q =>
  h1 H1 e _ fun p H2 hp e2 hx => h2 H2 (e.trans e2) _ fun r H3 hr e3 hy => ⟨p, r, xs, ys, rfl, rfl, e3 _ _ hx, hy, sz_of hz, fun l hl =>
    q l _ (fresh_back (e2.trans e3) hl) ((e2.trans e3).trans (Ex.new hl)) upd_same⟩
theorem ev_callN {ok : List V → Hp → V → Prop} {E : XK} {vs zs : List V} {n m : Nat} {gV : List V → List V → List V} (h : EvA tr σ H vs) (h2 : EvA tk σ H zs) (l1 : vs.length = n) (l2 : zs.length = m) (ho : ∀ H1, Ex H H1 → ok (gV vs zs) H1 z) : Ev (tCallN n m (Pure ok) gV E tr tk) σ H z := fun H1 e Q q =>
  h H1 e _ fun H2 e2 => h2 H2 (e.trans e2) _ fun H3 e3 => ⟨l1, l2, z, ho H3 ((e.trans e2).trans e3), fun H4 e4 => q H4 ((e2.trans e3).trans e4)⟩
theorem ev_callD {ok : List V → Hp → V → Prop} {E : XK} {vs dvs : List V} (h : EvA tr σ H vs) (ho : ∀ H1, Ex H H1 → ok (vs ++ dvs) H1 z) : Ev (tCall (Pure ok) dvs E tr) σ H z := fun H1 e Q q =>
  h H1 e _ fun H2 e2 => ⟨z, ho H2 (e.trans e2), fun H3 e3 => q H3 (e2.trans e3)⟩
theorem q_asg2UU {tz : TS} {i j : Nat} {xs ys : List V} (h1 : EvU ta σ H xs) (h2 : EvU tb σ H ys) (k : ∀ p r H1, H p = none → H r = none → Ex H H1 → H1 p = some (.tup xs) → H1 r = some (.tup ys) → tz D ((σ.set i (some (.ref p))).set j (some (.ref r))) H1) :
    tSeq (tAsg (tTup (tCons ta (tCons tb tNil))) (gTup K 2 (gCons (gName i) (gCons (gName j) gNil)))) tz D σ H :=
  h1 H (Ex.refl H) _ fun p H1 hp e1 hx => h2 H1 e1 _ fun r H2 hr e2 hy => ⟨by show 2 ≤ sizeLine; decide, fun t ht => ⟨t, [.ref p, .ref r], rfl, st_of upd_same, rfl, .ref p, [.ref r], rfl, .ref r, [], rfl, rfl,
    k p r _ hp (fresh_back e1 hr) ((e1.trans e2).trans (Ex.new ht)) (Ex.new ht _ _ (e2 _ _ hx)) (Ex.new ht _ _ hy)⟩⟩
/-- a, b = two new tuples -/
theorem q_parUU {tz : TS} {i j : Nat} {xs ys : List V} (h1 : EvU ta σ H xs) (h2 : EvU tb σ H ys) (k : ∀ p r H1, H p = none → H r = none → Ex H H1 → H1 p = some (.tup xs) → H1 r = some (.tup ys) → tz D ((σ.set i (some (.ref p))).set j (some (.ref r))) H1) : tSeq (tPar i j (tCons ta (tCons tb tNil))) tz D σ H :=
  h1 H (Ex.refl H) _ fun p H1 hp e1 hx => h2 H1 e1 _ fun r H2 hr e2 hy => ⟨.ref p, .ref r, rfl, k p r H2 hp (fresh_back e1 hr) (e1.trans e2) (e2 _ _ hx) hy⟩
end
theorem bool_iff {a b : Bool} (h : a = true ↔ b = true) : a = b := by
  cases a <;> cases b <;> simp_all
theorem meet_lmeet (b c : Bx) (hb : b.pos) (hc : c.pos) : meet 0 b c = lmeet b c := bool_iff (by rw [meet_iff b c hb hc, lmeet_iff b c hb])
/-- which of the boxes -/
def idxs (f : Bx → Bool) (cs : List Bx) : List V := given cs.length (fun i => f (cs.getD i ⟨0, 0, 0, 0⟩)) (fun i => .int (i : Nat))
theorem idxs_int (f : Bx → Bool) (cs : List Bx) : ∀ v ∈ idxs f cs, ∃ i : Nat, v = .int i ∧ i < cs.length := by
  intro v hv
  unfold idxs given at hv
  obtain ⟨i, hi, rfl⟩ := List.mem_map.mp hv
  exact ⟨i, rfl, by simpa using (List.mem_filter.mp hi).1⟩
def firstOr (l : List V) : V := match l with
  | [] => .int (-1)
  | v :: _ => v
def barV (s : Sd) (A : Ar) (b : Bx) (cs : List Bx) (m : Int) : V := if free s A b cs m = m then .non else firstOr (idxs (bars s (b.go s (free s A b cs m))) cs)
theorem barV_ok (s : Sd) (A : Ar) (b : Bx) (cs : List Bx) (m : Int) (h : cs.length ≤ 24) : reprOk (barV s A b cs m) := by
  unfold barV
  split
  · trivial
  · unfold firstOr
    split
    · show (-1 : Int).natAbs.log2 < 1920
      decide
    · rename_i v t e
      obtain ⟨i, rfl, hi⟩ := idxs_int _ _ v (by rw [e]; exact List.mem_cons_self ..)
      show (i : Int).natAbs.log2 < 1920
      rw [Int.natAbs_natCast]
      have h1 : i < 2 ^ 5 := by omega
      by_cases h0 : i = 0
      · rw [h0]; decide
      · have := (Nat.log2_lt h0).mpr h1
        omega
theorem idxs_congr {f g : Bx → Bool} {cs : List Bx} (h : ∀ c ∈ cs, f c = g c) : idxs f cs = idxs g cs := by
  unfold idxs given
  congr 1
  apply List.filter_congr
  intro i hi
  have hi : i < cs.length := by simpa using hi
  rw [List.getD_eq_getElem?_getD, List.getElem?_eq_getElem hi]
  exact h _ (List.getElem_mem hi)
section
variable {P : Program} {w : World} {K : PySem.W.Frag} {mg : Str → Option Value} {base : Heap}
/-- the boxes of others, by the place -/
theorem el_idx {t : TT} {σ : L2.St} {H : Hp} {o : Addr} {cs : List Bx} {ta : TA} {j l : Nat} {vs : List Nat} (f : Bx → Bool) (h : EvA ta σ H [.ref o]) (hC : Boxes K H o cs) (hl : cs.length ≤ 1000)
    (hw : ∀ x y, wipe (((wipe σ vs).set j (some x)).set l (some y)) vs = wipe σ vs) (hj : ∀ x y, (((wipe σ vs).set j (some x)).set l (some y))[j]? = some (some x))
    (ht : ∀ (i : Nat) (r : Addr) (c : Bx) H1, Ex H H1 → SqT K H1 r c.v → c ∈ cs → EvT t (((wipe σ vs).set j (some (.int (i : Nat)))).set l (some (.ref r))) H1 (f c)) :
    EvL (tLc (iEnumT K ta) (gTup K 2 (gCons (gName j) (gCons (gName l) gNil))) t (tVar j) vs) σ H (idxs f cs) := by
  obtain ⟨rs, hlen, hO, hC⟩ := hC
  have e : idxs f cs = given (rs.map V.ref).length (fun i => f (cs.getD i ⟨0, 0, 0, 0⟩)) (fun i => .int (i : Nat)) := by
    unfold idxs
    rw [List.length_map, hlen]
  rw [e]
  refine el_lcEnumT _ _ h hO (by rw [List.length_map]; omega) hw (fun i x H1 e1 hx => ?_) (fun i x H1 e1 hx _ => ev_var (hj _ _))
  obtain ⟨r, hr1, rfl⟩ : ∃ r, rs[i]? = some r ∧ x = .ref r := by
    rw [List.getElem?_map] at hx
    cases h : rs[i]? with
    | none => rw [h] at hx; cases hx
    | some r => rw [h] at hx; exact ⟨r, rfl, (Option.some.inj hx).symm⟩
  have hi : i < cs.length := by have := (List.getElem?_eq_some_iff.mp hr1).1; omega
  have hc0 := hC i r cs[i] hr1 (List.getElem?_eq_getElem hi)
  have hc1 : cs.getD i ⟨0, 0, 0, 0⟩ = cs[i] := by rw [List.getD_eq_getElem?_getD, List.getElem?_eq_getElem hi]; rfl
  rw [hc1]
  exact ht i r cs[i] H1 e1 (ex_t e1 hc0) (List.getElem_mem hi)
def kBarrier (K : PySem.W.Frag) (vs : List V) (H : Hp) (z : V) : Prop := ∃ A b cs s m, Way K vs H A b cs s m ∧ z = barV s A b cs m
theorem ok_barrier (T : Txt K mg w) : FnOk P w K mg base CX0 8 T.a_barrier T.fd_barrier ["arena", "box", "others", "side", "many"] (Pure (kBarrier K)) := by
  have G_need_way := ok_need_way (P := P) (w := w) (base := base) T
  have G_units_free := ok_units_free (P := P) (w := w) (base := base) T
  have G_shifted := ok_shifted (P := P) (w := w) (base := base) T
  have G_does_bar := ok_does_bar (P := P) (w := w) (base := base) T
  refine T.F_barrier.ok sc_barrier (fun vs H Q E h => ?_) (fun cdv A outer s H vs Q E hr h => ?_)
  · obtain ⟨_, ⟨_, _, _, _, _, ⟨_, _, _, rfl, _⟩, _⟩, _⟩ := h; rfl
  · obtain ⟨_, ⟨ar, b, cs, d, m, ⟨a, p, o, rfl, ha, hb, hC, ka, kb, kc, m0, m1⟩, rfl⟩, q⟩ := h
    refine ⟨_, (pss_cons (ps_expr (pe_call G_need_way (hr.mono (by decide)) (by rfl) T.g_need_way T.F_need_way.kp T.b_need_way .nil pass0 (pa_cons (pv 0) (pa_cons (pv 1) (pa_cons (pv 2) (pa_cons (pv 3) (pa_cons (pv 4) pa_nil)))))))
  (pss_cons (ps_set (i := 5) sc_barrier.nd rfl (.inl rfl) (pe_call G_units_free (hr.mono (by decide)) (by rfl) T.g_units_free T.F_units_free.kp T.b_units_free .nil pass0 (pa_cons (pv 0) (pa_cons (pv 1) (pa_cons (pv 2) (pa_cons (pv 3) (pa_cons (pv 4) pa_nil)))))))
  (pss_cons (ps_if (pt_cmpR op_eq (pv 5) (pv 4) (nomark _)) (pss_one (ps_ret pe_non)) pss_nil)
  (pss_cons (ps_set (i := 6) sc_barrier.nd rfl (.inr rfl) (pe_call G_shifted (hr.mono (by decide)) (by rfl) T.g_shifted T.F_shifted.kp T.b_shifted .nil pass0 (pa_cons (pv 1) (pa_cons (pv 3) (pa_cons (pv 5) pa_nil)))))
  (pss_cons (ps_setLc (i := 7) (own := [("at", 8), ("other", 9)]) (g := gTup _ 2 (gCons (gName 8) (gCons (gName 9) gNil))) (by rfl) sc_barrier.nd rfl rfl (sw_true rfl rfl rfl (by decide +kernel)) (En.pi_enumT rfl T.z_enumerate (pa_cons (pv 2) pa_nil)) (blkOk_by (own := [("at", 8), ("other", 9)]) (N := ["arena", "box", "others", "side", "many", "units", "stopped", "barring", "at", "other"]) (sc := defScope s_barrier) (by decide +kernel)) (fun _ _ _ _ _ => pg_tup rfl (pgs_cons (pg_name (i := 8) sc_barrier.nd rfl (Or.inl rfl)) (pgs_cons (pg_name (i := 9) sc_barrier.nd rfl (Or.inl rfl)) pgs_nil))) (fun _ _ _ _ _ => (pts_one (pt_val (pe_call G_does_bar (hr.mono (by decide)) (by rfl) T.g_does_bar T.F_does_bar.kp T.b_does_bar .nil pass0 (pa_cons (pv 6) (pa_cons (pv 9) (pa_cons (pv 3) pa_nil))))))) (fun _ _ _ _ _ => (pv 8)))
  (pss_one (ps_ret (pe_ifExp (pt_cmpR op_gt (pe_callB c_len (by rfl) T.z_len PySem.boot_len (pa_cons (pv 7) pa_nil)) pe_int (nomark _)) (pe_ix ix_list (pv 7) pe_int (fun _ _ => rfl)) (pe_un un_neg pe_int))))))))), ?_⟩
    have kl := kc.1
    refine q_drop (v := .non) (ev_callP (vs := [.ref a, .ref p, .ref o, .str d.n, .int m]) (by walk_at "ea") fun H1 e1 => ⟨ar, b, cs, d, m, ⟨a, p, o, rfl, ex_t e1 ha, ex_t e1 hb, hC.ex e1, ka, kb, kc, m0, m1⟩, rfl⟩) fun H1 e1 => ?_
    refine q_asg (v := .int (free d ar b cs m)) (ev_callP (vs := [.ref a, .ref p, .ref o, .str d.n, .int m]) (by walk_at "ea") fun H2 e2 => ⟨a, p, o, ar, b, cs, d, m, rfl, ex_t (e1.trans e2) ha, ex_t (e1.trans e2) hb, hC.ex (e1.trans e2), by omega, rfl⟩) fun H2 e2 => ?_
    have e2 := e1.trans e2
    unfold barV at q
    generalize hF : free d ar b cs m = F at *
    refine q_when (b := decide (V.int F = V.int m)) (by walk_at "et") (fun hx H3 e3 => ?_) (fun hx H3 e3 => ?_)
    · rw [if_pos (V.int.inj (of_decide_eq_true hx))] at q
      exact s_ret (v := .non) ev_c fun H4 e4 => q H4 ((e2.trans e3).trans e4)
    rw [if_neg fun z => of_decide_eq_false hx (by rw [z])] at q
    have e3 := e2.trans e3
    refine q_asgU (xs := (b.go d F).v) (eu_callT (vs := [.ref p, .str d.n, .int F]) (by walk_at "ea") fun H4 e4 => ⟨p, b, d, F, rfl, ex_t (e3.trans e4) hb, rfl⟩) fun g H4 hg e4 h4 => ?_
    have e4 := e3.trans e4
    refine q_asgL (xs := idxs (bars d (b.go d F)) cs) (el_idx (bars d (b.go d F)) (by walk_at "ea") (hC.ex e4) (by omega) (fun _ _ => rfl) (fun _ _ => rfl) fun i r c H5 e5 hc _ => et_B (ev_callP (vs := [.ref g, .ref r, .str d.n]) (by walk_at "ea") fun H6 e6 => ⟨g, r, b.go d F, c, d, rfl, st_of ((e5.trans e6) _ _ h4), ex_t e6 hc, rfl⟩)) fun l H5 hl e5 h5 => ?_
    have e5 := e4.trans e5
    have hL := sq_of (K := K) h5
    cases hI : idxs (bars d (b.go d F)) cs with
    | nil =>
      rw [hI] at hL q
      refine s_ret (v := .int (-1)) (ev_if (b := false) (et_is (et_test (ev_op (x := .int ((0 : Nat) : Int)) (ev_cb (vs := [.ref l]) (by walk_at "ea") (rc_lenL hL)) ev_c rv_I0)) (by decide)) (fun h => by cases h) fun _ => by walk_at "ev") fun H6 e6 => q H6 (e5.trans e6)
    | cons v rest =>
      rw [hI] at hL q
      refine s_ret (v := v) (ev_if (b := true) (et_is (et_test (ev_op (x := .int ((rest.length + 1 : Nat) : Int)) (ev_cb (vs := [.ref l]) (by walk_at "ea") (rc_lenL hL)) ev_c rv_I0)) (decide_eq_true (by omega))) (fun _ => ev_op (ev_var rfl) ev_c (rv_ixL hL (atI_nat (show (v :: rest)[0]? = some v from rfl)))) (fun h => by cases h)) fun H6 e6 => q H6 (e5.trans e6)
def kLbarrier (K : PySem.W.Frag) (vs : List V) (H : Hp) (z : V) : Prop := ∃ (a p o : Addr) (A : Ar) (b : Bx) (cs : List Bx) (s : Sd) (m : Int), vs = [.ref a, .ref p, .ref o, .str s.n, .int m] ∧ SqT K H a A.v ∧ SqT K H p b.v ∧ Boxes K H o cs ∧ cs.length ≤ 1000 ∧ 0 ≤ m ∧ b.pos ∧ (∀ c ∈ cs, c.pos) ∧ z = barV s A b cs m
theorem ok_lbarrier (T : Txt K mg w) : FnOk P w K mg base CX0 4 T.a_law_bo_barrier T.fd_law_bo_barrier ["arena", "box", "others", "side", "many"] (Pure (kLbarrier K)) := by
  have G_law_bo_reach := ok_lreach (P := P) (w := w) (base := base) T
  have G_law_bo_put := ok_put (P := P) (w := w) (base := base) T
  have G_law_bo_meet := ok_lmeet (P := P) (w := w) (base := base) T
  refine T.F_law_bo_barrier.ok sc_law_bo_barrier (fun vs H Q E h => ?_) (fun cdv A outer s H vs Q E hr h => ?_)
  · obtain ⟨_, ⟨_, _, _, _, _, _, _, _, rfl, _⟩, _⟩ := h; rfl
  · obtain ⟨_, ⟨a, p, o, ar, b, cs, d, m, rfl, ha, hb, hC, hl, m0, bp, cp, rfl⟩, q⟩ := h
    refine ⟨_, (pss_cons (ps_set (i := 5) sc_law_bo_barrier.nd rfl (.inl rfl) (pe_call G_law_bo_reach (hr.mono (by decide)) (by rfl) T.g_law_bo_reach T.F_law_bo_reach.kp T.b_law_bo_reach .nil pass0 (pa_cons (pv 0) (pa_cons (pv 1) (pa_cons (pv 2) (pa_cons (pv 3) (pa_cons (pv 4) pa_nil)))))))
  (pss_cons (ps_if (pt_cmpR op_eq (pv 5) (pv 4) (nomark _)) (pss_one (ps_ret pe_non)) pss_nil)
  (pss_cons (ps_asg (pe_tup (pa_cons (pe_call G_law_bo_put (hr.mono (by decide)) (by rfl) T.g_law_bo_put T.F_law_bo_put.kp T.b_law_bo_put .nil pass0 (pa_cons (pv 1) (pa_cons (pv 3) (pa_cons (pv 5) pa_nil)))) (pa_cons (pe_call G_law_bo_put (hr.mono (by decide)) (by rfl) T.g_law_bo_put T.F_law_bo_put.kp T.b_law_bo_put .nil pass0 (pa_cons (pv 1) (pa_cons (pv 3) (pa_cons (pe_op op_add (pv 5) pe_int) pa_nil)))) pa_nil))) (pg_tup rfl (pgs_cons (pg_name (i := 6) sc_law_bo_barrier.nd rfl (.inr rfl)) (pgs_cons (pg_name (i := 7) sc_law_bo_barrier.nd rfl (.inr rfl)) pgs_nil))))
  (pss_one (ps_ret (pe_ix ix_list (pe_op op_cat (pe_lc (own := [("at", 8), ("other", 9)]) (g := gTup _ 2 (gCons (gName 8) (gCons (gName 9) gNil))) (by rfl) sc_law_bo_barrier.nd (En.pi_enumT rfl T.z_enumerate (pa_cons (pv 2) pa_nil)) (blkOk_by (own := [("at", 8), ("other", 9)]) (N := ["arena", "box", "others", "side", "many", "gone", "here", "later", "at", "other"]) (sc := defScope s_law_bo_barrier) (by decide +kernel)) (fun _ _ _ _ _ => pg_tup rfl (pgs_cons (pg_name (i := 8) sc_law_bo_barrier.nd rfl (Or.inl rfl)) (pgs_cons (pg_name (i := 9) sc_law_bo_barrier.nd rfl (Or.inl rfl)) pgs_nil))) (fun _ _ _ _ _ => (pts_one (PW.pt (pw_and (pt_val (pe_call G_law_bo_meet (hr.mono (by decide)) (by rfl) T.g_law_bo_meet T.F_law_bo_meet.kp T.b_law_bo_meet .nil pass0 (pa_cons (pv 7) (pa_cons (pv 9) pa_nil)))) (pw_and1 (pt_not (pt_val (pe_call G_law_bo_meet (hr.mono (by decide)) (by rfl) T.g_law_bo_meet T.F_law_bo_meet.kp T.b_law_bo_meet .nil pass0 (pa_cons (pv 6) (pa_cons (pv 9) pa_nil)))))))))) (fun _ _ _ _ _ => (pv 8))) (pe_lst (pa_cons (pe_un un_neg pe_int) pa_nil))) pe_int (fun _ _ => rfl))))))), ?_⟩
    refine q_asg (v := .int (free d ar b cs m)) (ev_callP (vs := [.ref a, .ref p, .ref o, .str d.n, .int m]) (by walk_at "ea") fun H2 e2 => ⟨a, p, o, ar, b, cs, d, m, rfl, ex_t e2 ha, ex_t e2 hb, hC.ex e2, hl, m0, bp, cp, rfl⟩) fun H2 e2 => ?_
    unfold barV at q
    generalize hF : free d ar b cs m = F at *
    refine q_when (b := decide (V.int F = V.int m)) (by walk_at "et") (fun hx H3 e3 => ?_) (fun hx H3 e3 => ?_)
    · rw [if_pos (V.int.inj (of_decide_eq_true hx))] at q
      exact s_ret (v := .non) ev_c fun H4 e4 => q H4 ((e2.trans e3).trans e4)
    rw [if_neg fun z => of_decide_eq_false hx (by rw [z])] at q
    have e3 := e2.trans e3
    refine q_asg2UU (xs := (b.go d F).v) (ys := (b.go d (F + 1)).v) (eu_callT (vs := [.ref p, .str d.n, .int F]) (by walk_at "ea") fun H4 e4 => ⟨p, b, d, F, rfl, ex_t (e3.trans e4) hb, rfl⟩) (eu_callT (vs := [.ref p, .str d.n, .int (F + 1)]) (by walk_at "ea") fun H4 e4 => ⟨p, b, d, F + 1, rfl, ex_t (e3.trans e4) hb, rfl⟩) fun g g2 H4 hg hg2 e4 h4 h42 => ?_
    have e4 := e3.trans e4
    have hf : idxs (fun c => lmeet (b.go d (F + 1)) c && !lmeet (b.go d F) c) cs = idxs (bars d (b.go d F)) cs := idxs_congr fun c hc => by
      unfold bars
      rw [go_go, meet_lmeet _ _ (go_pos _ _ _ bp) (cp c hc), meet_lmeet _ _ (go_pos _ _ _ bp) (cp c hc)]
    rw [← hf] at q
    have hlen : (idxs (fun c => lmeet (b.go d (F + 1)) c && !lmeet (b.go d F) c) cs).length ≤ 1000 := Nat.le_trans (given_len _ _ _) hl
    refine s_ret (v := firstOr (idxs (fun c => lmeet (b.go d (F + 1)) c && !lmeet (b.go d F) c) cs)) (ev_ixN (el_cat (ys := [.int (-1)]) (el_idx (fun c => lmeet (b.go d (F + 1)) c && !lmeet (b.go d F) c) (by walk_at "ea") (hC.ex e4) hl (fun _ _ => rfl) (fun _ _ => rfl) fun i r c H5 e5 hc _ => et_and (et_B (ev_callP (vs := [.ref g2, .ref r]) (by walk_at "ea") fun H6 e6 => ⟨g2, r, _, c, rfl, st_of ((e5.trans e6) _ _ h42), ex_t e6 hc, rfl⟩)) fun _ => et_not (et_B (ev_callP (vs := [.ref g, .ref r]) (by walk_at "ea") fun H6 e6 => ⟨g, r, _, c, rfl, st_of ((e5.trans e6) _ _ h4), ex_t e6 hc, rfl⟩))) (el_lst (by walk_at "ea") (by decide)) (by show _ + 1 ≤ _; omega)) (fun H5 _ => ev_c) ?_) fun H5 e5 => q H5 (e4.trans e5)
    cases idxs (fun c => lmeet (b.go d (F + 1)) c && !lmeet (b.go d F) c) cs with
    | nil => rfl
    | cons v rest => exact atI_nat (show (v :: rest ++ [V.int (-1)])[0]? = some v from rfl)
def kMeeting (K : PySem.W.Frag) (vs : List V) (H : Hp) (z : V) : Prop := ∃ (p r : Addr) (b c : Bx) (g : Int), vs = [.ref p, .ref r, .int g] ∧ SqT K H p b.v ∧ SqT K H r c.v ∧ b.ok ∧ c.ok ∧ num g ∧ z = .bl (meet g b c)
theorem ok_are_meeting (T : Txt K mg w) : FnOk P w K mg base CX0 6 T.a_are_meeting T.fd_are_meeting ["one", "other", "grown"] (Pure (kMeeting K)) := by
  have G_need_box := ok_need_box (P := P) (w := w) (base := base) T
  have G_need_number := ok_need_number (P := P) (w := w) (base := base) T
  have G_do_meet := ok_do_meet (P := P) (w := w) (base := base) T
  refine T.F_are_meeting.ok sc_are_meeting (fun vs H Q E h => ?_) (fun cdv A outer s H vs Q E hr h => ?_)
  · obtain ⟨_, ⟨_, _, _, _, _, rfl, _⟩, _⟩ := h; rfl
  · obtain ⟨_, ⟨p, r, b, c, g, rfl, hb, hc, kb, kc, kg, rfl⟩, q⟩ := h
    refine ⟨_, (pss_cons (ps_expr (pe_call G_need_box (hr.mono (by decide)) (by rfl) T.g_need_box T.F_need_box.kp T.b_need_box .nil pass0 (pa_cons (pv 0) pa_nil)))
  (pss_cons (ps_expr (pe_call G_need_box (hr.mono (by decide)) (by rfl) T.g_need_box T.F_need_box.kp T.b_need_box .nil pass0 (pa_cons (pv 1) pa_nil)))
  (pss_cons (ps_expr (pe_call G_need_number (hr.mono (by decide)) (by rfl) T.g_need_number T.F_need_number.kp T.b_need_number .nil pass0 (pa_cons (pv 2) pa_nil)))
  (pss_one (ps_ret (pe_call G_do_meet (hr.mono (by decide)) (by rfl) T.g_do_meet T.F_do_meet.kp T.b_do_meet .nil pass0 (pa_cons (pv 0) (pa_cons (pv 1) (pa_cons (pv 2) pa_nil))))))))), ?_⟩
    refine q_drop (v := .non) (ev_callP (vs := [.ref p]) (by walk_at "ea") fun H1 e1 => ⟨p, b, rfl, ex_t e1 hb, kb, rfl⟩) fun H1 e1 => ?_
    refine q_drop (v := .non) (ev_callP (vs := [.ref r]) (by walk_at "ea") fun H2 e2 => ⟨r, c, rfl, ex_t (e1.trans e2) hc, kc, rfl⟩) fun H2 e2 => ?_
    refine q_drop (v := .non) (ev_callP (vs := [.int g]) (by walk_at "ea") fun H3 e3 => ⟨g, rfl, kg, rfl⟩) fun H3 e3 => ?_
    have e3 := (e1.trans e2).trans e3
    exact s_ret (v := .bl (meet g b c)) (ev_callP (vs := [.ref p, .ref r, .int g]) (by walk_at "ea") fun H4 e4 => ⟨p, r, b, c, g, rfl, ex_t (e3.trans e4) hb, ex_t (e3.trans e4) hc, rfl⟩) fun H4 e4 => q H4 (e3.trans e4)
end
end Kz
set_option Elab.async false
set_option linter.all false
set_option maxRecDepth 100000
set_option maxHeartbeats 4000000
set_option exponentiation.threshold 500
namespace Kz
open PySem PySem.Spec PyProof.Rows L2 Evl Vr
local macro_rules | `(tactic| walk_at "sc") => `(tactic| first | (with_reducible assumption) | (with_reducible exact sc_mul (by omega)) | (with_reducible exact sc_mulr (by omega)) | (with_reducible exact sc_div (by omega) (by decide)) | (show (0 : Int) < _; omega) | (show _ ≠ (0 : Int); omega) | (with_reducible rfl) | decide)
local macro_rules | `(tactic| walk_at "sq") => `(tactic| first | assumption | exact sq_of (by assumption) | exact st_of (by assumption))
local macro_rules | `(tactic| walk_at "pl") => `(tactic| first | assumption | exact pl_int | exact pl_bl | exact pl_str | exact pl_non | exact pl_lst (by assumption) | exact pl_tup (by assumption) | exact pl_dK (by assumption))
local macro_rules | `(tactic| walk_at "rv") => `(tactic| first
  | with_reducible exact rv_I0
  | with_reducible exact ru_neg
  | ((with_reducible apply rv_I); walk_at "sc")
  | ((with_reducible apply rv_ixL); walk_at "sq"; first | rfl | assumption)
  | ((with_reducible apply rv_ixT); walk_at "sq"; first | rfl | assumption)
  | ((with_reducible apply rv_eq); rfl) | ((with_reducible apply rv_ne); rfl))
local macro_rules | `(tactic| walk_at "rc") => `(tactic| first
  | with_reducible exact rc_I1 | with_reducible exact rc_B1 | with_reducible exact rc_I2 | ((with_reducible apply rc_repr); walk_at "sc") | ((with_reducible apply rc_lenL); walk_at "sq")
  | ((with_reducible apply rc_isiInt); walk_at "pl") | ((with_reducible apply rc_isiBool); walk_at "pl"))
local macro_rules | `(tactic| walk_at "ea") => `(tactic| first
  | with_reducible exact ea_nil | ((with_reducible apply ea_cons); walk_at "ev"; walk_at "ea"))
local macro_rules | `(tactic| walk_at "pow") => `(tactic| first
  | with_reducible exact ev_pow (a := 10) (b := 9) (c := 1000000000) (by decide +kernel) (by decide +kernel)
  | with_reducible exact ev_pow (a := 10) (b := 10) (c := 10000000000) (by decide +kernel) (by decide +kernel)
  | with_reducible exact ev_pow (a := 10) (b := 12) (c := 1000000000000) (by decide +kernel) (by decide +kernel)
  | with_reducible exact ev_pow (a := 10) (b := 17) (c := 100000000000000000) (by decide +kernel) (by decide +kernel)
  | with_reducible exact ev_pow (a := 10) (b := 20) (c := 100000000000000000000) (by decide +kernel) (by decide +kernel)
  | with_reducible exact ev_pow (a := 10) (b := 29) (c := 100000000000000000000000000000) (by decide +kernel) (by decide +kernel)
  | with_reducible exact ev_pow (a := 10) (b := 30) (c := 1000000000000000000000000000000) (by decide +kernel) (by decide +kernel)
  | with_reducible exact ev_pow (a := 10) (b := 40) (c := 10000000000000000000000000000000000000000) (by decide +kernel) (by decide +kernel)
  | with_reducible exact ev_pow (a := 10) (b := 57) (c := 1000000000000000000000000000000000000000000000000000000000) (by decide +kernel) (by decide +kernel)
  | with_reducible exact ev_pow (a := 10) (b := 58) (c := 10000000000000000000000000000000000000000000000000000000000) (by decide +kernel) (by decide +kernel)
  | with_reducible exact ev_pow (a := 10) (b := 59) (c := 100000000000000000000000000000000000000000000000000000000000) (by decide +kernel) (by decide +kernel)
  | with_reducible exact ev_pow (a := 10) (b := 60) (c := 1000000000000000000000000000000000000000000000000000000000000) (by decide +kernel) (by decide +kernel))
local macro_rules | `(tactic| walk_at "call") => `(tactic| (intro H9 e9; first | exact ⟨_, rfl, rfl⟩ | exact ⟨_, _, rfl, rfl⟩ | exact ⟨_, _, _, rfl, rfl⟩ | exact ⟨_, rfl, by walk_at "pl", rfl⟩ | (refine ⟨_, _, _, rfl, ?_, rfl⟩; first | exact Plain.ex e9 (by assumption) | walk_at "pl") | (refine ⟨_, rfl, ?_, rfl⟩; first | exact Plain.ex e9 (by assumption) | walk_at "pl")))
local macro_rules | `(tactic| walk_at "ev") => `(tactic| first
  | with_reducible exact ev_c
  | exact ev_var rfl
  | walk_at "pow"
  | ((with_reducible apply ev_op); walk_at "ev"; walk_at "ev"; walk_at "rv")
  | ((with_reducible apply ev_un); walk_at "ev"; walk_at "rv")
  | ((with_reducible apply ev_cb); walk_at "ea"; walk_at "rc")
  | ((with_reducible apply ev_callP); walk_at "ea"; walk_at "call")
  | ((with_reducible apply ev_chain); walk_at "ev"; walk_at "ev"; walk_at "rv"; walk_at "ev"; walk_at "rv")
  | ((with_reducible apply ev_andV); walk_at "ev"; intro _; walk_at "ev")
  | ((with_reducible apply ev_orV); walk_at "ev"; intro _; walk_at "ev")
  | ((with_reducible apply ev_ite); walk_at "et"; intro _; walk_at "ev"; intro _; walk_at "ev")
  | ((with_reducible apply ev_notV); walk_at "ev"))
local macro_rules | `(tactic| walk_at "et") => `(tactic| first
  | ((with_reducible apply et_test); walk_at "ev")
  | ((with_reducible apply et_B); walk_at "ev")
  | ((with_reducible apply et_and); walk_at "et"; intro _; walk_at "et")
  | ((with_reducible apply et_or); walk_at "et"; intro _; walk_at "et")
  | ((with_reducible apply et_not); walk_at "et"))
theorem mn_lt (a b : Int) : mn a b < 1 ↔ a < 1 ∨ b < 1 := by unfold mn; split <;> omega
theorem mx_lt_mn (a b c d : Int) : mx a b < mn c d ↔ (a < c ∧ a < d) ∧ (b < c ∧ b < d) := by
  unfold mx mn
  constructor
  · intro h; split at h <;> split at h <;> omega
  · intro h; split <;> split <;> omega
theorem meet_grow (g : Int) (b c : Bx) (hb : b.pos) (hc : c.pos) : meet g b c = lmeet (grow g b) c := bool_iff (by
  obtain ⟨b1, b2⟩ := hb
  obtain ⟨c1, c2⟩ := hc
  have e1 : share 0 g b c = true ↔ mx (b.x - g) c.x < mn (b.x + b.w + g) (c.x + c.w) := decide_eq_true_iff
  have e2 : share 1 g b c = true ↔ mx (b.y - g) c.y < mn (b.y + b.h + g) (c.y + c.h) := decide_eq_true_iff
  have e3 : lmeet (grow g b) c = true ↔ ¬ (mn (b.w + 2 * g) (b.h + 2 * g) < 1) ∧ ((b.x - g < c.x + c.w ∧ c.x < b.x - g + (b.w + 2 * g)) ∧ (b.y - g < c.y + c.h ∧ c.y < b.y - g + (b.h + 2 * g))) := by
    unfold lmeet grow
    simp only [Bool.and_eq_true, Bool.not_eq_true', decide_eq_true_eq, decide_eq_false_iff_not]
  unfold meet
  rw [Bool.and_eq_true, e1, e2, e3, mx_lt_mn, mx_lt_mn, mn_lt]
  constructor
  · intro h; omega
  · intro h; omega)
theorem meet_comm (b c : Bx) (hb : b.pos) (hc : c.pos) : meet 0 b c = meet 0 c b := bool_iff (by
  rw [meet_iff b c hb hc, meet_iff c b hc hb]
  constructor
  · intro h; omega
  · intro h; omega)
theorem Bx.ok.pos {b : Bx} (h : b.ok) : b.pos := ⟨h.2.2.1, h.2.2.2.2.1⟩
theorem Sound.pos {cs : List Bx} (h : Sound cs) : ∀ c ∈ cs, c.pos := fun c hc => (h.2 c hc).pos
theorem go_zero (s : Sd) (b : Bx) : b.go s 0 = b := by cases s <;> simp [Bx.go]
theorem free_zero (s : Sd) (A : Ar) (b : Bx) (cs : List Bx) : free s A b cs 0 = 0 := Int.le_antisymm (free_le s A b cs 0) (free_pos s A b cs 0 (Int.le_refl 0))
theorem mov_zero (A : Ar) (b : Bx) (cs : List Bx) : movB A b cs 0 0 = b := by
  have h : ab 0 = 0 := rfl
  unfold movB midB
  rw [h, free_zero, go_zero, free_zero, go_zero]
/-- a tuple of boxes, all apart from the dice -/
def BoxesD (K : PySem.W.Frag) (p : Addr) (H : Hp) (o : Addr) (cs : List Bx) : Prop := o ≠ p ∧ ∃ rs : List Addr, rs.length = cs.length ∧ SqT K H o (rs.map V.ref) ∧ ∀ (i : Nat) (r : Addr) (c : Bx), rs[i]? = some r → cs[i]? = some c → r ≠ p ∧ SqT K H r c.v
theorem BoxesD.ex {K : PySem.W.Frag} {p : Addr} {H H' : Hp} {o : Addr} {cs : List Bx} (e : Exd p H H') (h : BoxesD K p H o cs) : BoxesD K p H' o cs := by
  obtain ⟨h0, rs, h1, h2, h3⟩ := h
  exact ⟨h0, rs, h1, e.tt h0 h2, fun i r c a b => ⟨(h3 i r c a b).1, e.tt (h3 i r c a b).1 (h3 i r c a b).2⟩⟩
theorem BoxesD.to {K : PySem.W.Frag} {p : Addr} {H : Hp} {o : Addr} {cs : List Bx} (h : BoxesD K p H o cs) : Boxes K H o cs := by
  obtain ⟨h0, rs, h1, h2, h3⟩ := h
  exact ⟨rs, h1, h2, fun i r c a b => (h3 i r c a b).2⟩
section
variable {σ : L2.St} {H : Hp} {te ta tb : TE} {ts : TA} {D : Ends} {K : PySem.W.Frag} {g : TG} {tu tz : TS}
/-- for x in (drawn things) -/
theorem s_forDv {p : Addr} {R : List V → Prop} (h : DvA p ts σ H R) (hd : Dice p H) (hz : ∀ xs, R xs → xs.length ≤ 100000) (Pv : Addr → List V → Nat → L2.St → Hp → Prop) (h0 : ∀ t xs H1, R xs → t ≠ p → Exd p H H1 → Dice p H1 → H1 t = some (.tup xs) → Pv t xs 0 σ H1)
    (hl : ∀ t xs i σ' H', i ≤ xs.length → Pv t xs i σ' H' → SqT K H' t xs) (hs : ∀ t xs i x σ' H', R xs → xs[i]? = some x → Pv t xs i σ' H' → g x σ' H' fun σ2 H2 => tu { D with nx := Pv t xs (i + 1), ct := Pv t xs (i + 1), bk := D.nx } σ2 H2) (hd2 : ∀ t xs σ' H', Pv t xs xs.length σ' H' → D.nx σ' H') : tFor (iTup K (tTup ts)) g tu D σ H :=
  h H (Exd.refl p H) hd _ fun xs H1 hx e1 d1 => ⟨sz_of (hz xs hx), fun t ht => ⟨t, rfl, ⟨xs, st_of upd_same⟩, for_tup (Pv t xs) (h0 t xs _ hx (d1.ne ht) (e1.trans (Exd.of (Ex.new ht))) (d1.ex (Ex.new ht)) upd_same) (hl t xs) (fun i x σ' H' hi p' => hs t xs i x σ' H' hx hi p') (hd2 t xs)⟩⟩
end
def WayV (v : V) : Prop := ∃ m : Int, v = .int m ∧ 0 ≤ m ∧ m ≤ 1000000000
section
variable {P : Program} {w : World} {K : PySem.W.Frag} {mg : Str → Option Value} {base : Heap}
abbrev sidesV : List V := [.str "left", .str "right", .str "low", .str "high"]
theorem side_at {i : Nat} {v : V} (h : sidesV[i]? = some v) : ∃ s : Sd, v = .str s.n := by
  match i, h with
  | 0, h => exact ⟨.left, (Option.some.inj h).symm⟩
  | 1, h => exact ⟨.right, (Option.some.inj h).symm⟩
  | 2, h => exact ⟨.low, (Option.some.inj h).symm⟩
  | 3, h => exact ⟨.high, (Option.some.inj h).symm⟩
  | i + 4, h => cases h
/-- what stands ready for the law's looks -/
def Ready (K : PySem.W.Frag) (p a bx o : Addr) (H : Hp) (A : Ar) (b : Bx) (cs : List Bx) : Prop := a ≠ p ∧ bx ≠ p ∧ SqT K H a A.v ∧ SqT K H bx b.v ∧ BoxesD K p H o cs ∧ A.ok ∧ b.ok ∧ Sound cs
theorem Ready.ex {p a bx o : Addr} {H H' : Hp} {A : Ar} {b : Bx} {cs : List Bx} (e : Exd p H H') (h : Ready K p a bx o H A b cs) : Ready K p a bx o H' A b cs :=
  ⟨h.1, h.2.1, e.tt h.1 h.2.2.1, e.tt h.2.1 h.2.2.2.1, h.2.2.2.2.1.ex e, h.2.2.2.2.2.1, h.2.2.2.2.2.2.1, h.2.2.2.2.2.2.2⟩
theorem Ready.way {p a bx o : Addr} {H : Hp} {A : Ar} {b : Bx} {cs : List Bx} (h : Ready K p a bx o H A b cs) (s : Sd) {m : Int} (m0 : 0 ≤ m) (m1 : m ≤ 1000000000) : Way K [.ref a, .ref bx, .ref o, .str s.n, .int m] H A b cs s m :=
  ⟨a, bx, o, rfl, h.2.2.1, h.2.2.2.1, h.2.2.2.2.1.to, h.2.2.2.2.2.1, h.2.2.2.2.2.2.1, h.2.2.2.2.2.2.2, m0, m1⟩
def kWays (K : PySem.W.Frag) (vs : List V) (H : Hp) (p : Addr) (R : V → Prop) : Prop := ∃ (a bx o : Addr) (A : Ar) (b : Bx) (cs : List Bx), vs = [.ref p, .ref a, .ref bx, .ref o] ∧ Ready K p a bx o H A b cs ∧ R = fun v => v = .bl true
theorem ok_ways (T : Txt K mg w) : FnOk P w K mg base CX0 9 T.a_law_ways_right T.fd_law_ways_right ["dice", "arena", "box", "others"] (Draws (kWays K)) := by
  have G_law_roll := ok_roll (P := P) (w := w) (base := base) T
  have G_law_pick := ok_pick (P := P) (w := w) (base := base) T
  have G_law_bo_reach := ok_lreach (P := P) (w := w) (base := base) T
  have G_reach := ok_reach (P := P) (w := w) (base := base) T
  have G_barrier := ok_barrier (P := P) (w := w) (base := base) T
  have G_law_bo_barrier := ok_lbarrier (P := P) (w := w) (base := base) T
  have G_reach_by_units := ok_by_units (P := P) (w := w) (base := base) T
  refine T.F_law_ways_right.ok sc_law_ways_right (fun vs H Q E h => ?_) (fun cdv A outer s H vs Q E hr h => ?_)
  · obtain ⟨p, _, ⟨_, _, _, _, _, _, rfl, _⟩, _⟩ := h; rfl
  · obtain ⟨p, _, ⟨a, bx, o, ar, b, cs, rfl, hR, rfl⟩, hd, q⟩ := h
    refine ⟨_, (pss_cons (ps_for PassesOwn.never rfl (pi_tup (pe_tup (pa_cons pe_str (pa_cons pe_str (pa_cons pe_str (pa_cons pe_str pa_nil)))))) (pg_name (i := 4) sc_law_ways_right.nd rfl (.inl rfl)) (pss_one (ps_for PassesOwn.never rfl (pi_tup (pe_tup (pa_cons (pe_call G_law_roll (hr.mono (by decide)) (by rfl) T.g_law_roll T.F_law_roll.kp T.b_law_roll .nil pass0 (pa_cons (pv 0) (pa_cons pe_int pa_nil))) (pa_cons (pe_call G_law_pick (hr.mono (by decide)) (by rfl) T.g_law_pick T.F_law_pick.kp T.b_law_pick .nil pass0 (pa_cons (pv 0) (pa_cons (pe_lst (pa_cons pe_int (pa_cons pe_int (pa_cons pe_int (pa_cons pe_int pa_nil))))) pa_nil))) (pa_cons (pe_op op_pow pe_int pe_int) pa_nil))))) (pg_name (i := 5) sc_law_ways_right.nd rfl (.inl rfl)) (pss_cons (ps_set (i := 6) sc_law_ways_right.nd rfl (.inl rfl) (pe_call G_law_bo_reach (hr.mono (by decide)) (by rfl) T.g_law_bo_reach T.F_law_bo_reach.kp T.b_law_bo_reach .nil pass0 (pa_cons (pv 1) (pa_cons (pv 2) (pa_cons (pv 3) (pa_cons (pv 4) (pa_cons (pv 5) pa_nil)))))))
  (pss_cons (ps_if (pt_cmpR op_ne (pe_call G_reach (hr.mono (by decide)) (by rfl) T.g_reach T.F_reach.kp T.b_reach .nil pass0 (pa_cons (pv 1) (pa_cons (pv 2) (pa_cons (pv 3) (pa_cons (pv 4) (pa_cons (pv 5) pa_nil)))))) (pv 6) (nomark _)) (pss_one (ps_ret pe_bl)) pss_nil)
  (pss_cons (ps_if (pt_cmpR op_ne (pe_callB c_reprA (by rfl) T.z_repr (by decide +kernel) (pa_cons (pe_call G_barrier (hr.mono (by decide)) (by rfl) T.g_barrier T.F_barrier.kp T.b_barrier .nil pass0 (pa_cons (pv 1) (pa_cons (pv 2) (pa_cons (pv 3) (pa_cons (pv 4) (pa_cons (pv 5) pa_nil)))))) pa_nil)) (pe_callB c_reprA (by rfl) T.z_repr (by decide +kernel) (pa_cons (pe_call G_law_bo_barrier (hr.mono (by decide)) (by rfl) T.g_law_bo_barrier T.F_law_bo_barrier.kp T.b_law_bo_barrier .nil pass0 (pa_cons (pv 1) (pa_cons (pv 2) (pa_cons (pv 3) (pa_cons (pv 4) (pa_cons (pv 5) pa_nil)))))) pa_nil)) (nomark _)) (pss_one (ps_ret pe_bl)) pss_nil)
  (pss_one (ps_if (PW.pt (pw_and (pt_cmpR op_lt (pv 5) pe_int (nomark _)) (pw_and1 (pt_cmpR op_ne (pe_call G_reach_by_units (hr.mono (by decide)) (by rfl) T.g_reach_by_units T.F_reach_by_units.kp T.b_reach_by_units .nil pass0 (pa_cons (pv 1) (pa_cons (pv 2) (pa_cons (pv 3) (pa_cons (pv 4) (pa_cons (pv 5) pa_nil)))))) (pv 6) (nomark _))))) (pss_one (ps_ret pe_bl)) pss_nil))))))))
  (pss_one (ps_ret pe_bl))), ?_⟩
    refine q_forNU (xs := sidesV) (eu_tup (by walk_at "ea") (by decide)) (fun t i σ' H' => Exd p H H' ∧ Dice p H' ∧ t ≠ p ∧ SqT K H' t sidesV ∧ ∃ z4 z5 z6, σ' = [some (.ref p), some (.ref a), some (.ref bx), some (.ref o), z4, z5, z6]) (fun t H1 ht e1 h1 => ⟨Exd.of e1, hd.ex e1, hd.ne ht, st_of h1, none, none, none, rfl⟩) (fun t i σ' H' _ h => h.2.2.2.1) ?_ ?_
    · rintro t i v σ' H1 hv ⟨e1, d1, ht, hT, z4, z5, z6, rfl⟩
      obtain ⟨sd, rfl⟩ := side_at hv
      refine s_forDv (p := p) (R := fun xs => xs.length = 3 ∧ ∀ v ∈ xs, WayV v) (da_cons (P := WayV) ?_ (da_cons (P := WayV) ?_ (da_cons (P := WayV) ?_ da_nil))) d1 (fun xs h => by rw [h.1]; decide) (fun u xs j σ' H' => Exd p H1 H' ∧ Dice p H' ∧ u ≠ p ∧ SqT K H' u xs ∧ ∃ z5 z6, σ' = [some (.ref p), some (.ref a), some (.ref bx), some (.ref o), some (.str sd.n), z5, z6]) (fun u xs H2 hx hu e2 d2 h2 => ⟨e2, d2, hu, st_of h2, _, _, rfl⟩) (fun u xs j σ' H' _ h => h.2.2.2.1) ?_ ?_
      · exact (dv_roll (m := 12) rfl (fun H1 => ev_c) (by decide) (by decide)).mono fun v ⟨r, h1, h2, h3⟩ => ⟨r, h1, h2, by omega⟩
      · refine (dv_pickL (xs := [.int 0, .int 1, .int 399, .int 1000]) (R := fun v => v ∈ [V.int 0, .int 1, .int 399, .int 1000]) rfl (fun H1 _ _ => el_lst (by walk_at "ea") (by decide)) (fun l H1 _ _ hl h => ⟨l, _, rfl, hl, sq_of h, by decide, by decide, rfl⟩)).mono fun v hv => ?_
        simp only [List.mem_cons, List.not_mem_nil, or_false] at hv
        rcases hv with rfl | rfl | rfl | rfl <;> exact ⟨_, rfl, by decide, by decide⟩
      · exact dv_ev (v := .int 1000000000) (fun H2 _ _ => by walk_at "ev") ⟨_, rfl, by decide, by decide⟩
      · rintro u xs j v σ' H2 hx hv ⟨e2, d2, hu, hU, z5, z6, rfl⟩
        obtain ⟨m, rfl, m0, m1⟩ := hx.2 v (List.mem_of_getElem? hv)
        have hR2 := (hR.ex e1).ex e2
        have kb := hR2.2.2.2.2.2.2.1
        have kc := hR2.2.2.2.2.2.2.2
        have kl := kc.1
        have rd : ∀ {H3}, Ex H2 H3 → Ready K p a bx o H3 ar b cs := fun e => hR2.ex (Exd.of e)
        have lw : ∀ {H3}, Ex H2 H3 → SqT K H3 a ar.v ∧ SqT K H3 bx b.v ∧ Boxes K H3 o cs := fun e => ⟨(rd e).2.2.1, (rd e).2.2.2.1, (rd e).2.2.2.2.1.to⟩
        refine q_asg (v := .int (free sd ar b cs m)) (ev_callP (vs := [.ref a, .ref bx, .ref o, .str sd.n, .int m]) (by walk_at "ea") fun H3 e3 => ⟨a, bx, o, ar, b, cs, sd, m, rfl, (lw e3).1, (lw e3).2.1, (lw e3).2.2, by omega, m0, kb.pos, kc.pos, rfl⟩) fun H3 e3 => ?_
        refine q_when (b := false) (et_is (et_test (ev_op (x := .int (free sd ar b cs m)) (y := .int (free sd ar b cs m)) (ev_callP (vs := [.ref a, .ref bx, .ref o, .str sd.n, .int m]) (by walk_at "ea") fun H4 e4 => ⟨ar, b, cs, sd, m, (rd (e3.trans e4)).way sd m0 m1, rfl⟩) (ev_var rfl) (rv_ne rfl))) (by simp)) (fun h => by cases h) fun _ H4 e4 => ?_
        have e4 := e3.trans e4
        have hok := barV_ok sd ar b cs m kl
        refine q_when (b := false) (et_is (et_test (ev_op (x := .str (reprV (barV sd ar b cs m))) (y := .str (reprV (barV sd ar b cs m))) (ev_cb (vs := [barV sd ar b cs m]) (ea_cons (ev_callP (vs := [.ref a, .ref bx, .ref o, .str sd.n, .int m]) (by walk_at "ea") fun H5 e5 => ⟨ar, b, cs, sd, m, (rd (e4.trans e5)).way sd m0 m1, rfl⟩) ea_nil) (rc_reprA hok)) (ev_cb (vs := [barV sd ar b cs m]) (ea_cons (ev_callP (vs := [.ref a, .ref bx, .ref o, .str sd.n, .int m]) (by walk_at "ea") fun H5 e5 => ⟨a, bx, o, ar, b, cs, sd, m, rfl, (lw (e4.trans e5)).1, (lw (e4.trans e5)).2.1, (lw (e4.trans e5)).2.2, by omega, m0, kb.pos, kc.pos, rfl⟩) ea_nil) (rc_reprA hok)) (rv_ne rfl))) (by simp)) (fun h => by cases h) fun _ H5 e5 => ?_
        have e5 := e4.trans e5
        refine s_when (b := false) (et_is (et_and (a := decide (m < 1001)) (b := false) (by walk_at "et") fun hm => et_is (et_test (ev_op (x := .int (free sd ar b cs m)) (y := .int (free sd ar b cs m)) (ev_is (v := .int ((stepsB sd ar b cs m.toNat 0 : Nat) : Int)) (ev_callP (vs := [.ref a, .ref bx, .ref o, .str sd.n, .int m]) (by walk_at "ea") fun H6 e6 => ⟨ar, b, cs, sd, m.toNat, by have hw := (rd (e5.trans e6)).way sd m0 m1; have hn : ((m.toNat : Nat) : Int) = m := Int.toNat_of_nonneg m0; rw [hn]; exact hw, by have := of_decide_eq_true hm; omega, rfl⟩) (by have hn : ((m.toNat : Nat) : Int) = m := Int.toNat_of_nonneg m0; rw [units_free_eq sd ar b cs m.toNat kb.pos kc.pos, hn])) (ev_var rfl) (rv_ne rfl))) (by simp)) (by simp)) (fun h => by cases h) fun _ H6 e6 => ?_
        have e6 := e5.trans e6
        exact ⟨e2.trans (Exd.of e6), d2.ex e6, hu, ex_t e6 hU, _, _, rfl⟩
      · rintro u xs σ' H2 ⟨e2, d2, hu, hU, z5, z6, rfl⟩
        exact ⟨e1.trans e2, d2, ht, e2.tt ht hT, _, _, _, rfl⟩
    · rintro t σ' H1 ⟨e1, d1, ht, hT, z4, z5, z6, rfl⟩
      exact s_ret (v := .bl true) ev_c fun H2 e2 => q _ H2 rfl (e1.trans (Exd.of e2)) (d1.ex e2)
end
end Kz
set_option Elab.async false
set_option linter.all false
set_option maxRecDepth 100000
set_option maxHeartbeats 4000000
set_option exponentiation.threshold 500
namespace Kz
open PySem PySem.Spec PyProof.Rows L2 Evl Vr
local macro_rules | `(tactic| walk_at "sc") => `(tactic| first | (with_reducible assumption) | (with_reducible exact sc_mul (by omega)) | (with_reducible exact sc_mulr (by omega)) | (with_reducible exact sc_div (by omega) (by decide)) | (show (0 : Int) < _; omega) | (show _ ≠ (0 : Int); omega) | (with_reducible rfl) | decide)
local macro_rules | `(tactic| walk_at "sq") => `(tactic| first | assumption | exact sq_of (by assumption) | exact st_of (by assumption))
local macro_rules | `(tactic| walk_at "pl") => `(tactic| first | assumption | exact pl_int | exact pl_bl | exact pl_str | exact pl_non | exact pl_lst (by assumption) | exact pl_tup (by assumption) | exact pl_dK (by assumption))
local macro_rules | `(tactic| walk_at "rv") => `(tactic| first
  | with_reducible exact rv_I0
  | with_reducible exact ru_neg
  | ((with_reducible apply rv_I); walk_at "sc")
  | ((with_reducible apply rv_ixL); walk_at "sq"; first | rfl | assumption)
  | ((with_reducible apply rv_ixT); walk_at "sq"; first | rfl | assumption)
  | ((with_reducible apply rv_eq); rfl) | ((with_reducible apply rv_ne); rfl))
local macro_rules | `(tactic| walk_at "rc") => `(tactic| first
  | with_reducible exact rc_I1 | with_reducible exact rc_B1 | with_reducible exact rc_I2 | ((with_reducible apply rc_repr); walk_at "sc") | ((with_reducible apply rc_lenL); walk_at "sq")
  | ((with_reducible apply rc_isiInt); walk_at "pl") | ((with_reducible apply rc_isiBool); walk_at "pl"))
local macro_rules | `(tactic| walk_at "ea") => `(tactic| first
  | with_reducible exact ea_nil | ((with_reducible apply ea_cons); walk_at "ev"; walk_at "ea"))
local macro_rules | `(tactic| walk_at "pow") => `(tactic| first
  | with_reducible exact ev_pow (a := 10) (b := 9) (c := 1000000000) (by decide +kernel) (by decide +kernel)
  | with_reducible exact ev_pow (a := 10) (b := 10) (c := 10000000000) (by decide +kernel) (by decide +kernel)
  | with_reducible exact ev_pow (a := 10) (b := 12) (c := 1000000000000) (by decide +kernel) (by decide +kernel)
  | with_reducible exact ev_pow (a := 10) (b := 17) (c := 100000000000000000) (by decide +kernel) (by decide +kernel)
  | with_reducible exact ev_pow (a := 10) (b := 20) (c := 100000000000000000000) (by decide +kernel) (by decide +kernel)
  | with_reducible exact ev_pow (a := 10) (b := 29) (c := 100000000000000000000000000000) (by decide +kernel) (by decide +kernel)
  | with_reducible exact ev_pow (a := 10) (b := 30) (c := 1000000000000000000000000000000) (by decide +kernel) (by decide +kernel)
  | with_reducible exact ev_pow (a := 10) (b := 40) (c := 10000000000000000000000000000000000000000) (by decide +kernel) (by decide +kernel)
  | with_reducible exact ev_pow (a := 10) (b := 57) (c := 1000000000000000000000000000000000000000000000000000000000) (by decide +kernel) (by decide +kernel)
  | with_reducible exact ev_pow (a := 10) (b := 58) (c := 10000000000000000000000000000000000000000000000000000000000) (by decide +kernel) (by decide +kernel)
  | with_reducible exact ev_pow (a := 10) (b := 59) (c := 100000000000000000000000000000000000000000000000000000000000) (by decide +kernel) (by decide +kernel)
  | with_reducible exact ev_pow (a := 10) (b := 60) (c := 1000000000000000000000000000000000000000000000000000000000000) (by decide +kernel) (by decide +kernel))
local macro_rules | `(tactic| walk_at "call") => `(tactic| (intro H9 e9; first | exact ⟨_, rfl, rfl⟩ | exact ⟨_, _, rfl, rfl⟩ | exact ⟨_, _, _, rfl, rfl⟩ | exact ⟨_, rfl, by walk_at "pl", rfl⟩ | (refine ⟨_, _, _, rfl, ?_, rfl⟩; first | exact Plain.ex e9 (by assumption) | walk_at "pl") | (refine ⟨_, rfl, ?_, rfl⟩; first | exact Plain.ex e9 (by assumption) | walk_at "pl")))
local macro_rules | `(tactic| walk_at "ev") => `(tactic| first
  | with_reducible exact ev_c
  | exact ev_var rfl
  | walk_at "pow"
  | ((with_reducible apply ev_op); walk_at "ev"; walk_at "ev"; walk_at "rv")
  | ((with_reducible apply ev_un); walk_at "ev"; walk_at "rv")
  | ((with_reducible apply ev_cb); walk_at "ea"; walk_at "rc")
  | ((with_reducible apply ev_callP); walk_at "ea"; walk_at "call")
  | ((with_reducible apply ev_chain); walk_at "ev"; walk_at "ev"; walk_at "rv"; walk_at "ev"; walk_at "rv")
  | ((with_reducible apply ev_andV); walk_at "ev"; intro _; walk_at "ev")
  | ((with_reducible apply ev_orV); walk_at "ev"; intro _; walk_at "ev")
  | ((with_reducible apply ev_ite); walk_at "et"; intro _; walk_at "ev"; intro _; walk_at "ev")
  | ((with_reducible apply ev_notV); walk_at "ev"))
local macro_rules | `(tactic| walk_at "et") => `(tactic| first
  | ((with_reducible apply et_test); walk_at "ev")
  | ((with_reducible apply et_B); walk_at "ev")
  | ((with_reducible apply et_and); walk_at "et"; intro _; walk_at "et")
  | ((with_reducible apply et_or); walk_at "et"; intro _; walk_at "et")
  | ((with_reducible apply et_not); walk_at "et"))
section
variable {σ : L2.St} {H : Hp} {te ta tb : TE} {tr : TA} {K : PySem.W.Frag} {z : V}
/-- the call of a def by a new tuple and more, all values -/
theorem eu_callT1 {ok : List V → Hp → List V → Prop} {E : XK} {ts : TA} {vs xs : List V} (h : EvA ts σ H vs) (ho : ∀ H1, Ex H H1 → ok vs H1 xs) : EvU (tCall (Tupd ok) [] E ts) σ H xs := eu_callT h ho
end
theorem q_same {x : V} : (!decide (x = x)) = false := by simp
section
variable {P : Program} {w : World} {K : PySem.W.Frag} {mg : Str → Option Value} {base : Heap}
def kMeets (K : PySem.W.Frag) (vs : List V) (H : Hp) (p : Addr) (R : V → Prop) : Prop := ∃ (bx o : Addr) (b : Bx) (cs : List Bx), vs = [.ref p, .ref bx, .ref o] ∧ bx ≠ p ∧ SqT K H bx b.v ∧ BoxesD K p H o cs ∧ b.ok ∧ Sound cs ∧ R = fun v => v = .bl true
theorem ok_meets (T : Txt K mg w) : FnOk P w K mg base CX0 7 T.a_law_meetings_right T.fd_law_meetings_right ["dice", "box", "others"] (Draws (kMeets K)) := by
  have G_law_pick := ok_pick (P := P) (w := w) (base := base) T
  have G_are_meeting := ok_are_meeting (P := P) (w := w) (base := base) T
  have G_law_bo_meet := ok_lmeet (P := P) (w := w) (base := base) T
  have G_law_bo_grown := ok_grown (P := P) (w := w) (base := base) T
  refine T.F_law_meetings_right.ok sc_law_meetings_right (fun vs H Q E h => ?_) (fun cdv A outer s H vs Q E hr h => ?_)
  · obtain ⟨p, _, ⟨_, _, _, _, rfl, _⟩, _⟩ := h; rfl
  · obtain ⟨p, _, ⟨bx, o, b, cs, rfl, hbx, hb, ⟨ho, rs, hlen, hO, hC⟩, kb, kc, rfl⟩, hd, q⟩ := h
    refine ⟨_, (pss_cons (ps_for PassesOwn.never rfl (pi_tup (pv 2)) (pg_name (i := 3) sc_law_meetings_right.nd rfl (.inl rfl)) (pss_cons (ps_set (i := 4) sc_law_meetings_right.nd rfl (.inl rfl) (pe_call G_law_pick (hr.mono (by decide)) (by rfl) T.g_law_pick T.F_law_pick.kp T.b_law_pick .nil pass0 (pa_cons (pv 0) (pa_cons (pe_lst (pa_cons pe_int (pa_cons pe_int (pa_cons pe_int (pa_cons pe_int (pa_cons (pe_un un_neg pe_int) (pa_cons (pe_un un_neg pe_int) (pa_cons pe_int (pa_cons (pe_op op_pow pe_int pe_int) (pa_cons (pe_un un_neg (pe_op op_pow pe_int pe_int)) pa_nil)))))))))) pa_nil))))
  (pss_cons (ps_if (pt_cmpR op_ne (pe_callB c_reprA (by rfl) T.z_repr (by decide +kernel) (pa_cons (pe_callN G_are_meeting (hr.mono (by decide)) (by rfl) T.g_are_meeting T.F_are_meeting.kp T.kb_are_meeting pass0 (pa_cons (pv 1) (pa_cons (pv 3) pa_nil)) (pk_cons (pv 4) pk_nil)) pa_nil)) (pe_callB c_reprA (by rfl) T.z_repr (by decide +kernel) (pa_cons (pe_call G_law_bo_meet (hr.mono (by decide)) (by rfl) T.g_law_bo_meet T.F_law_bo_meet.kp T.b_law_bo_meet .nil pass0 (pa_cons (pe_call G_law_bo_grown (hr.mono (by decide)) (by rfl) T.g_law_bo_grown T.F_law_bo_grown.kp T.b_law_bo_grown .nil pass0 (pa_cons (pv 1) (pa_cons (pv 4) pa_nil))) (pa_cons (pv 3) pa_nil))) pa_nil)) (nomark _)) (pss_one (ps_ret pe_bl)) pss_nil)
  (pss_one (ps_if (PW.pt (pw_or (pt_cmpR op_ne (pe_call G_are_meeting (hr.mono (by decide)) (by rfl) T.g_are_meeting T.F_are_meeting.kp T.b_are_meeting T.vd_are_meeting pass0 (pa_cons (pv 1) (pa_cons (pv 3) pa_nil))) (pe_call G_are_meeting (hr.mono (by decide)) (by rfl) T.g_are_meeting T.F_are_meeting.kp T.b_are_meeting T.vd_are_meeting pass0 (pa_cons (pv 3) (pa_cons (pv 1) pa_nil))) (nomark _)) (pw_or1 (pt_cmpR op_ne (pe_call G_are_meeting (hr.mono (by decide)) (by rfl) T.g_are_meeting T.F_are_meeting.kp T.b_are_meeting T.vd_are_meeting pass0 (pa_cons (pv 1) (pa_cons (pv 3) pa_nil))) (pe_call G_law_bo_meet (hr.mono (by decide)) (by rfl) T.g_law_bo_meet T.F_law_bo_meet.kp T.b_law_bo_meet .nil pass0 (pa_cons (pv 1) (pa_cons (pv 3) pa_nil))) (nomark _))))) (pss_one (ps_ret pe_bl)) pss_nil)))))
  (pss_one (ps_ret pe_bl))), ?_⟩
    refine q_forT (a := o) (xs := rs.map V.ref) (ev_var rfl) hO (fun i σ' H' => Exd p H H' ∧ Dice p H' ∧ ∃ z3 z4, σ' = [some (.ref p), some (.ref bx), some (.ref o), z3, z4]) (fun H1 e1 => ⟨Exd.of e1, hd.ex e1, none, none, rfl⟩) (fun i σ' H' _ h => h.1.tt ho hO) ?_ ?_
    · rintro i v σ' H1 hv ⟨e1, d1, z3, z4, rfl⟩
      obtain ⟨r, hr1, rfl⟩ : ∃ r, rs[i]? = some r ∧ v = .ref r := by
        rw [List.getElem?_map] at hv
        cases h : rs[i]? with
        | none => rw [h] at hv; cases hv
        | some r => rw [h] at hv; exact ⟨r, rfl, (Option.some.inj hv).symm⟩
      have hi : i < cs.length := by have := (List.getElem?_eq_some_iff.mp hr1).1; omega
      obtain ⟨hrp, hc⟩ := hC i r cs[i] hr1 (List.getElem?_eq_getElem hi)
      have kc1 := kc.2 _ (List.getElem_mem hi)
      generalize cs[i] = c at hc kc1
      refine q_asgDv (p := p) (R := NumV) ((dv_pickL (xs := [.int 0, .int 0, .int 1, .int 2, .int (-1), .int (-2), .int 7, .int 1000000000, .int (-1000000000)]) (R := fun v => v ∈ [V.int 0, .int 0, .int 1, .int 2, .int (-1), .int (-2), .int 7, .int 1000000000, .int (-1000000000)]) rfl (fun H1 _ _ => el_lst (by walk_at "ea") (by decide)) (fun l H1 _ _ hl h => ⟨l, _, rfl, hl, sq_of h, by decide, by decide, rfl⟩)).mono fun v hv => ?_) d1 fun v H2 hv e2 d2 => ?_
      · simp only [List.mem_cons, List.not_mem_nil, or_false] at hv
        rcases hv with rfl | rfl | rfl | rfl | rfl | rfl | rfl | rfl | rfl <;> exact ⟨_, rfl, by decide, by decide⟩
      obtain ⟨gr, rfl, kg⟩ := hv
      have e2 := e1.trans e2
      have hb2 := e2.tt hbx hb
      have hc2 := e2.tt hrp hc
      have e0 : num 0 := ⟨by decide, by decide⟩
      refine q_when (b := false) (et_is (et_test (ev_op (x := .str (reprV (.bl (meet gr b c)))) (y := .str (reprV (.bl (meet gr b c)))) (ev_cb (vs := [.bl (meet gr b c)]) (ea_cons (ev_callN (vs := [.ref bx, .ref r]) (zs := [.int gr]) (by walk_at "ea") (by walk_at "ea") rfl rfl fun H3 e3 => ⟨bx, r, b, c, gr, rfl, ex_t e3 hb2, ex_t e3 hc2, kb, kc1, kg, rfl⟩) ea_nil) (rc_reprA trivial)) (ev_cb (vs := [.bl (meet gr b c)]) (ea_cons (ev_is (ev_callT (xs := (grow gr b).v) (vs := [.ref r]) (eu_callT (vs := [.ref bx, .int gr]) (by walk_at "ea") fun H3 e3 => ⟨bx, b, gr, rfl, ex_t e3 hb2, rfl⟩) (fun H3 e3 => by walk_at "ea") fun t H3 e3 h3 => ⟨t, r, grow gr b, c, rfl, st_of h3, ex_t e3 hc2, rfl⟩) (by rw [meet_grow gr b c kb.pos kc1.pos])) ea_nil) (rc_reprA trivial)) (rv_ne rfl))) q_same) (fun h => by cases h) fun _ H3 e3 => ?_
      have hb3 := ex_t e3 hb2
      have hc3 := ex_t e3 hc2
      have m1 : ∀ {H0}, Ex H2 H0 → Ev (tCall (Pure (kMeeting K)) [.int 0] E0 (tCons (tVar 1) (tCons (tVar 3) tNil))) [some (.ref p), some (.ref bx), some (.ref o), some (.ref r), some (.int gr)] H0 (.bl (meet 0 b c)) := fun e0' => ev_callD (vs := [.ref bx, .ref r]) (by walk_at "ea") fun H4 e4 => ⟨bx, r, b, c, 0, rfl, ex_t (e0'.trans e4) hb2, ex_t (e0'.trans e4) hc2, kb, kc1, e0, rfl⟩
      refine s_when (b := false) (et_or (a := false) (b := false) (et_is (et_test (ev_op (m1 e3) (ev_is (ev_callD (vs := [.ref r, .ref bx]) (by walk_at "ea") fun H4 e4 => ⟨r, bx, c, b, 0, rfl, ex_t e4 hc3, ex_t e4 hb3, kc1, kb, e0, rfl⟩) (by rw [meet_comm c b kc1.pos kb.pos])) (rv_ne rfl))) q_same) fun _ => et_is (et_test (ev_op (m1 e3) (ev_is (ev_callP (vs := [.ref bx, .ref r]) (by walk_at "ea") fun H4 e4 => ⟨bx, r, b, c, rfl, ex_t e4 hb3, ex_t e4 hc3, rfl⟩) (by rw [meet_lmeet b c kb.pos kc1.pos])) (rv_ne rfl))) q_same) (fun h => by cases h) fun _ H4 e4 => ?_
      exact ⟨e2.trans (Exd.of (e3.trans e4)), d2.ex (e3.trans e4), _, _, rfl⟩
    · rintro σ' H1 ⟨e1, d1, z3, z4, rfl⟩
      exact s_ret (v := .bl true) ev_c fun H2 e2 => q _ H2 rfl (e1.trans (Exd.of e2)) (d1.ex e2)
end
end Kz
set_option Elab.async false
set_option linter.all false
set_option maxRecDepth 100000
set_option maxHeartbeats 4000000
set_option exponentiation.threshold 500
namespace Kz
open PySem PySem.Spec PyProof.Rows L2 Evl Vr
local macro_rules | `(tactic| walk_at "sc") => `(tactic| first | (with_reducible assumption) | (with_reducible exact sc_mul (by omega)) | (with_reducible exact sc_mulr (by omega)) | (with_reducible exact sc_div (by omega) (by decide)) | (show (0 : Int) < _; omega) | (show _ ≠ (0 : Int); omega) | (with_reducible rfl) | decide)
local macro_rules | `(tactic| walk_at "sq") => `(tactic| first | assumption | exact sq_of (by assumption) | exact st_of (by assumption))
local macro_rules | `(tactic| walk_at "pl") => `(tactic| first | assumption | exact pl_int | exact pl_bl | exact pl_str | exact pl_non | exact pl_lst (by assumption) | exact pl_tup (by assumption) | exact pl_dK (by assumption))
local macro_rules | `(tactic| walk_at "rv") => `(tactic| first
  | with_reducible exact rv_I0
  | with_reducible exact ru_neg
  | ((with_reducible apply rv_I); walk_at "sc")
  | ((with_reducible apply rv_ixL); walk_at "sq"; first | rfl | assumption)
  | ((with_reducible apply rv_ixT); walk_at "sq"; first | rfl | assumption)
  | ((with_reducible apply rv_eq); rfl) | ((with_reducible apply rv_ne); rfl))
local macro_rules | `(tactic| walk_at "rc") => `(tactic| first
  | with_reducible exact rc_I1 | with_reducible exact rc_B1 | with_reducible exact rc_I2 | ((with_reducible apply rc_repr); walk_at "sc") | ((with_reducible apply rc_lenL); walk_at "sq")
  | ((with_reducible apply rc_isiInt); walk_at "pl") | ((with_reducible apply rc_isiBool); walk_at "pl"))
local macro_rules | `(tactic| walk_at "ea") => `(tactic| first
  | with_reducible exact ea_nil | ((with_reducible apply ea_cons); walk_at "ev"; walk_at "ea"))
local macro_rules | `(tactic| walk_at "pow") => `(tactic| first
  | with_reducible exact ev_pow (a := 10) (b := 9) (c := 1000000000) (by decide +kernel) (by decide +kernel)
  | with_reducible exact ev_pow (a := 10) (b := 10) (c := 10000000000) (by decide +kernel) (by decide +kernel)
  | with_reducible exact ev_pow (a := 10) (b := 12) (c := 1000000000000) (by decide +kernel) (by decide +kernel)
  | with_reducible exact ev_pow (a := 10) (b := 17) (c := 100000000000000000) (by decide +kernel) (by decide +kernel)
  | with_reducible exact ev_pow (a := 10) (b := 20) (c := 100000000000000000000) (by decide +kernel) (by decide +kernel)
  | with_reducible exact ev_pow (a := 10) (b := 29) (c := 100000000000000000000000000000) (by decide +kernel) (by decide +kernel)
  | with_reducible exact ev_pow (a := 10) (b := 30) (c := 1000000000000000000000000000000) (by decide +kernel) (by decide +kernel)
  | with_reducible exact ev_pow (a := 10) (b := 40) (c := 10000000000000000000000000000000000000000) (by decide +kernel) (by decide +kernel)
  | with_reducible exact ev_pow (a := 10) (b := 57) (c := 1000000000000000000000000000000000000000000000000000000000) (by decide +kernel) (by decide +kernel)
  | with_reducible exact ev_pow (a := 10) (b := 58) (c := 10000000000000000000000000000000000000000000000000000000000) (by decide +kernel) (by decide +kernel)
  | with_reducible exact ev_pow (a := 10) (b := 59) (c := 100000000000000000000000000000000000000000000000000000000000) (by decide +kernel) (by decide +kernel)
  | with_reducible exact ev_pow (a := 10) (b := 60) (c := 1000000000000000000000000000000000000000000000000000000000000) (by decide +kernel) (by decide +kernel))
local macro_rules | `(tactic| walk_at "call") => `(tactic| (intro H9 e9; first | exact ⟨_, rfl, rfl⟩ | exact ⟨_, _, rfl, rfl⟩ | exact ⟨_, _, _, rfl, rfl⟩ | exact ⟨_, rfl, by walk_at "pl", rfl⟩ | (refine ⟨_, _, _, rfl, ?_, rfl⟩; first | exact Plain.ex e9 (by assumption) | walk_at "pl") | (refine ⟨_, rfl, ?_, rfl⟩; first | exact Plain.ex e9 (by assumption) | walk_at "pl")))
local macro_rules | `(tactic| walk_at "ev") => `(tactic| first
  | with_reducible exact ev_c
  | exact ev_var rfl
  | walk_at "pow"
  | ((with_reducible apply ev_op); walk_at "ev"; walk_at "ev"; walk_at "rv")
  | ((with_reducible apply ev_un); walk_at "ev"; walk_at "rv")
  | ((with_reducible apply ev_cb); walk_at "ea"; walk_at "rc")
  | ((with_reducible apply ev_callP); walk_at "ea"; walk_at "call")
  | ((with_reducible apply ev_chain); walk_at "ev"; walk_at "ev"; walk_at "rv"; walk_at "ev"; walk_at "rv")
  | ((with_reducible apply ev_andV); walk_at "ev"; intro _; walk_at "ev")
  | ((with_reducible apply ev_orV); walk_at "ev"; intro _; walk_at "ev")
  | ((with_reducible apply ev_ite); walk_at "et"; intro _; walk_at "ev"; intro _; walk_at "ev")
  | ((with_reducible apply ev_notV); walk_at "ev"))
local macro_rules | `(tactic| walk_at "et") => `(tactic| first
  | ((with_reducible apply et_test); walk_at "ev")
  | ((with_reducible apply et_B); walk_at "ev")
  | ((with_reducible apply et_and); walk_at "et"; intro _; walk_at "et")
  | ((with_reducible apply et_or); walk_at "et"; intro _; walk_at "et")
  | ((with_reducible apply et_not); walk_at "et"))
theorem shaped_tup (ns : List Int) : SeqAt.shaped (.tuple (ns.map PyData.int)) = true := by
  have h := lay_ints ns
  show (PyData.canLayAll0 (ns.map PyData.int) && decide (PyData.depthAll (ns.map PyData.int) + 1 ≤ 64)) = true
  rw [h.1, h.2]
  rfl
theorem eqv_ints : ∀ ns : List Int, PyData.eqvAll (ns.map PyData.int) (ns.map PyData.int) = true
  | [] => rfl
  | n :: ns => by
    show ((n == n) && PyData.eqvAll (ns.map PyData.int) (ns.map PyData.int)) = true
    rw [eqv_ints ns]
    simp
theorem eqv_tup (ns : List Int) : PyData.eqv (.tuple (ns.map PyData.int)) (.tuple (ns.map PyData.int)) = true := eqv_ints ns
section
variable {σ : L2.St} {H : Hp} {te ta tb tn : TE} {ts : TA} {D : Ends} {K : PySem.W.Frag} {g : TG} {tu tz : TS}
theorem evd_intsU {ns : List Int} (h : EvU te σ H (ns.map V.int)) : EvD K te σ H (.tuple (ns.map PyData.int)) := fun H1 e Q q => h H1 e Q fun p H2 _ e2 h2 => q _ H2 e2 (.tup (st_of h2) (dpa_ints ns))
theorem evd_intsT {a : Addr} {ns : List Int} (h : Ev te σ H (.ref a)) (hT : SqT K H a (ns.map V.int)) : EvD K te σ H (.tuple (ns.map PyData.int)) := fun H1 e Q q => h H1 e Q fun H2 e2 => q _ H2 e2 (.tup (ex_t (e.trans e2) hT) (dpa_ints ns))
/-- a new tuple, drawn -/
def DvN (p : Addr) (te : TE) (σ : L2.St) (H : Hp) (R : List V → Prop) : Prop := ∀ H1, Exd p H H1 → Dice p H1 → ∀ Q : VK, (∀ b xs H2, R xs → b ≠ p → Exd p H1 H2 → Dice p H2 → H2 b = some (.tup xs) → Q (.ref b) H2) → te σ H1 Q
theorem dn_callT {ok : List V → Hp → Addr → (List V → Prop) → Prop} {E : XK} {ts : TA} {p : Addr} {R : List V → Prop} {vs : List V} (h : ∀ H1, Exd p H H1 → Dice p H1 → EvA ts σ H1 vs) (ho : ∀ H1, Exd p H H1 → Dice p H1 → ok vs H1 p R) : DvN p (tCall (DrawsT ok) [] E ts) σ H R := fun H1 e d Q q =>
  h H1 e d H1 (Ex.refl H1) _ fun H2 e2 => by
    show DrawsT ok (vs ++ []) H2 Q E
    rw [List.append_nil]
    exact ⟨p, R, ho H2 (e.trans (Exd.of e2)) (d.ex e2), d.ex e2, fun a xs H3 hx ha e3 d3 h3 => q a xs H3 hx ha ((Exd.of e2).trans e3) d3 h3⟩
/-- tuple([a drawn box for turn in range(a drawn number)]) -/
theorem du_boxes {p : Addr} {j : Nat} {vs : List Nat} {Q : VK} (hn : Dv p tn σ H (fun v => ∃ n : Nat, v = .int n ∧ n ≤ 24)) (hw : ∀ x, wipe ((wipe σ vs).set j (some x)) vs = wipe σ vs) (he : ∀ x : V, DvN p te ((wipe σ vs).set j (some x)) H BoxR) (hd : Dice p H)
    (k : ∀ b cs H2, BoxesD K p H2 b cs → Sound cs → Exd p H H2 → Dice p H2 → Q (.ref b) H2) : tCB (rTupL K) (tCons (tLc (iRng1 (tCons tn tNil)) (gName j) tYes te vs) tNil) σ H Q :=
  hn H (Exd.refl p H) hd _ fun v H1 ⟨n, hv, hn24⟩ e1 d1 => by
    subst hv
    refine ⟨n, rfl, by omega, by omega, fun Dl hD => ?_⟩
    have hDp : Dl ≠ p := d1.ne hD
    rw [show ((n : Int).toNat) = n from Int.toNat_natCast n]
    refine lc_range (fun i H' => Exd p H1 H' ∧ Dice p H' ∧ ∃ (rs : List Addr) (cs : List Bx), H' Dl = some (.lst (rs.map V.ref)) ∧ rs.length = i ∧ cs.length = i ∧ (∀ c ∈ cs, c.ok) ∧ ∀ (l : Nat) (r : Addr) (c : Bx), rs[l]? = some r → cs[l]? = some c → r ≠ p ∧ H' r = some (.tup c.v)) ⟨Exd.of (Ex.new hD), d1.ex (Ex.new hD), [], [], upd_same, rfl, rfl, (fun _ h => by cases h), fun l r c h => by cases h⟩ ?_ ?_
    · rintro i H' hi ⟨e', d', rs, cs, hacc, hr, hc, hok, hT⟩
      refine ⟨hw _, ?_⟩
      unfold tYes
      dsimp only
      rw [if_pos rfl]
      refine he _ H' (e1.trans e') d' _ fun b xs H4 hx hb e4 d4 h4 => ?_
      obtain ⟨c, rfl, hc1⟩ := hx
      have hDl := e4 _ _ hDp hacc
      have hbD : b ≠ Dl := fun z => by rw [z, hDl] at h4; cases h4
      refine ⟨rs.map V.ref, hDl, sz_lt (by rw [List.length_map]; omega), fun a o ha ho => ?_, ?_, rs ++ [b], cs ++ [c], ?_, by rw [List.length_append, hr]; rfl, by rw [List.length_append, hc]; rfl, fun x hx => ?_, fun l r c2 h1 h2 => ?_⟩
      · rw [upd_ne (ne_of_none ho hD)]
        exact e4 _ _ ha (e' _ _ ha ho)
      · obtain ⟨x, y, z, h⟩ := d4
        exact ⟨x, y, z, by rw [upd_ne (Ne.symm hDp)]; exact h⟩
      · rw [upd_same, List.map_append]
        rfl
      · rcases List.mem_append.mp hx with z | z
        · exact hok x z
        · rw [List.mem_singleton.mp z]; exact hc1
      · by_cases hl : l < i
        · rw [List.getElem?_append_left (by omega)] at h1 h2
          obtain ⟨h5, h6⟩ := hT l r c2 h1 h2
          have h7 := e4 _ _ h5 h6
          refine ⟨h5, ?_⟩
          rw [upd_ne (fun z => by rw [z, hDl] at h7; cases h7)]
          exact h7
        · have hl2 : l = i := by
            have := (List.getElem?_eq_some_iff.mp h1).1
            rw [List.length_append, hr, List.length_singleton] at this
            omega
          subst hl2
          rw [List.getElem?_append_right (by omega), hr, Nat.sub_self] at h1
          rw [List.getElem?_append_right (by omega), hc, Nat.sub_self] at h2
          cases h1
          cases h2
          exact ⟨hb, by rw [upd_ne hbD]; exact h4⟩
    · rintro H' ⟨e', d', rs, cs, hacc, hr, hc, hok, hT⟩
      refine ⟨Dl, rs.map V.ref, rfl, sq_of hacc, fun b hb => k b cs _ ?_ ⟨by omega, hok⟩ ((e1.trans e').trans (Exd.of (Ex.new hb))) (d'.ex (Ex.new hb))⟩
      exact ⟨d'.ne hb, rs, by omega, st_of upd_same, fun l r c h1 h2 => ⟨(hT l r c h1 h2).1, st_of (Ex.new hb _ _ (hT l r c h1 h2).2)⟩⟩
end
def Bx.ns (b : Bx) : List Int := [b.x, b.y, b.w, b.h]
section
variable {P : Program} {w : World} {K : PySem.W.Frag} {mg : Str → Option Value} {base : Heap}
theorem ok_law_right (T : Txt K mg w) : FnOk P w K mg base CX0 10 T.a_law_right T.fd_law_right ["dice"] (Draws (kOne fun v => v = V.bl true)) := by
  have G_law_bo_arena := ok_arena (P := P) (w := w) (base := base) T
  have G_law_bo_drawn := ok_drawn_box (P := P) (w := w) (base := base) T
  have G_law_roll := ok_roll (P := P) (w := w) (base := base) T
  have G_law_ways_right := ok_ways (P := P) (w := w) (base := base) T
  have G_law_meetings_right := ok_meets (P := P) (w := w) (base := base) T
  have G_law_bo_pace := ok_pace (P := P) (w := w) (base := base) T
  have G_moved_box := ok_moved_box (P := P) (w := w) (base := base) T
  have G_law_bo_moved := ok_lmoved (P := P) (w := w) (base := base) T
  refine T.F_law_right.ok sc_law_right (fun vs H Q E h => ?_) (fun cdv A outer s H vs Q E hr h => ?_)
  · obtain ⟨p, _, ⟨rfl, _⟩, _⟩ := h; rfl
  · obtain ⟨p, _, ⟨rfl, rfl⟩, hd, q⟩ := h
    refine ⟨_, (pss_cons (ps_set (i := 1) sc_law_right.nd rfl (.inr rfl) (pe_call G_law_bo_arena (hr.mono (by decide)) (by rfl) T.g_law_bo_arena T.F_law_bo_arena.kp T.b_law_bo_arena .nil pass0 (pa_cons (pv 0) pa_nil)))
  (pss_cons (ps_set (i := 2) sc_law_right.nd rfl (.inl rfl) (pe_call G_law_bo_drawn (hr.mono (by decide)) (by rfl) T.g_law_bo_drawn T.F_law_bo_drawn.kp T.b_law_bo_drawn .nil pass0 (pa_cons (pv 0) (pa_cons (pv 1) pa_nil))))
  (pss_cons (ps_set (i := 4) sc_law_right.nd rfl (.inl rfl) (pe_callTy c_tupL (by rfl) T.z_tuple (by decide +kernel) (pa_cons (pe_lc (own := [("turn", 3)]) (g := gName 3) (by rfl) sc_law_right.nd (pi_range1 rfl T.z_range (pa_cons (pe_call G_law_roll (hr.mono (by decide)) (by rfl) T.g_law_roll T.F_law_roll.kp T.b_law_roll .nil pass0 (pa_cons (pv 0) (pa_cons pe_int pa_nil))) pa_nil)) (blkOk_by (own := [("turn", 3)]) (N := ["dice", "arena", "box", "turn", "others", "dx", "dy"]) (sc := defScope s_law_right) (by decide +kernel)) (fun _ _ _ _ _ => pg_name (i := 3) sc_law_right.nd rfl (Or.inl rfl)) (fun _ _ _ _ _ => pts_nil) (fun _ _ _ _ _ => (pe_call G_law_bo_drawn (hr.mono (by decide)) (by rfl) T.g_law_bo_drawn T.F_law_bo_drawn.kp T.b_law_bo_drawn .nil pass0 (pa_cons (pv 0) (pa_cons (pv 1) pa_nil))))) pa_nil)))
  (pss_cons (ps_if (PW.pt (pw_or (pt_not (pt_val (pe_call G_law_ways_right (hr.mono (by decide)) (by rfl) T.g_law_ways_right T.F_law_ways_right.kp T.b_law_ways_right .nil pass0 (pa_cons (pv 0) (pa_cons (pv 1) (pa_cons (pv 2) (pa_cons (pv 4) pa_nil))))))) (pw_or1 (pt_not (pt_val (pe_call G_law_meetings_right (hr.mono (by decide)) (by rfl) T.g_law_meetings_right T.F_law_meetings_right.kp T.b_law_meetings_right .nil pass0 (pa_cons (pv 0) (pa_cons (pv 2) (pa_cons (pv 4) pa_nil))))))))) (pss_one (ps_ret pe_bl)) pss_nil)
  (pss_cons (ps_for PassesOwn.never rfl (pi_range1 rfl T.z_range (pa_cons pe_int pa_nil)) (pg_name (i := 3) sc_law_right.nd rfl (.inl rfl)) (pss_cons (ps_par (i := 5) (j := 6) (by rfl) sc_law_right.nd rfl rfl (by decide) rfl rfl (pa_cons (pe_call G_law_bo_pace (hr.mono (by decide)) (by rfl) T.g_law_bo_pace T.F_law_bo_pace.kp T.b_law_bo_pace .nil pass0 (pa_cons (pv 0) pa_nil)) (pa_cons (pe_call G_law_bo_pace (hr.mono (by decide)) (by rfl) T.g_law_bo_pace T.F_law_bo_pace.kp T.b_law_bo_pace .nil pass0 (pa_cons (pv 0) pa_nil)) pa_nil)) (by rfl))
  (pss_one (ps_if (pt_cmpR (op_neD hr.units) (pe_call G_moved_box (hr.mono (by decide)) (by rfl) T.g_moved_box T.F_moved_box.kp T.b_moved_box .nil pass0 (pa_cons (pv 1) (pa_cons (pv 2) (pa_cons (pv 4) (pa_cons (pv 5) (pa_cons (pv 6) pa_nil)))))) (pe_call G_law_bo_moved (hr.mono (by decide)) (by rfl) T.g_law_bo_moved T.F_law_bo_moved.kp T.b_law_bo_moved .nil pass0 (pa_cons (pv 1) (pa_cons (pv 2) (pa_cons (pv 4) (pa_cons (pv 5) (pa_cons (pv 6) pa_nil)))))) (nomark _)) (pss_one (ps_ret pe_bl)) pss_nil))))
  (pss_one (ps_ret (pe_cmpR (op_eqD hr.units) (pe_call G_moved_box (hr.mono (by decide)) (by rfl) T.g_moved_box T.F_moved_box.kp T.b_moved_box .nil pass0 (pa_cons (pv 1) (pa_cons (pv 2) (pa_cons (pv 4) (pa_cons pe_int (pa_cons pe_int pa_nil)))))) (pv 2) (nomark _))))))))), ?_⟩
    refine q_asgU2 (K := K) (p := p) (R := ArenaR) (du_callT (vs := [.ref p]) (fun H1 _ _ => by walk_at "ea") fun H1 _ _ => ⟨rfl, rfl⟩) hd fun a xs H1 hx ha e1 d1 hA => ?_
    obtain ⟨ar, rfl, ka⟩ := hx
    refine q_asgU2 (K := K) (p := p) (R := BoxR) (du_callT (vs := [.ref p, .ref a]) (fun H2 _ _ => by walk_at "ea") fun H2 e2 _ => ⟨a, ar, rfl, ha, e2.tt ha hA, ka, rfl⟩) d1 fun bx xs H2 hx hb e2 d2 hB => ?_
    obtain ⟨b, rfl, kb⟩ := hx
    have hA2 := e2.tt ha hA
    have e12 := e1.trans e2
    refine du_boxes (K := K) (p := p) (H := H2) ((dv_roll (m := 7) rfl (fun H1 => ev_c) (by decide) (by decide)).mono fun v ⟨r, h1, h2, h3⟩ => ⟨r.toNat, by rw [h1, Int.toNat_of_nonneg h2], by omega⟩) (fun _ => rfl) (fun x => dn_callT (vs := [.ref p, .ref a]) (fun H3 _ _ => by walk_at "ea") fun H3 e3 _ => ⟨a, ar, rfl, ha, e3.tt ha hA2, ka, rfl⟩) d2 fun o cs H3 hO kc e3 d3 => ?_
    have hA3 := e3.tt ha hA2
    have hB3 := e3.tt hb hB
    have hR : Ready K p a bx o H3 ar b cs := ⟨ha, hb, hA3, hB3, hO, ka, kb, kc⟩
    have e13 := e12.trans e3
    have w1 : DvF p (tNot (tB (tCall (Draws (kWays K)) [] E0 (tCons (tVar 0) (tCons (tVar 1) (tCons (tVar 2) (tCons (tVar 4) tNil))))))) [some (.ref p), some (.ref a), some (.ref bx), none, some (.ref o), none, none] H3 false := dvf_not (b := true) (dvf_B (dv_call (p := p) (R := fun v => v = .bl true) (vs := [.ref p, .ref a, .ref bx, .ref o]) (fun H1 _ _ => by walk_at "ea") (fun H1 e1 _ => ⟨a, bx, o, ar, b, cs, rfl, hR.ex e1, rfl⟩)))
    have w2 : DvF p (tNot (tB (tCall (Draws (kMeets K)) [] E0 (tCons (tVar 0) (tCons (tVar 2) (tCons (tVar 4) tNil)))))) [some (.ref p), some (.ref a), some (.ref bx), none, some (.ref o), none, none] H3 false := dvf_not (b := true) (dvf_B (dv_call (p := p) (R := fun v => v = .bl true) (vs := [.ref p, .ref bx, .ref o]) (fun H1 _ _ => by walk_at "ea") (fun H1 e1 _ => ⟨bx, o, b, cs, rfl, hb, e1.tt hb hB3, hO.ex e1, kb, kc, rfl⟩)))
    refine q_whenF (p := p) (dvf_or w1 w2) d3 fun H4 e4 d4 => ?_
    have hR4 := hR.ex e4
    have mb : ∀ {H5 σ}, Ready K p a bx o H5 ar b cs → ∀ dx dy : Int, num dx → num dy → ∀ {ts}, EvA ts σ H5 [.ref a, .ref bx, .ref o, .int dx, .int dy] → EvU (tCall (Tupd (kMovedBox K)) [] E0 ts) σ H5 ((movB ar b cs dx dy).ns.map V.int) := fun h dx dy nx ny ts hts => eu_callT hts fun H6 e6 => by
      have h6 := h.ex (Exd.of e6)
      exact ⟨a, bx, o, ar, b, cs, dx, dy, rfl, h6.2.2.1, h6.2.2.2.1, h6.2.2.2.2.1.to, ka, kb, kc, nx, ny, rfl⟩
    refine q_forR1 (n := 4) (by walk_at "ea") ⟨by decide, by decide⟩ (fun i σ' H' => Exd p H4 H' ∧ Dice p H' ∧ ∃ z3 z5 z6, σ' = [some (.ref p), some (.ref a), some (.ref bx), z3, some (.ref o), z5, z6]) (fun H5 e5 => ⟨Exd.of e5, d4.ex e5, none, none, none, rfl⟩) ?_ ?_
    · rintro i σ' H5 hi ⟨e5, d5, z3, z5, z6, rfl⟩
      refine q_parDv (p := p) (R1 := NumV) (R2' := NumV) (dv_call (vs := [.ref p]) (fun H1 _ _ => by walk_at "ea") fun H1 _ _ => ⟨rfl, rfl⟩) (dv_call (vs := [.ref p]) (fun H1 _ _ => by walk_at "ea") fun H1 _ _ => ⟨rfl, rfl⟩) d5 fun v1 v2 H6 h1 h2 e6 d6 => ?_
      obtain ⟨dx, rfl, nx⟩ := h1
      obtain ⟨dy, rfl, ny⟩ := h2
      have hR6 := hR4.ex (e5.trans e6)
      refine s_when (b := false) (et_is (et_test (ev_neD (d := .tuple ((movB ar b cs dx dy).ns.map PyData.int)) (e := .tuple ((movB ar b cs dx dy).ns.map PyData.int)) (evd_intsU (mb hR6 dx dy nx ny (by walk_at "ea"))) (evd_intsU (eu_callT (vs := [.ref a, .ref bx, .ref o, .int dx, .int dy]) (by walk_at "ea") fun H7 e7 => by
          have h7 := hR6.ex (Exd.of e7)
          have kl := kc.1
          exact ⟨a, bx, o, ar, b, cs, dx, dy, rfl, h7.2.2.1, h7.2.2.2.1, h7.2.2.2.2.1.to, by omega, kb.pos, kc.pos, rfl⟩)) (shaped_tup _) (shaped_tup _))) (by rw [eqv_tup]; rfl)) (fun h => by cases h) fun _ H7 e7 => ?_
      exact ⟨e5.trans (e6.trans (Exd.of e7)), d6.ex e7, _, _, _, rfl⟩
    · rintro σ' H5 ⟨e5, d5, z3, z5, z6, rfl⟩
      have hR5 := hR4.ex e5
      have n0 : num 0 := ⟨by decide, by decide⟩
      refine s_ret (v := .bl true) (ev_is (ev_eqD (d := .tuple ((movB ar b cs 0 0).ns.map PyData.int)) (e := .tuple (b.ns.map PyData.int)) (evd_intsU (mb hR5 0 0 n0 n0 (by walk_at "ea"))) (evd_intsT (a := bx) (ev_var rfl) hR5.2.2.2.1) (shaped_tup _) (shaped_tup _)) (by rw [mov_zero, eqv_tup])) fun H6 e6 => q _ H6 rfl (e13.trans (e4.trans (e5.trans (Exd.of e6)))) (d5.ex e6)
end
end Kz
set_option Elab.async false
set_option linter.all false
set_option maxRecDepth 100000
set_option maxHeartbeats 4000000
set_option exponentiation.threshold 500
namespace Kz
open PySem PySem.Spec PyProof.Rows L2 Evl Vr
local macro_rules | `(tactic| walk_at "sc") => `(tactic| first | (with_reducible assumption) | (with_reducible exact sc_mul (by omega)) | (with_reducible exact sc_mulr (by omega)) | (with_reducible exact sc_div (by omega) (by decide)) | (show (0 : Int) < _; omega) | (show _ ≠ (0 : Int); omega) | (with_reducible rfl) | decide)
local macro_rules | `(tactic| walk_at "sq") => `(tactic| first | assumption | exact sq_of (by assumption) | exact st_of (by assumption))
local macro_rules | `(tactic| walk_at "pl") => `(tactic| first | assumption | exact pl_int | exact pl_bl | exact pl_str | exact pl_non | exact pl_lst (by assumption) | exact pl_tup (by assumption) | exact pl_dK (by assumption))
local macro_rules | `(tactic| walk_at "rv") => `(tactic| first
  | with_reducible exact rv_I0
  | with_reducible exact ru_neg
  | ((with_reducible apply rv_I); walk_at "sc")
  | ((with_reducible apply rv_ixL); walk_at "sq"; first | rfl | assumption)
  | ((with_reducible apply rv_ixT); walk_at "sq"; first | rfl | assumption)
  | ((with_reducible apply rv_eq); rfl) | ((with_reducible apply rv_ne); rfl))
local macro_rules | `(tactic| walk_at "rc") => `(tactic| first
  | with_reducible exact rc_I1 | with_reducible exact rc_B1 | with_reducible exact rc_I2 | ((with_reducible apply rc_repr); walk_at "sc") | ((with_reducible apply rc_lenL); walk_at "sq")
  | ((with_reducible apply rc_isiInt); walk_at "pl") | ((with_reducible apply rc_isiBool); walk_at "pl"))
local macro_rules | `(tactic| walk_at "ea") => `(tactic| first
  | with_reducible exact ea_nil | ((with_reducible apply ea_cons); walk_at "ev"; walk_at "ea"))
local macro_rules | `(tactic| walk_at "pow") => `(tactic| first
  | with_reducible exact ev_pow (a := 10) (b := 9) (c := 1000000000) (by decide +kernel) (by decide +kernel)
  | with_reducible exact ev_pow (a := 10) (b := 10) (c := 10000000000) (by decide +kernel) (by decide +kernel)
  | with_reducible exact ev_pow (a := 10) (b := 12) (c := 1000000000000) (by decide +kernel) (by decide +kernel)
  | with_reducible exact ev_pow (a := 10) (b := 17) (c := 100000000000000000) (by decide +kernel) (by decide +kernel)
  | with_reducible exact ev_pow (a := 10) (b := 20) (c := 100000000000000000000) (by decide +kernel) (by decide +kernel)
  | with_reducible exact ev_pow (a := 10) (b := 29) (c := 100000000000000000000000000000) (by decide +kernel) (by decide +kernel)
  | with_reducible exact ev_pow (a := 10) (b := 30) (c := 1000000000000000000000000000000) (by decide +kernel) (by decide +kernel)
  | with_reducible exact ev_pow (a := 10) (b := 40) (c := 10000000000000000000000000000000000000000) (by decide +kernel) (by decide +kernel)
  | with_reducible exact ev_pow (a := 10) (b := 57) (c := 1000000000000000000000000000000000000000000000000000000000) (by decide +kernel) (by decide +kernel)
  | with_reducible exact ev_pow (a := 10) (b := 58) (c := 10000000000000000000000000000000000000000000000000000000000) (by decide +kernel) (by decide +kernel)
  | with_reducible exact ev_pow (a := 10) (b := 59) (c := 100000000000000000000000000000000000000000000000000000000000) (by decide +kernel) (by decide +kernel)
  | with_reducible exact ev_pow (a := 10) (b := 60) (c := 1000000000000000000000000000000000000000000000000000000000000) (by decide +kernel) (by decide +kernel))
local macro_rules | `(tactic| walk_at "call") => `(tactic| (intro H9 e9; first | exact ⟨_, rfl, rfl⟩ | exact ⟨_, _, rfl, rfl⟩ | exact ⟨_, _, _, rfl, rfl⟩ | exact ⟨_, rfl, by walk_at "pl", rfl⟩ | (refine ⟨_, _, _, rfl, ?_, rfl⟩; first | exact Plain.ex e9 (by assumption) | walk_at "pl") | (refine ⟨_, rfl, ?_, rfl⟩; first | exact Plain.ex e9 (by assumption) | walk_at "pl")))
local macro_rules | `(tactic| walk_at "ev") => `(tactic| first
  | with_reducible exact ev_c
  | exact ev_var rfl
  | walk_at "pow"
  | ((with_reducible apply ev_op); walk_at "ev"; walk_at "ev"; walk_at "rv")
  | ((with_reducible apply ev_un); walk_at "ev"; walk_at "rv")
  | ((with_reducible apply ev_cb); walk_at "ea"; walk_at "rc")
  | ((with_reducible apply ev_callP); walk_at "ea"; walk_at "call")
  | ((with_reducible apply ev_chain); walk_at "ev"; walk_at "ev"; walk_at "rv"; walk_at "ev"; walk_at "rv")
  | ((with_reducible apply ev_andV); walk_at "ev"; intro _; walk_at "ev")
  | ((with_reducible apply ev_orV); walk_at "ev"; intro _; walk_at "ev")
  | ((with_reducible apply ev_ite); walk_at "et"; intro _; walk_at "ev"; intro _; walk_at "ev")
  | ((with_reducible apply ev_notV); walk_at "ev"))
local macro_rules | `(tactic| walk_at "et") => `(tactic| first
  | ((with_reducible apply et_test); walk_at "ev")
  | ((with_reducible apply et_B); walk_at "ev")
  | ((with_reducible apply et_and); walk_at "et"; intro _; walk_at "et")
  | ((with_reducible apply et_or); walk_at "et"; intro _; walk_at "et")
  | ((with_reducible apply et_not); walk_at "et"))
section
variable {σ : L2.St} {H : Hp} {te ta tb tc : TE} {t : TT} {ts tr tk : TA} {D : Ends} {K : PySem.W.Frag} {tz : TS} {x z : V}
/-- arguments, some of them new tuples -/
def EvAP (ta : TA) (σ : L2.St) (H : Hp) (P : List V → Hp → Prop) : Prop := ∀ H1, Ex H H1 → ∀ Q : List V → Hp → Prop, (∀ vs H2, Ex H1 H2 → P vs H2 → Q vs H2) → ta σ H1 Q
theorem ap_nil : EvAP tNil σ H (fun vs _ => vs = []) := fun H1 _ _ q => q [] H1 (Ex.refl H1) rfl
theorem ap_cons {P : List V → Hp → Prop} (h : Ev te σ H x) (hr : EvAP tr σ H P) : EvAP (tCons te tr) σ H (fun vs H' => ∃ ws, vs = x :: ws ∧ P ws H') := fun H1 e Q q =>
  h H1 e _ fun H2 e2 => hr H2 (e.trans e2) _ fun ws H3 e3 p => q (x :: ws) H3 (e2.trans e3) ⟨ws, rfl, p⟩
theorem ap_consU {P : List V → Hp → Prop} {xs : List V} (h : EvU te σ H xs) (hr : EvAP tr σ H P) : EvAP (tCons te tr) σ H (fun vs H' => ∃ p ws, vs = .ref p :: ws ∧ H' p = some (.tup xs) ∧ P ws H') := fun H1 e Q q =>
  h H1 e _ fun p H2 hp e2 h2 => hr H2 (e.trans e2) _ fun ws H3 e3 pw => q (.ref p :: ws) H3 (e2.trans e3) ⟨p, ws, rfl, e3 _ _ h2, pw⟩
theorem ev_callAP {ok : List V → Hp → V → Prop} {E : XK} {P : List V → Hp → Prop} (h : EvAP ts σ H P) (ho : ∀ vs H1, Ex H H1 → P vs H1 → ok vs H1 z) : Ev (tCall (Pure ok) [] E ts) σ H z := fun H1 e Q q =>
  h H1 e _ fun vs H2 e2 p => by
    show Pure ok (vs ++ []) H2 Q E
    rw [List.append_nil]
    exact ⟨z, ho vs H2 (e.trans e2) p, fun H3 e3 => q H3 (e2.trans e3)⟩
theorem eu_callAP {ok : List V → Hp → List V → Prop} {E : XK} {P : List V → Hp → Prop} {xs : List V} (h : EvAP ts σ H P) (ho : ∀ vs H1, Ex H H1 → P vs H1 → ok vs H1 xs) : EvU (tCall (Tupd ok) [] E ts) σ H xs := fun H1 e Q q =>
  h H1 e _ fun vs H2 e2 pw => by
    show Tupd ok (vs ++ []) H2 Q E
    rw [List.append_nil]
    exact ⟨xs, ho vs H2 (e.trans e2) pw, fun p H3 hp e3 h3 => q p H3 (fresh_back e2 hp) (e2.trans e3) h3⟩
theorem ev_callNAP {ok : List V → Hp → V → Prop} {E : XK} {P : List V → Hp → Prop} {zs : List V} {n m : Nat} {gV : List V → List V → List V} (h : EvAP tr σ H P) (h2 : ∀ H1, Ex H H1 → EvA tk σ H1 zs) (l1 : ∀ vs H1, P vs H1 → vs.length = n) (l2 : zs.length = m) (ho : ∀ vs H1 H2, Ex H H1 → P vs H1 → Ex H1 H2 → ok (gV vs zs) H2 z) : Ev (tCallN n m (Pure ok) gV E tr tk) σ H z := fun H1 e Q q =>
  h H1 e _ fun vs H2 e2 p => h2 H2 (e.trans e2) H2 (Ex.refl H2) _ fun H3 e3 => ⟨l1 vs H2 p, l2, z, ho vs H2 H3 (e.trans e2) p e3, fun H4 e4 => q H4 ((e2.trans e3).trans e4)⟩
theorem EvAP.mono {P P' : List V → Hp → Prop} (h : EvAP ts σ H P) (k : ∀ vs H1, P vs H1 → P' vs H1) : EvAP ts σ H P' := fun H1 e Q q => h H1 e Q fun vs H2 e2 p => q vs H2 e2 (k vs H2 p)
theorem ap_way {t1 t2 t3 t4 t5 : TE} {x1 x2 x4 x5 : V} {pw : Addr} (h1 : Ev t1 σ H x1) (h2 : Ev t2 σ H x2) (h3 : Ev t3 σ H (.ref pw)) (h4 : Ev t4 σ H x4) (h5 : Ev t5 σ H x5) :
    EvAP (tCons t1 (tCons t2 (tCons (tTup (tCons t3 tNil)) (tCons t4 (tCons t5 tNil))))) σ H (fun vs H' => ∃ t, vs = [x1, x2, .ref t, x4, x5] ∧ H' t = some (.tup [.ref pw])) :=
  (ap_cons h1 (ap_cons h2 (ap_consU (eu_tup (ea_cons h3 ea_nil) (by show 1 ≤ 100000; decide)) (ap_cons h4 (ap_cons h5 ap_nil))))).mono fun vs H1 ⟨_, e1, _, e2, t, _, e3, ht, _, e4, _, e5, e6⟩ => ⟨t, by rw [e1, e2, e3, e4, e5, e6], ht⟩
theorem ap_wayU {t1 t2 t4 t5 : TE} {ts3 : TA} {x1 x4 x5 : V} {xs ys : List V} (h1 : Ev t1 σ H x1) (h2 : EvU t2 σ H xs) (h3 : EvU (tTup ts3) σ H ys) (h4 : Ev t4 σ H x4) (h5 : Ev t5 σ H x5) :
    EvAP (tCons t1 (tCons t2 (tCons (tTup ts3) (tCons t4 (tCons t5 tNil))))) σ H (fun vs H' => ∃ b t, vs = [x1, .ref b, .ref t, x4, x5] ∧ H' b = some (.tup xs) ∧ H' t = some (.tup ys)) :=
  (ap_cons h1 (ap_consU h2 (ap_consU h3 (ap_cons h4 (ap_cons h5 ap_nil))))).mono fun vs H1 ⟨_, e1, b, _, e2, hb, t, _, e3, ht, _, e4, _, e5, e6⟩ => ⟨b, t, by rw [e1, e2, e3, e4, e5, e6], hb, ht⟩
theorem q_asgD {i : Nat} {d : PyData} (h : EvD K te σ H d) (k : ∀ v H1, Ex H H1 → Dp K H1 v d → tz D (σ.set i (some v)) H1) : tSeq (tAsg te (gName i)) tz D σ H := h H (Ex.refl H) _ fun v H1 e p => k v H1 e p
theorem evd_var {i : Nat} {d : PyData} {v : V} (h : σ[i]? = some (some v)) (p : Dp K H v d) : EvD K (tVar i) σ H d := evd_of (ev_var h) fun H1 e => dp_ex e p
theorem q_asg3U {i j l : Nat} {xs ys zs : List V} (h1 : EvU ta σ H xs) (h2 : EvU tb σ H ys) (h3 : EvU tc σ H zs) (k : ∀ p r s H1, Ex H H1 → H1 p = some (.tup xs) → H1 r = some (.tup ys) → H1 s = some (.tup zs) → tz D (((σ.set i (some (.ref p))).set j (some (.ref r))).set l (some (.ref s))) H1) :
    tSeq (tAsg (tTup (tCons ta (tCons tb (tCons tc tNil)))) (gTup K 3 (gCons (gName i) (gCons (gName j) (gCons (gName l) gNil))))) tz D σ H :=
  h1 H (Ex.refl H) _ fun p H1 hp e1 hx => h2 H1 e1 _ fun r H2 hr e2 hy => h3 H2 (e1.trans e2) _ fun s H3 hs e3 hz => ⟨by show 3 ≤ sizeLine; decide, fun t ht => ⟨t, [.ref p, .ref r, .ref s], rfl, st_of upd_same, rfl, .ref p, [.ref r, .ref s], rfl, .ref r, [.ref s], rfl, .ref s, [], rfl, rfl,
    k p r s _ (((e1.trans e2).trans e3).trans (Ex.new ht)) (Ex.new ht _ _ (e3 _ _ (e2 _ _ hx))) (Ex.new ht _ _ (e3 _ _ hy)) (Ex.new ht _ _ hz)⟩⟩
theorem el_lcNT {xs : List V} {tl : TE} {j : Nat} {vs : List Nat} (f : Nat → Bool) (v : Nat → V) (h : EvU tl σ H xs) (hz : xs.length ≤ 40000) (hw : ∀ x, wipe ((wipe σ vs).set j (some x)) vs = wipe σ vs)
    (ht : ∀ (i : Nat) (x : V) H1, Ex H H1 → xs[i]? = some x → EvT t ((wipe σ vs).set j (some x)) H1 (f i)) (he : ∀ (i : Nat) (x : V) H1, Ex H H1 → xs[i]? = some x → f i = true → Ev te ((wipe σ vs).set j (some x)) H1 (v i)) :
    EvL (tLc (iTup K tl) (gName j) t te vs) σ H (given xs.length f v) := fun H0 e Q q => h H0 e _ fun a H1 ha e1 hx => ⟨a, rfl, ⟨xs, st_of hx⟩, fun Dl hD =>
  lc_tup (xs := xs) (Cw H1 f v Dl) ⟨hD, Ex.new hD, upd_same⟩ (fun i H' _ p => st_of (p.2.1 a _ hx)) (fun i x H' hi p => ⟨hw x, cw_turn p (by have := (List.getElem?_eq_some_iff.mp hi).1; omega) (ht i x H1 (e.trans e1) hi) (fun hf => he i x H1 (e.trans e1) hi hf)⟩)
    (fun H' p => q Dl H' (fresh_back e1 p.1) (e1.trans p.2.1) p.2.2)⟩
theorem dpa_bls {H : Hp} : ∀ bs : List Bool, DpAll K H (bs.map V.bl) (bs.map PyData.bool)
  | [] => .nil
  | b :: bs => .cons (.bl b) (dpa_bls bs)
theorem evd_bls {bs : List Bool} (h : EvL te σ H (bs.map V.bl)) : EvD K te σ H (.list (bs.map PyData.bool)) := fun H1 e Q q => h H1 e Q fun p H2 _ e2 h2 => q _ H2 e2 (.lst (sq_of h2) (dpa_bls bs))
theorem et_notN (h : Ev te σ H x) : EvT (tB (tNotN te)) σ H (!decide (x = .non)) := fun H1 e _ q => h H1 e _ fun H2 e2 => ⟨_, rfl, q H2 e2⟩
end
/-- if not right(dice(script, spot)): .. -/
theorem s_whenDice {ok : List V → Hp → Addr → (V → Prop) → Prop} {tu : TS} {a : Addr} {ns : List Int} {i : Nat} {σ : L2.St} {H : Hp} {ts : TA} {D : Ends} {K : PySem.W.Frag} (h : EvA ts σ H [.ref a, .int i]) (hS : SqL K H a (ns.map V.int)) (ho : ∀ p H1, H p = none → Ex H H1 → Dice p H1 → ok [.ref p] H1 p (fun v => v = .bl true)) (k : ∀ H1, Ex H H1 → D.nx σ H1) :
    tIfS (tNot (tB (tCall (Draws ok) [] E0 (tCons (tCall (spDice K) [] E0 ts) tNil)))) tu tNext D σ H :=
  h H (Ex.refl H) _ fun H1 e1 => ⟨a, ns, i, rfl, ex_l e1 hS, fun p H2 hp e2 d2 => ⟨p, _, ho p H2 (fresh_back e1 hp) (e1.trans e2) d2, d2, fun v H3 hv e3 d3 => ⟨true, hv, by
    show (if (!true) = true then tu D σ H3 else tNext D σ H3)
    rw [if_neg (by decide)]
    exact k H3 (Exd.out e3 (e1.trans e2) (fresh_back e1 hp))⟩⟩⟩
abbrev wallB : Bx := ⟨5, 0, 1, 4⟩
abbrev ballB : Bx := ⟨1, 1, 2, 2⟩
abbrev roomA : Ar := ⟨12, 6⟩
theorem ok_bx {b : Bx} (h : (decide (-1000000000 ≤ b.x) && decide (b.x ≤ 1000000000) && decide (-1000000000 ≤ b.y) && decide (b.y ≤ 1000000000) && decide (1 ≤ b.w) && decide (b.w ≤ 40) && decide (1 ≤ b.h) && decide (b.h ≤ 40)) = true) : b.ok := by
  simp only [Bool.and_eq_true, decide_eq_true_eq] at h
  obtain ⟨⟨⟨⟨⟨⟨⟨h1, h2⟩, h3⟩, h4⟩, h5⟩, h6⟩, h7⟩, h8⟩ := h
  exact ⟨⟨h1, h2⟩, ⟨h3, h4⟩, h5, h6, h7, h8⟩
theorem room_ok : roomA.ok := ⟨by decide, by decide, by decide, by decide⟩
theorem wall_sound : Sound [wallB] := ⟨by decide, fun c hc => by
  rw [List.mem_singleton.mp hc]
  exact ok_bx (by decide)⟩
theorem nil_sound : Sound [] := ⟨by decide, fun c hc => by cases hc⟩
section
variable {P : Program} {w : World} {K : PySem.W.Frag} {mg : Str → Option Value} {base : Heap}
theorem boxes_one {H : Hp} {o r : Addr} (h : H o = some (.tup [.ref r])) (hr : H r = some (.tup wallB.v)) : Boxes K H o [wallB] :=
  ⟨[r], rfl, st_of h, fun i r' c h1 h2 => by
    match i, h1, h2 with
    | 0, h1, h2 => cases h1; cases h2; exact st_of hr
    | i + 1, h1, h2 => cases h1⟩
theorem boxes_nil {H : Hp} {o : Addr} (h : H o = some (.tup [])) : Boxes K H o [] := ⟨[], rfl, st_of h, fun i r' c h1 h2 => by cases h1⟩
def spLaw (K : PySem.W.Frag) : Sp := fun vs H Q _ => ∃ (a : Addr) (ns : List Int), vs = [.ref a] ∧ SqL K H a (ns.map V.int) ∧ ns.length ≤ 63 ∧ ∀ H', Q (.bl true) H'
theorem ok_law (T : Txt K mg w) {f : Addr} {fd : FuncData} (F : Fun K "law" "law" s_law f fd) : FnOk P w K mg base CX0 11 f fd ["script"] (spLaw K) := by
  have G_law_dice := ok_dice (P := P) (w := w) (base := base) T
  have G_law_right := ok_law_right (P := P) (w := w) (base := base) T
  have G_reach := ok_reach (P := P) (w := w) (base := base) T
  have G_barrier := ok_barrier (P := P) (w := w) (base := base) T
  have G_moved_box := ok_moved_box (P := P) (w := w) (base := base) T
  have G_are_meeting := ok_are_meeting (P := P) (w := w) (base := base) T
  refine F.ok sc_law (fun vs H Q E h => ?_) (fun cdv A outer s H vs Q E hr h => ?_)
  · obtain ⟨_, _, rfl, _⟩ := h; rfl
  · obtain ⟨a, ns, rfl, hS, hlen, q⟩ := h
    refine ⟨_, (pss_cons (ps_for PassesOwn.never rfl (pi_range1 rfl T.z_range (pa_cons (pe_callB (c_max rfl) (by rfl) T.z_max (by decide +kernel) (pa_cons pe_int (pa_cons (pe_callB (c_min rfl) (by rfl) T.z_min (by decide +kernel) (pa_cons pe_int (pa_cons (pe_callB c_len (by rfl) T.z_len PySem.boot_len (pa_cons (pv 0) pa_nil)) pa_nil))) pa_nil))) pa_nil)) (pg_name (i := 1) sc_law.nd rfl (.inl rfl)) (pss_one (ps_if (pt_not (pt_val (pe_call G_law_right (hr.mono (by decide)) (by rfl) T.g_law_right T.F_law_right.kp T.b_law_right .nil pass0 (pa_cons (pe_call G_law_dice (hr.mono (by decide)) (by rfl) T.g_law_dice T.F_law_dice.kp T.b_law_dice .nil pass0 (pa_cons (pv 0) (pa_cons (pv 1) pa_nil))) pa_nil)))) (pss_one (ps_ret pe_bl)) pss_nil)))
  (pss_cons (ps_asg (pe_tup (pa_cons (pe_tup (pa_cons pe_int (pa_cons pe_int (pa_cons pe_int (pa_cons pe_int pa_nil))))) (pa_cons (pe_tup (pa_cons pe_int (pa_cons pe_int (pa_cons pe_int (pa_cons pe_int pa_nil))))) (pa_cons (pe_tup (pa_cons pe_int (pa_cons pe_int pa_nil))) pa_nil)))) (pg_tup rfl (pgs_cons (pg_name (i := 2) sc_law.nd rfl (.inr rfl)) (pgs_cons (pg_name (i := 3) sc_law.nd rfl (.inl rfl)) (pgs_cons (pg_name (i := 4) sc_law.nd rfl (.inl rfl)) pgs_nil)))))
  (pss_cons (ps_set (i := 5) sc_law.nd rfl (.inl rfl) (pe_lst (pa_cons (pe_call G_reach (hr.mono (by decide)) (by rfl) T.g_reach T.F_reach.kp T.b_reach .nil pass0 (pa_cons (pv 4) (pa_cons (pv 3) (pa_cons (pe_tup (pa_cons (pv 2) pa_nil)) (pa_cons pe_str (pa_cons pe_int pa_nil)))))) (pa_cons (pe_call G_barrier (hr.mono (by decide)) (by rfl) T.g_barrier T.F_barrier.kp T.b_barrier .nil pass0 (pa_cons (pv 4) (pa_cons (pv 3) (pa_cons (pe_tup (pa_cons (pv 2) pa_nil)) (pa_cons pe_str (pa_cons pe_int pa_nil)))))) (pa_cons (pe_call G_barrier (hr.mono (by decide)) (by rfl) T.g_barrier T.F_barrier.kp T.b_barrier .nil pass0 (pa_cons (pv 4) (pa_cons (pv 3) (pa_cons (pe_tup (pa_cons (pv 2) pa_nil)) (pa_cons pe_str (pa_cons pe_int pa_nil)))))) pa_nil)))))
  (pss_cons (ps_if (PW.pt (pw_or (pt_cmpR (op_neD hr.units) (pv 5) (pe_lst (pa_cons pe_int (pa_cons pe_int (pa_cons (pe_un un_neg pe_int) pa_nil)))) (nomark _)) (pw_or (pt_cmp (pc_notN (pe_call G_barrier (hr.mono (by decide)) (by rfl) T.g_barrier T.F_barrier.kp T.b_barrier .nil pass0 (pa_cons (pv 4) (pa_cons (pv 3) (pa_cons (pe_tup (pa_cons (pv 2) pa_nil)) (pa_cons pe_str (pa_cons pe_int pa_nil))))))) rfl) (pw_or1 (pt_cmpR op_ne (pe_call G_reach (hr.mono (by decide)) (by rfl) T.g_reach T.F_reach.kp T.b_reach .nil pass0 (pa_cons (pv 4) (pa_cons (pe_tup (pa_cons pe_int (pa_cons pe_int (pa_cons pe_int (pa_cons pe_int pa_nil))))) (pa_cons (pe_tup (pa_cons (pv 2) pa_nil)) (pa_cons pe_str (pa_cons pe_int pa_nil)))))) pe_int (nomark _)))))) (pss_one (ps_ret pe_bl)) pss_nil)
  (pss_cons (ps_set (i := 5) sc_law.nd rfl (.inl rfl) (pe_lst (pa_cons (pe_call G_moved_box (hr.mono (by decide)) (by rfl) T.g_moved_box T.F_moved_box.kp T.b_moved_box .nil pass0 (pa_cons (pv 4) (pa_cons (pv 3) (pa_cons (pe_tup (pa_cons (pv 2) pa_nil)) (pa_cons pe_int (pa_cons pe_int pa_nil)))))) (pa_cons (pe_call G_moved_box (hr.mono (by decide)) (by rfl) T.g_moved_box T.F_moved_box.kp T.b_moved_box .nil pass0 (pa_cons (pv 4) (pa_cons (pe_tup (pa_cons pe_int (pa_cons pe_int (pa_cons pe_int (pa_cons pe_int pa_nil))))) (pa_cons (pe_tup (pa_cons (pv 2) pa_nil)) (pa_cons pe_int (pa_cons pe_int pa_nil)))))) (pa_cons (pe_call G_moved_box (hr.mono (by decide)) (by rfl) T.g_moved_box T.F_moved_box.kp T.b_moved_box .nil pass0 (pa_cons (pv 4) (pa_cons (pe_tup (pa_cons (pe_un un_neg pe_int) (pa_cons pe_int (pa_cons pe_int (pa_cons pe_int pa_nil))))) (pa_cons (pe_tup pa_nil) (pa_cons (pe_un un_neg pe_int) (pa_cons pe_int pa_nil)))))) pa_nil)))))
  (pss_cons (ps_if (pt_cmpR (op_neD hr.units) (pv 5) (pe_lst (pa_cons (pe_tup (pa_cons pe_int (pa_cons pe_int (pa_cons pe_int (pa_cons pe_int pa_nil))))) (pa_cons (pe_tup (pa_cons pe_int (pa_cons pe_int (pa_cons pe_int (pa_cons pe_int pa_nil))))) (pa_cons (pe_tup (pa_cons (pe_un un_neg pe_int) (pa_cons pe_int (pa_cons pe_int (pa_cons pe_int pa_nil))))) pa_nil)))) (nomark _)) (pss_one (ps_ret pe_bl)) pss_nil)
  (pss_one (ps_ret (pe_cmpR (op_eqD hr.units) (pe_lc (own := [("grown_here", 6)]) (g := gName 6) (by rfl) sc_law.nd (pi_tup (pe_tup (pa_cons pe_int (pa_cons pe_int (pa_cons (pe_un un_neg pe_int) pa_nil))))) (blkOk_by (own := [("grown_here", 6)]) (N := ["script", "spot", "wall", "ball", "room", "told", "grown_here"]) (sc := defScope s_law) (by decide +kernel)) (fun _ _ _ _ _ => pg_name (i := 6) sc_law.nd rfl (Or.inl rfl)) (fun _ _ _ _ _ => pts_nil) (fun _ _ _ _ _ => (pe_callN G_are_meeting (hr.mono (by decide)) (by rfl) T.g_are_meeting T.F_are_meeting.kp T.kb_are_meeting pass0 (pa_cons (pe_tup (pa_cons pe_int (pa_cons pe_int (pa_cons pe_int (pa_cons pe_int pa_nil))))) (pa_cons (pv 2) pa_nil)) (pk_cons (pv 6) pk_nil)))) (pe_lst (pa_cons pe_bl (pa_cons pe_bl (pa_cons pe_bl pa_nil)))) (nomark _)))))))))), ?_⟩
    have hcnt : ∃ m : Int, 0 ≤ m ∧ m ≤ 1000 ∧ (if (if (ns.map V.int).length < (3 : Int) then ((ns.map V.int).length : Int) else 3) > 1 then (if (ns.map V.int).length < (3 : Int) then ((ns.map V.int).length : Int) else 3) else 1) = m := ⟨_, by split <;> split <;> omega, by split <;> split <;> omega, rfl⟩
    obtain ⟨m, hm0, hm1, hm⟩ := hcnt
    refine q_forR1 (n := m) (ea_cons (ev_is (by walk_at "ev") (by rw [← hm])) ea_nil) ⟨hm0, by omega⟩ (fun i σ' H' => Ex H H' ∧ ∃ z1, σ' = [some (.ref a), z1, none, none, none, none, none]) (fun H1 e1 => ⟨e1, none, rfl⟩) ?_ ?_
    · rintro i σ' H1 hi ⟨e1, z1, rfl⟩
      refine s_whenDice (a := a) (ns := ns) (i := i) (by walk_at "ea") (ex_l e1 hS) (fun p H2 _ _ _ => ⟨rfl, rfl⟩) fun H2 e2 => ⟨e1.trans e2, _, rfl⟩
    rintro σ' H1 ⟨e1, z1, rfl⟩
    refine q_asg3U (xs := [.int 5, .int 0, .int 1, .int 4]) (ys := [.int 1, .int 1, .int 2, .int 2]) (zs := [.int 12, .int 6]) (eu_tup (by walk_at "ea") (by decide)) (eu_tup (by walk_at "ea") (by decide)) (eu_tup (by walk_at "ea") (by decide)) fun pw pb pr H2 e2 hw hb hro => ?_
    have way : ∀ {H3 H4 : Hp} {vs : List V} {sd : Sd} {m : Int}, Ex H2 H3 → Ex H3 H4 → (∃ t, vs = [.ref pr, .ref pb, .ref t, .str sd.n, .int m] ∧ H4 t = some (.tup [.ref pw])) → 0 ≤ m → m ≤ 1000000000 → Way K vs H4 roomA ballB [wallB] sd m := fun e3 e4 ⟨t, hv, ht⟩ m0 m1 =>
      ⟨pr, pb, t, hv, st_of ((e3.trans e4) _ _ hro), st_of ((e3.trans e4) _ _ hb), boxes_one ht ((e3.trans e4) _ _ hw), room_ok, ok_bx (by decide), wall_sound, m0, m1⟩
    refine q_asgL (xs := [.int 2, .int 0, .int (-1)]) (el_lst (ea_cons ?r1 (ea_cons ?r2 (ea_cons ?r3 ea_nil))) (by decide)) fun l H3 _ e3 hl => ?_
    case r1 => exact ev_is (ev_callAP (ap_way (ev_var rfl) (ev_var rfl) (ev_var rfl) ev_c ev_c) fun vs H4 e4 hP => ⟨roomA, ballB, [wallB], .right, 9, way (Ex.refl H2) e4 hP (by decide) (by decide), rfl⟩) (by decide +kernel)
    case r2 => exact ev_is (ev_callAP (ap_way (ev_var rfl) (ev_var rfl) (ev_var rfl) ev_c ev_c) fun vs H4 e4 hP => ⟨roomA, ballB, [wallB], .right, 9, way (Ex.refl H2) e4 hP (by decide) (by decide), rfl⟩) (by decide +kernel)
    case r3 => exact ev_is (ev_callAP (ap_way (ev_var rfl) (ev_var rfl) (ev_var rfl) ev_c ev_c) fun vs H4 e4 hP => ⟨roomA, ballB, [wallB], .left, 9, way (Ex.refl H2) e4 hP (by decide) (by decide), rfl⟩) (by decide +kernel)
    refine q_when (b := false) (et_or (a := false) (b := false) ?t1 fun _ => et_or (a := false) (b := false) ?t2 fun _ => ?t3) (fun h => by cases h) fun _ H4 e4 => ?_
    case t1 => exact et_is (et_test (ev_neD (d := .list [.int 2, .int 0, .int (-1)]) (e := .list [.int 2, .int 0, .int (-1)]) (evd_var rfl (.lst (sq_of hl) (dpa_ints [2, 0, -1]))) (evd_lst (evda_cons (evd_int ev_c) (evda_cons (evd_int ev_c) (evda_cons (evd_int (by walk_at "ev")) evda_nil))) (by decide)) (by decide +kernel) (by decide +kernel))) (by decide +kernel)
    case t2 => exact et_is (et_notN (x := .non) (ev_is (ev_callAP (ap_way (ev_var rfl) (ev_var rfl) (ev_var rfl) ev_c ev_c) fun vs H5 e5 hP => ⟨roomA, ballB, [wallB], .right, 2, way e3 e5 hP (by decide) (by decide), rfl⟩) (by decide +kernel))) (by decide +kernel)
    case t3 => exact et_is (et_test (ev_op (x := .int 5) (y := .int 5) (ev_is (ev_callAP (ap_wayU (xs := [.int 5, .int 1, .int 2, .int 2]) (ys := [.ref pw]) (ev_var rfl) (eu_tup (by walk_at "ea") (by decide)) (eu_tup (by walk_at "ea") (by show 1 ≤ 100000; decide)) ev_c ev_c) fun vs H5 e5 ⟨b, t, hv, hb2, ht⟩ => ⟨roomA, ⟨5, 1, 2, 2⟩, [wallB], .right, 9, ⟨pr, b, t, hv, st_of ((e3.trans e5) _ _ hro), st_of hb2, boxes_one ht ((e3.trans e5) _ _ hw), room_ok, ok_bx (by decide), wall_sound, by decide, by decide⟩, rfl⟩) (by decide +kernel)) ev_c (rv_ne rfl))) (by decide +kernel)
    have e4 := e3.trans e4
    have hm1 : movB roomA ballB [wallB] 9 9 = ⟨3, 4, 2, 2⟩ := rfl
    have hm2 : movB roomA ⟨5, 1, 2, 2⟩ [wallB] 9 0 = ⟨10, 1, 2, 2⟩ := rfl
    have hm3 : movB roomA ⟨-3, 1, 2, 2⟩ [] (-4) 0 = ⟨-3, 1, 2, 2⟩ := rfl
    refine q_asgD (K := K) (d := .list [.tuple ([3, 4, 2, 2].map PyData.int), .tuple ([10, 1, 2, 2].map PyData.int), .tuple ([-3, 1, 2, 2].map PyData.int)]) (evd_lst (evda_cons (evd_intsU ?m1) (evda_cons (evd_intsU ?m2) (evda_cons (evd_intsU ?m3) evda_nil))) (by decide)) fun v H5 e5 hv => ?_
    case m1 => exact eu_callAP (ap_way (ev_var rfl) (ev_var rfl) (ev_var rfl) ev_c ev_c) fun vs H5 e5 ⟨t, hv, ht⟩ => ⟨pr, pb, t, roomA, ballB, [wallB], 9, 9, hv, st_of ((e4.trans e5) _ _ hro), st_of ((e4.trans e5) _ _ hb), boxes_one ht ((e4.trans e5) _ _ hw), room_ok, ok_bx (by decide), wall_sound, ⟨by decide, by decide⟩, ⟨by decide, by decide⟩, by rw [hm1]; rfl⟩
    case m2 => exact eu_callAP (ap_wayU (xs := [.int 5, .int 1, .int 2, .int 2]) (ys := [.ref pw]) (ev_var rfl) (eu_tup (by walk_at "ea") (by decide)) (eu_tup (by walk_at "ea") (by show 1 ≤ 100000; decide)) ev_c ev_c) fun vs H5 e5 ⟨b, t, hv, hb2, ht⟩ => ⟨pr, b, t, roomA, ⟨5, 1, 2, 2⟩, [wallB], 9, 0, hv, st_of ((e4.trans e5) _ _ hro), st_of hb2, boxes_one ht ((e4.trans e5) _ _ hw), room_ok, ok_bx (by decide), wall_sound, ⟨by decide, by decide⟩, ⟨by decide, by decide⟩, by rw [hm2]; rfl⟩
    case m3 => exact eu_callAP (ap_wayU (xs := [.int (-3), .int 1, .int 2, .int 2]) (ys := []) (ev_var rfl) (eu_tup (by walk_at "ea") (by decide)) (eu_tup (by walk_at "ea") (by decide)) (by walk_at "ev") ev_c) fun vs H5 e5 ⟨b, t, hv, hb2, ht⟩ => ⟨pr, b, t, roomA, ⟨-3, 1, 2, 2⟩, [], -4, 0, hv, st_of ((e4.trans e5) _ _ hro), st_of hb2, boxes_nil ht, room_ok, ok_bx (by decide), nil_sound, ⟨by decide, by decide⟩, ⟨by decide, by decide⟩, by rw [hm3]; rfl⟩
    refine q_when (b := false) (et_is (et_test (ev_neD (d := .list [.tuple ([3, 4, 2, 2].map PyData.int), .tuple ([10, 1, 2, 2].map PyData.int), .tuple ([-3, 1, 2, 2].map PyData.int)]) (e := .list [.tuple [.int 3, .int 4, .int 2, .int 2], .tuple [.int 10, .int 1, .int 2, .int 2], .tuple [.int (-3), .int 1, .int 2, .int 2]]) (evd_var rfl hv) (evd_lst (evda_cons (evd_tup (evda_cons (evd_int ev_c) (evda_cons (evd_int ev_c) (evda_cons (evd_int ev_c) (evda_cons (evd_int ev_c) evda_nil)))) (by decide)) (evda_cons (evd_tup (evda_cons (evd_int ev_c) (evda_cons (evd_int ev_c) (evda_cons (evd_int ev_c) (evda_cons (evd_int ev_c) evda_nil)))) (by decide)) (evda_cons (evd_tup (evda_cons (evd_int (by walk_at "ev")) (evda_cons (evd_int ev_c) (evda_cons (evd_int ev_c) (evda_cons (evd_int ev_c) evda_nil)))) (by decide)) evda_nil))) (by decide)) (by decide +kernel) (by decide +kernel))) (by decide +kernel)) (fun h => by cases h) fun _ H6 e6 => ?_
    have e6 := (e4.trans e5).trans e6
    refine s_ret (v := .bl true) (ev_is (ev_eqD (d := .list ([false, true, false].map PyData.bool)) (e := .list [.bool false, .bool true, .bool false]) (evd_bls ?bl) (evd_lst (evda_cons (evd_bl ev_c) (evda_cons (evd_bl ev_c) (evda_cons (evd_bl ev_c) evda_nil))) (by decide)) (by decide +kernel) (by decide +kernel)) (by decide +kernel)) fun H7 e7 => q H7
    have eb : [false, true, false].map V.bl = given [V.int 0, .int 1, .int (-1)].length (fun _ => true) (fun i => V.bl ([false, true, false].getD i false)) := rfl
    rw [eb]
    refine el_lcNT (xs := [V.int 0, .int 1, .int (-1)]) (fun _ => true) (fun i => V.bl ([false, true, false].getD i false)) (eu_tup (by walk_at "ea") (by decide)) (by decide) (fun _ => rfl) (fun i x H7 e7 hx => fun H4 e4 Q' q' => q' H4 (Ex.refl H4)) fun i x H7 e7 hx _ => ?_
    have hx2 : ∃ g : Int, x = .int g ∧ num g ∧ meet g ⟨3, 1, 2, 2⟩ wallB = [false, true, false].getD i false := by
      match i, hx with
      | 0, hx => exact ⟨0, (Option.some.inj hx).symm, ⟨by decide, by decide⟩, by decide +kernel⟩
      | 1, hx => exact ⟨1, (Option.some.inj hx).symm, ⟨by decide, by decide⟩, by decide +kernel⟩
      | 2, hx => exact ⟨-1, (Option.some.inj hx).symm, ⟨by decide, by decide⟩, by decide +kernel⟩
      | i + 3, hx => cases hx
    obtain ⟨g, rfl, kg, hg⟩ := hx2
    rw [← hg]
    refine ev_callNAP (P := fun vs H' => ∃ t, vs = [.ref t, .ref pw] ∧ H' t = some (.tup [.int 3, .int 1, .int 2, .int 2])) (zs := [.int g]) ((ap_consU (xs := [.int 3, .int 1, .int 2, .int 2]) (eu_tup (by walk_at "ea") (by decide)) (ap_cons (ev_var rfl) ap_nil)).mono fun vs H1 ⟨t, _, h1, ht, _, h2, h3⟩ => ⟨t, by rw [h1, h2, h3], ht⟩) (fun H1 _ => by walk_at "ea") (fun vs H1 ⟨t, hv, _⟩ => by rw [hv]; rfl) rfl fun vs H8 H9 e8 ⟨t, hv, ht⟩ e9 => ⟨t, pw, ⟨3, 1, 2, 2⟩, wallB, g, by rw [hv]; rfl, st_of (e9 _ _ ht), st_of (((e6.trans e7).trans (e8.trans e9)) _ _ hw), ok_bx (by decide), ok_bx (by decide), kg, rfl⟩
end
end Kz
set_option Elab.async false
set_option linter.all false
set_option maxRecDepth 100000
set_option maxHeartbeats 4000000
set_option exponentiation.threshold 500
namespace Kz
open PySem PySem.Spec PyProof.Rows L2 Evl Vr
open En
theorem all_mk {l : PySem.W.OpenLaw} {w : World} {K : PySem.W.Frag} {h : Heap} {mg : Str → Option Value} {fa f0 f1 f2 f3 f4 f5 f6 f7 f8 f9 f10 f11 f12 f13 f14 f15 f16 f17 f18 f19 f20 f21 f22 f23 f24 f25 f26 f27 f28 f29 f30 f31 f32 f33 f34 f35 f36 f37 f38 f39 f40 f41 f42 f43 f44 : Addr} (X : K.In h) (G : h.Ns mainGlobals mg) (hfa : mg "law" = some (.ref fa)) {aSD : Addr} {odSD : Option Addr} {tSD0 tSD1 tSD2 tSD3 : Tok} {nSD : Nat} {slSD : Array (Option Value)} {aWY : Addr} {esWY : Array DictEntry} {nWY : Nat} {wW0 : Addr} {odW0 : Option Addr} {tWa0 tWb0 : Tok} {nW0 : Nat} {slW0 : Array (Option Value)} {wW1 : Addr} {odW1 : Option Addr} {tWa1 tWb1 : Tok} {nW1 : Nat} {slW1 : Array (Option Value)} {wW2 : Addr} {odW2 : Option Addr} {tWa2 tWb2 : Tok} {nW2 : Nat} {slW2 : Array (Option Value)} {wW3 : Addr} {odW3 : Option Addr} {tWa3 tWb3 : Tok} {nW3 : Nat} {slW3 : Array (Option Value)} {t_MOST : Tok} {t_MAX_ARENA : Tok} {t_MAX_BODY : Tok} {t_MOST_UNITS : Tok} {t_MOST_OTHERS : Tok} {t_MOST_MANY : Tok}
    {od0 an0 od1 an1 od2 an2 od3 an3 od4 an4 od5 an5 od6 an6 od7 an7 od8 an8 od9 an9 od10 an10 od11 an11 od12 an12 od13 an13 od14 an14 od15 an15 od16 an16 od17 an17 od18 an18 od19 an19 od20 an20 od21 an21 od22 an22 od23 an23 od24 an24 od25 an25 od26 an26 od27 an27 od28 an28 od29 an29 od30 an30 od31 an31 od32 an32 od33 an33 od34 an34 od35 an35 od36 an36 od37 an37 od38 an38 od39 an39 od40 an40 od41 an41 od42 an42 od43 an43 od44 an44 : Option Addr} {sl0 sl1 sl2 sl3 sl4 sl5 sl6 sl7 sl8 sl9 sl10 sl11 sl12 sl13 sl14 sl15 sl16 sl17 sl18 sl19 sl20 sl21 sl22 sl23 sl24 sl25 sl26 sl27 sl28 sl29 sl30 sl31 sl32 sl33 sl34 sl35 sl36 sl37 sl38 sl39 sl40 sl41 sl42 sl43 sl44 : Array (Option Value)} {oc0 kV0 dc0 pm0 cd0 ct0 oc1 kV1 dc1 pm1 cd1 ct1 oc2 kV2 dc2 pm2 cd2 ct2 oc3 kV3 dc3 pm3 cd3 ct3 oc4 kV4 dc4 pm4 cd4 ct4 oc5 kV5 dc5 pm5 cd5 ct5 oc6 kV6 dc6 pm6 cd6 ct6 oc7 kV7 dc7 pm7 cd7 ct7 oc8 kV8 dc8 pm8 cd8 ct8 oc9 kV9 dc9 pm9 cd9 ct9 oc10 dc10 pm10 cd10 ct10 oc11 kV11 dc11 pm11 cd11 ct11 oc12 kV12 dc12 pm12 cd12 ct12 oc13 kV13 dc13 pm13 cd13 ct13 oc14 kV14 dc14 pm14 cd14 ct14 oc15 kV15 dc15 pm15 cd15 ct15 oc16 kV16 dc16 pm16 cd16 ct16 oc17 kV17 dc17 pm17 cd17 ct17 oc18 kV18 dc18 pm18 cd18 ct18 oc19 kV19 dc19 pm19 cd19 ct19 oc20 kV20 dc20 pm20 cd20 ct20 oc21 kV21 dc21 pm21 cd21 ct21 oc22 kV22 dc22 pm22 cd22 ct22 oc23 kV23 dc23 pm23 cd23 ct23 oc24 kV24 dc24 pm24 cd24 ct24 oc25 kV25 dc25 pm25 cd25 ct25 oc26 kV26 dc26 pm26 cd26 ct26 oc27 kV27 dc27 pm27 cd27 ct27 oc28 kV28 dc28 pm28 cd28 ct28 oc29 kV29 dc29 pm29 cd29 ct29 oc30 kV30 dc30 pm30 cd30 ct30 oc31 kV31 dc31 pm31 cd31 ct31 oc32 kV32 dc32 pm32 cd32 ct32 oc33 kV33 dc33 pm33 cd33 ct33 oc34 kV34 dc34 pm34 cd34 ct34 oc35 kV35 dc35 pm35 cd35 ct35 oc36 kV36 dc36 pm36 cd36 ct36 oc37 kV37 dc37 pm37 cd37 ct37 oc38 kV38 dc38 pm38 cd38 ct38 oc39 kV39 dc39 pm39 cd39 ct39 oc40 kV40 dc40 pm40 cd40 ct40 oc41 kV41 dc41 pm41 cd41 ct41 oc42 kV42 dc42 pm42 cd42 ct42 oc43 kV43 dc43 pm43 cd43 ct43 oc44 kV44 dc44 pm44 cd44 ct44 : Value}
    (a0 : PySem.W.nsIn K mainGlobals "is_integer" = some (some (.ref f0))) (l0 : K.lookup f0 = some ⟨oc0, od0, .func (PySem.W.fnOf "is_integer" "is_integer" (defArgs s_is_integer) (defBody s_is_integer) (defScope s_is_integer) .none kV0 dc0 pm0 an0 cd0 ct0), sl0⟩) (c0 : PySem.W.codeIn K cd0 "is_integer" = true) (k0 : PySem.W.keepIn K (.ref f0) = true)
    (a1 : PySem.W.nsIn K mainGlobals "is_within" = some (some (.ref f1))) (l1 : K.lookup f1 = some ⟨oc1, od1, .func (PySem.W.fnOf "is_within" "is_within" (defArgs s_is_within) (defBody s_is_within) (defScope s_is_within) .none kV1 dc1 pm1 an1 cd1 ct1), sl1⟩) (c1 : PySem.W.codeIn K cd1 "is_within" = true) (k1 : PySem.W.keepIn K (.ref f1) = true)
    (a2 : PySem.W.nsIn K mainGlobals "need_within" = some (some (.ref f2))) (l2 : K.lookup f2 = some ⟨oc2, od2, .func (PySem.W.fnOf "need_within" "need_within" (defArgs s_need_within) (defBody s_need_within) (defScope s_need_within) .none kV2 dc2 pm2 an2 cd2 ct2), sl2⟩) (c2 : PySem.W.codeIn K cd2 "need_within" = true) (k2 : PySem.W.keepIn K (.ref f2) = true)
    (a3 : PySem.W.nsIn K mainGlobals "is_number" = some (some (.ref f3))) (l3 : K.lookup f3 = some ⟨oc3, od3, .func (PySem.W.fnOf "is_number" "is_number" (defArgs s_is_number) (defBody s_is_number) (defScope s_is_number) .none kV3 dc3 pm3 an3 cd3 ct3), sl3⟩) (c3 : PySem.W.codeIn K cd3 "is_number" = true) (k3 : PySem.W.keepIn K (.ref f3) = true)
    (a4 : PySem.W.nsIn K mainGlobals "is_arena" = some (some (.ref f4))) (l4 : K.lookup f4 = some ⟨oc4, od4, .func (PySem.W.fnOf "is_arena" "is_arena" (defArgs s_is_arena) (defBody s_is_arena) (defScope s_is_arena) .none kV4 dc4 pm4 an4 cd4 ct4), sl4⟩) (c4 : PySem.W.codeIn K cd4 "is_arena" = true) (k4 : PySem.W.keepIn K (.ref f4) = true)
    (a5 : PySem.W.nsIn K mainGlobals "is_box" = some (some (.ref f5))) (l5 : K.lookup f5 = some ⟨oc5, od5, .func (PySem.W.fnOf "is_box" "is_box" (defArgs s_is_box) (defBody s_is_box) (defScope s_is_box) .none kV5 dc5 pm5 an5 cd5 ct5), sl5⟩) (c5 : PySem.W.codeIn K cd5 "is_box" = true) (k5 : PySem.W.keepIn K (.ref f5) = true)
    (a6 : PySem.W.nsIn K mainGlobals "need_box" = some (some (.ref f6))) (l6 : K.lookup f6 = some ⟨oc6, od6, .func (PySem.W.fnOf "need_box" "need_box" (defArgs s_need_box) (defBody s_need_box) (defScope s_need_box) .none kV6 dc6 pm6 an6 cd6 ct6), sl6⟩) (c6 : PySem.W.codeIn K cd6 "need_box" = true) (k6 : PySem.W.keepIn K (.ref f6) = true)
    (a7 : PySem.W.nsIn K mainGlobals "need_number" = some (some (.ref f7))) (l7 : K.lookup f7 = some ⟨oc7, od7, .func (PySem.W.fnOf "need_number" "need_number" (defArgs s_need_number) (defBody s_need_number) (defScope s_need_number) .none kV7 dc7 pm7 an7 cd7 ct7), sl7⟩) (c7 : PySem.W.codeIn K cd7 "need_number" = true) (k7 : PySem.W.keepIn K (.ref f7) = true)
    (a8 : PySem.W.nsIn K mainGlobals "need_among" = some (some (.ref f8))) (l8 : K.lookup f8 = some ⟨oc8, od8, .func (PySem.W.fnOf "need_among" "need_among" (defArgs s_need_among) (defBody s_need_among) (defScope s_need_among) .none kV8 dc8 pm8 an8 cd8 ct8), sl8⟩) (c8 : PySem.W.codeIn K cd8 "need_among" = true) (k8 : PySem.W.keepIn K (.ref f8) = true)
    (a9 : PySem.W.nsIn K mainGlobals "need_way" = some (some (.ref f9))) (l9 : K.lookup f9 = some ⟨oc9, od9, .func (PySem.W.fnOf "need_way" "need_way" (defArgs s_need_way) (defBody s_need_way) (defScope s_need_way) .none kV9 dc9 pm9 an9 cd9 ct9), sl9⟩) (c9 : PySem.W.codeIn K cd9 "need_way" = true) (k9 : PySem.W.keepIn K (.ref f9) = true)
    {kD10 : Addr} {tD10 : Tok}
    (a10 : PySem.W.nsIn K mainGlobals "are_meeting" = some (some (.ref f10))) (l10 : K.lookup f10 = some ⟨oc10, od10, .func (PySem.W.fnOf "are_meeting" "are_meeting" (defArgs s_are_meeting) (defBody s_are_meeting) (defScope s_are_meeting) .none (.ref kD10) dc10 pm10 an10 cd10 ct10), sl10⟩) (c10 : PySem.W.codeIn K cd10 "are_meeting" = true) (k10 : PySem.W.keepIn K (.ref f10) = true)
    (n10 : PySem.W.nsIn K kD10 "grown" = some (some (.int (0) tD10)))
    (a11 : PySem.W.nsIn K mainGlobals "do_meet" = some (some (.ref f11))) (l11 : K.lookup f11 = some ⟨oc11, od11, .func (PySem.W.fnOf "do_meet" "do_meet" (defArgs s_do_meet) (defBody s_do_meet) (defScope s_do_meet) .none kV11 dc11 pm11 an11 cd11 ct11), sl11⟩) (c11 : PySem.W.codeIn K cd11 "do_meet" = true) (k11 : PySem.W.keepIn K (.ref f11) = true)
    (a12 : PySem.W.nsIn K mainGlobals "do_share" = some (some (.ref f12))) (l12 : K.lookup f12 = some ⟨oc12, od12, .func (PySem.W.fnOf "do_share" "do_share" (defArgs s_do_share) (defBody s_do_share) (defScope s_do_share) .none kV12 dc12 pm12 an12 cd12 ct12), sl12⟩) (c12 : PySem.W.codeIn K cd12 "do_share" = true) (k12 : PySem.W.keepIn K (.ref f12) = true)
    (a13 : PySem.W.nsIn K mainGlobals "shifted" = some (some (.ref f13))) (l13 : K.lookup f13 = some ⟨oc13, od13, .func (PySem.W.fnOf "shifted" "shifted" (defArgs s_shifted) (defBody s_shifted) (defScope s_shifted) .none kV13 dc13 pm13 an13 cd13 ct13), sl13⟩) (c13 : PySem.W.codeIn K cd13 "shifted" = true) (k13 : PySem.W.keepIn K (.ref f13) = true)
    (a14 : PySem.W.nsIn K mainGlobals "border_gap" = some (some (.ref f14))) (l14 : K.lookup f14 = some ⟨oc14, od14, .func (PySem.W.fnOf "border_gap" "border_gap" (defArgs s_border_gap) (defBody s_border_gap) (defScope s_border_gap) .none kV14 dc14 pm14 an14 cd14 ct14), sl14⟩) (c14 : PySem.W.codeIn K cd14 "border_gap" = true) (k14 : PySem.W.keepIn K (.ref f14) = true)
    (a15 : PySem.W.nsIn K mainGlobals "box_gaps" = some (some (.ref f15))) (l15 : K.lookup f15 = some ⟨oc15, od15, .func (PySem.W.fnOf "box_gaps" "box_gaps" (defArgs s_box_gaps) (defBody s_box_gaps) (defScope s_box_gaps) .none kV15 dc15 pm15 an15 cd15 ct15), sl15⟩) (c15 : PySem.W.codeIn K cd15 "box_gaps" = true) (k15 : PySem.W.keepIn K (.ref f15) = true)
    (a16 : PySem.W.nsIn K mainGlobals "units_free" = some (some (.ref f16))) (l16 : K.lookup f16 = some ⟨oc16, od16, .func (PySem.W.fnOf "units_free" "units_free" (defArgs s_units_free) (defBody s_units_free) (defScope s_units_free) .none kV16 dc16 pm16 an16 cd16 ct16), sl16⟩) (c16 : PySem.W.codeIn K cd16 "units_free" = true) (k16 : PySem.W.keepIn K (.ref f16) = true)
    (a17 : PySem.W.nsIn K mainGlobals "reach" = some (some (.ref f17))) (l17 : K.lookup f17 = some ⟨oc17, od17, .func (PySem.W.fnOf "reach" "reach" (defArgs s_reach) (defBody s_reach) (defScope s_reach) .none kV17 dc17 pm17 an17 cd17 ct17), sl17⟩) (c17 : PySem.W.codeIn K cd17 "reach" = true) (k17 : PySem.W.keepIn K (.ref f17) = true)
    (a18 : PySem.W.nsIn K mainGlobals "reach_by_units" = some (some (.ref f18))) (l18 : K.lookup f18 = some ⟨oc18, od18, .func (PySem.W.fnOf "reach_by_units" "reach_by_units" (defArgs s_reach_by_units) (defBody s_reach_by_units) (defScope s_reach_by_units) .none kV18 dc18 pm18 an18 cd18 ct18), sl18⟩) (c18 : PySem.W.codeIn K cd18 "reach_by_units" = true) (k18 : PySem.W.keepIn K (.ref f18) = true)
    (a19 : PySem.W.nsIn K mainGlobals "is_barred" = some (some (.ref f19))) (l19 : K.lookup f19 = some ⟨oc19, od19, .func (PySem.W.fnOf "is_barred" "is_barred" (defArgs s_is_barred) (defBody s_is_barred) (defScope s_is_barred) .none kV19 dc19 pm19 an19 cd19 ct19), sl19⟩) (c19 : PySem.W.codeIn K cd19 "is_barred" = true) (k19 : PySem.W.keepIn K (.ref f19) = true)
    (a20 : PySem.W.nsIn K mainGlobals "is_border_ahead" = some (some (.ref f20))) (l20 : K.lookup f20 = some ⟨oc20, od20, .func (PySem.W.fnOf "is_border_ahead" "is_border_ahead" (defArgs s_is_border_ahead) (defBody s_is_border_ahead) (defScope s_is_border_ahead) .none kV20 dc20 pm20 an20 cd20 ct20), sl20⟩) (c20 : PySem.W.codeIn K cd20 "is_border_ahead" = true) (k20 : PySem.W.keepIn K (.ref f20) = true)
    (a21 : PySem.W.nsIn K mainGlobals "does_bar" = some (some (.ref f21))) (l21 : K.lookup f21 = some ⟨oc21, od21, .func (PySem.W.fnOf "does_bar" "does_bar" (defArgs s_does_bar) (defBody s_does_bar) (defScope s_does_bar) .none kV21 dc21 pm21 an21 cd21 ct21), sl21⟩) (c21 : PySem.W.codeIn K cd21 "does_bar" = true) (k21 : PySem.W.keepIn K (.ref f21) = true)
    (a22 : PySem.W.nsIn K mainGlobals "barrier" = some (some (.ref f22))) (l22 : K.lookup f22 = some ⟨oc22, od22, .func (PySem.W.fnOf "barrier" "barrier" (defArgs s_barrier) (defBody s_barrier) (defScope s_barrier) .none kV22 dc22 pm22 an22 cd22 ct22), sl22⟩) (c22 : PySem.W.codeIn K cd22 "barrier" = true) (k22 : PySem.W.keepIn K (.ref f22) = true)
    (a23 : PySem.W.nsIn K mainGlobals "moved_box" = some (some (.ref f23))) (l23 : K.lookup f23 = some ⟨oc23, od23, .func (PySem.W.fnOf "moved_box" "moved_box" (defArgs s_moved_box) (defBody s_moved_box) (defScope s_moved_box) .none kV23 dc23 pm23 an23 cd23 ct23), sl23⟩) (c23 : PySem.W.codeIn K cd23 "moved_box" = true) (k23 : PySem.W.keepIn K (.ref f23) = true)
    (a24 : PySem.W.nsIn K mainGlobals "moved" = some (some (.ref f24))) (l24 : K.lookup f24 = some ⟨oc24, od24, .func (PySem.W.fnOf "moved" "moved" (defArgs s_moved) (defBody s_moved) (defScope s_moved) .none kV24 dc24 pm24 an24 cd24 ct24), sl24⟩) (c24 : PySem.W.codeIn K cd24 "moved" = true) (k24 : PySem.W.keepIn K (.ref f24) = true)
    (a25 : PySem.W.nsIn K mainGlobals "_law_dice" = some (some (.ref f25))) (l25 : K.lookup f25 = some ⟨oc25, od25, .func (PySem.W.fnOf "_law_dice" "_law_dice" (defArgs s_law_dice) (defBody s_law_dice) (defScope s_law_dice) .none kV25 dc25 pm25 an25 cd25 ct25), sl25⟩) (c25 : PySem.W.codeIn K cd25 "_law_dice" = true) (k25 : PySem.W.keepIn K (.ref f25) = true)
    (a26 : PySem.W.nsIn K mainGlobals "_law_roll" = some (some (.ref f26))) (l26 : K.lookup f26 = some ⟨oc26, od26, .func (PySem.W.fnOf "_law_roll" "_law_roll" (defArgs s_law_roll) (defBody s_law_roll) (defScope s_law_roll) .none kV26 dc26 pm26 an26 cd26 ct26), sl26⟩) (c26 : PySem.W.codeIn K cd26 "_law_roll" = true) (k26 : PySem.W.keepIn K (.ref f26) = true)
    (a27 : PySem.W.nsIn K mainGlobals "_law_pick" = some (some (.ref f27))) (l27 : K.lookup f27 = some ⟨oc27, od27, .func (PySem.W.fnOf "_law_pick" "_law_pick" (defArgs s_law_pick) (defBody s_law_pick) (defScope s_law_pick) .none kV27 dc27 pm27 an27 cd27 ct27), sl27⟩) (c27 : PySem.W.codeIn K cd27 "_law_pick" = true) (k27 : PySem.W.keepIn K (.ref f27) = true)
    (a28 : PySem.W.nsIn K mainGlobals "_law_bo_meet" = some (some (.ref f28))) (l28 : K.lookup f28 = some ⟨oc28, od28, .func (PySem.W.fnOf "_law_bo_meet" "_law_bo_meet" (defArgs s_law_bo_meet) (defBody s_law_bo_meet) (defScope s_law_bo_meet) .none kV28 dc28 pm28 an28 cd28 ct28), sl28⟩) (c28 : PySem.W.codeIn K cd28 "_law_bo_meet" = true) (k28 : PySem.W.keepIn K (.ref f28) = true)
    (a29 : PySem.W.nsIn K mainGlobals "_law_bo_swept" = some (some (.ref f29))) (l29 : K.lookup f29 = some ⟨oc29, od29, .func (PySem.W.fnOf "_law_bo_swept" "_law_bo_swept" (defArgs s_law_bo_swept) (defBody s_law_bo_swept) (defScope s_law_bo_swept) .none kV29 dc29 pm29 an29 cd29 ct29), sl29⟩) (c29 : PySem.W.codeIn K cd29 "_law_bo_swept" = true) (k29 : PySem.W.keepIn K (.ref f29) = true)
    (a30 : PySem.W.nsIn K mainGlobals "_law_bo_put" = some (some (.ref f30))) (l30 : K.lookup f30 = some ⟨oc30, od30, .func (PySem.W.fnOf "_law_bo_put" "_law_bo_put" (defArgs s_law_bo_put) (defBody s_law_bo_put) (defScope s_law_bo_put) .none kV30 dc30 pm30 an30 cd30 ct30), sl30⟩) (c30 : PySem.W.codeIn K cd30 "_law_bo_put" = true) (k30 : PySem.W.keepIn K (.ref f30) = true)
    (a31 : PySem.W.nsIn K mainGlobals "_law_bo_is_beyond" = some (some (.ref f31))) (l31 : K.lookup f31 = some ⟨oc31, od31, .func (PySem.W.fnOf "_law_bo_is_beyond" "_law_bo_is_beyond" (defArgs s_law_bo_is_beyond) (defBody s_law_bo_is_beyond) (defScope s_law_bo_is_beyond) .none kV31 dc31 pm31 an31 cd31 ct31), sl31⟩) (c31 : PySem.W.codeIn K cd31 "_law_bo_is_beyond" = true) (k31 : PySem.W.keepIn K (.ref f31) = true)
    (a32 : PySem.W.nsIn K mainGlobals "_law_bo_is_free" = some (some (.ref f32))) (l32 : K.lookup f32 = some ⟨oc32, od32, .func (PySem.W.fnOf "_law_bo_is_free" "_law_bo_is_free" (defArgs s_law_bo_is_free) (defBody s_law_bo_is_free) (defScope s_law_bo_is_free) .none kV32 dc32 pm32 an32 cd32 ct32), sl32⟩) (c32 : PySem.W.codeIn K cd32 "_law_bo_is_free" = true) (k32 : PySem.W.keepIn K (.ref f32) = true)
    (a33 : PySem.W.nsIn K mainGlobals "_law_bo_reach" = some (some (.ref f33))) (l33 : K.lookup f33 = some ⟨oc33, od33, .func (PySem.W.fnOf "_law_bo_reach" "_law_bo_reach" (defArgs s_law_bo_reach) (defBody s_law_bo_reach) (defScope s_law_bo_reach) .none kV33 dc33 pm33 an33 cd33 ct33), sl33⟩) (c33 : PySem.W.codeIn K cd33 "_law_bo_reach" = true) (k33 : PySem.W.keepIn K (.ref f33) = true)
    (a34 : PySem.W.nsIn K mainGlobals "_law_bo_barrier" = some (some (.ref f34))) (l34 : K.lookup f34 = some ⟨oc34, od34, .func (PySem.W.fnOf "_law_bo_barrier" "_law_bo_barrier" (defArgs s_law_bo_barrier) (defBody s_law_bo_barrier) (defScope s_law_bo_barrier) .none kV34 dc34 pm34 an34 cd34 ct34), sl34⟩) (c34 : PySem.W.codeIn K cd34 "_law_bo_barrier" = true) (k34 : PySem.W.keepIn K (.ref f34) = true)
    (a35 : PySem.W.nsIn K mainGlobals "_law_bo_moved" = some (some (.ref f35))) (l35 : K.lookup f35 = some ⟨oc35, od35, .func (PySem.W.fnOf "_law_bo_moved" "_law_bo_moved" (defArgs s_law_bo_moved) (defBody s_law_bo_moved) (defScope s_law_bo_moved) .none kV35 dc35 pm35 an35 cd35 ct35), sl35⟩) (c35 : PySem.W.codeIn K cd35 "_law_bo_moved" = true) (k35 : PySem.W.keepIn K (.ref f35) = true)
    (a36 : PySem.W.nsIn K mainGlobals "_law_bo_grown" = some (some (.ref f36))) (l36 : K.lookup f36 = some ⟨oc36, od36, .func (PySem.W.fnOf "_law_bo_grown" "_law_bo_grown" (defArgs s_law_bo_grown) (defBody s_law_bo_grown) (defScope s_law_bo_grown) .none kV36 dc36 pm36 an36 cd36 ct36), sl36⟩) (c36 : PySem.W.codeIn K cd36 "_law_bo_grown" = true) (k36 : PySem.W.keepIn K (.ref f36) = true)
    (a37 : PySem.W.nsIn K mainGlobals "_law_bo_number" = some (some (.ref f37))) (l37 : K.lookup f37 = some ⟨oc37, od37, .func (PySem.W.fnOf "_law_bo_number" "_law_bo_number" (defArgs s_law_bo_number) (defBody s_law_bo_number) (defScope s_law_bo_number) .none kV37 dc37 pm37 an37 cd37 ct37), sl37⟩) (c37 : PySem.W.codeIn K cd37 "_law_bo_number" = true) (k37 : PySem.W.keepIn K (.ref f37) = true)
    (a38 : PySem.W.nsIn K mainGlobals "_law_bo_drawn" = some (some (.ref f38))) (l38 : K.lookup f38 = some ⟨oc38, od38, .func (PySem.W.fnOf "_law_bo_drawn" "_law_bo_drawn" (defArgs s_law_bo_drawn) (defBody s_law_bo_drawn) (defScope s_law_bo_drawn) .none kV38 dc38 pm38 an38 cd38 ct38), sl38⟩) (c38 : PySem.W.codeIn K cd38 "_law_bo_drawn" = true) (k38 : PySem.W.keepIn K (.ref f38) = true)
    (a39 : PySem.W.nsIn K mainGlobals "_law_bo_arena" = some (some (.ref f39))) (l39 : K.lookup f39 = some ⟨oc39, od39, .func (PySem.W.fnOf "_law_bo_arena" "_law_bo_arena" (defArgs s_law_bo_arena) (defBody s_law_bo_arena) (defScope s_law_bo_arena) .none kV39 dc39 pm39 an39 cd39 ct39), sl39⟩) (c39 : PySem.W.codeIn K cd39 "_law_bo_arena" = true) (k39 : PySem.W.keepIn K (.ref f39) = true)
    (a40 : PySem.W.nsIn K mainGlobals "_law_bo_pace" = some (some (.ref f40))) (l40 : K.lookup f40 = some ⟨oc40, od40, .func (PySem.W.fnOf "_law_bo_pace" "_law_bo_pace" (defArgs s_law_bo_pace) (defBody s_law_bo_pace) (defScope s_law_bo_pace) .none kV40 dc40 pm40 an40 cd40 ct40), sl40⟩) (c40 : PySem.W.codeIn K cd40 "_law_bo_pace" = true) (k40 : PySem.W.keepIn K (.ref f40) = true)
    (a41 : PySem.W.nsIn K mainGlobals "_law_ways_right" = some (some (.ref f41))) (l41 : K.lookup f41 = some ⟨oc41, od41, .func (PySem.W.fnOf "_law_ways_right" "_law_ways_right" (defArgs s_law_ways_right) (defBody s_law_ways_right) (defScope s_law_ways_right) .none kV41 dc41 pm41 an41 cd41 ct41), sl41⟩) (c41 : PySem.W.codeIn K cd41 "_law_ways_right" = true) (k41 : PySem.W.keepIn K (.ref f41) = true)
    (a42 : PySem.W.nsIn K mainGlobals "_law_meetings_right" = some (some (.ref f42))) (l42 : K.lookup f42 = some ⟨oc42, od42, .func (PySem.W.fnOf "_law_meetings_right" "_law_meetings_right" (defArgs s_law_meetings_right) (defBody s_law_meetings_right) (defScope s_law_meetings_right) .none kV42 dc42 pm42 an42 cd42 ct42), sl42⟩) (c42 : PySem.W.codeIn K cd42 "_law_meetings_right" = true) (k42 : PySem.W.keepIn K (.ref f42) = true)
    (a43 : PySem.W.nsIn K mainGlobals "_law_right" = some (some (.ref f43))) (l43 : K.lookup f43 = some ⟨oc43, od43, .func (PySem.W.fnOf "_law_right" "_law_right" (defArgs s_law_right) (defBody s_law_right) (defScope s_law_right) .none kV43 dc43 pm43 an43 cd43 ct43), sl43⟩) (c43 : PySem.W.codeIn K cd43 "_law_right" = true) (k43 : PySem.W.keepIn K (.ref f43) = true)
    (a44 : PySem.W.nsIn K mainGlobals "law" = some (some (.ref f44))) (l44 : K.lookup f44 = some ⟨oc44, od44, .func (PySem.W.fnOf "law" "law" (defArgs s_law) (defBody s_law) (defScope s_law) .none kV44 dc44 pm44 an44 cd44 ct44), sl44⟩) (c44 : PySem.W.codeIn K cd44 "law" = true) (k44 : PySem.W.keepIn K (.ref f44) = true)
    (z_abs : PySem.W.nsIn K mainGlobals "abs" = some none)
    (z_max : PySem.W.nsIn K mainGlobals "max" = some none)
    (z_min : PySem.W.nsIn K mainGlobals "min" = some none)
    (z_int : PySem.W.nsIn K mainGlobals "int" = some none)
    (z_len : PySem.W.nsIn K mainGlobals "len" = some none)
    (z_range : PySem.W.nsIn K mainGlobals "range" = some none)
    (z_repr : PySem.W.nsIn K mainGlobals "repr" = some none)
    (z_isinstance : PySem.W.nsIn K mainGlobals "isinstance" = some none)
    (z_bool : PySem.W.nsIn K mainGlobals "bool" = some none)
    (z_tuple : PySem.W.nsIn K mainGlobals "tuple" = some none)
    (z_any : PySem.W.nsIn K mainGlobals "any" = some none)
    (z_all : PySem.W.nsIn K mainGlobals "all" = some none)
    (z_enumerate : PySem.W.nsIn K mainGlobals "enumerate" = some none)
    (v_MOST : PySem.W.nsIn K mainGlobals "MOST" = some (some (.int 1000000000 t_MOST)))
    (v_MAX_ARENA : PySem.W.nsIn K mainGlobals "MAX_ARENA" = some (some (.int 400 t_MAX_ARENA)))
    (v_MAX_BODY : PySem.W.nsIn K mainGlobals "MAX_BODY" = some (some (.int 40 t_MAX_BODY)))
    (v_MOST_UNITS : PySem.W.nsIn K mainGlobals "MOST_UNITS" = some (some (.int 1000 t_MOST_UNITS)))
    (v_MOST_OTHERS : PySem.W.nsIn K mainGlobals "MOST_OTHERS" = some (some (.int 24 t_MOST_OTHERS)))
    (v_MOST_MANY : PySem.W.nsIn K mainGlobals "MOST_MANY" = some (some (.int 1000000000 t_MOST_MANY)))
    (sA : PySem.W.nsIn K mainGlobals "SIDES" = some (some (.ref aSD)))
    (sL : K.lookup aSD = some ⟨.type "tuple", odSD, .seq #[.str "left" tSD0, .str "right" tSD1, .str "low" tSD2, .str "high" tSD3] nSD, slSD⟩)
    (wA : PySem.W.nsIn K mainGlobals "WAYS" = some (some (.ref aWY)))
    (wL : K.lookup aWY = some ⟨.type "dict", none, .dict esWY nWY, #[]⟩)
    (wK : PySem.W.KeysLit w.params esWY.toList)
    (wn0 : PySem.W.nsIn K aWY "left" = some (some (.ref wW0)))
    (wl0 : K.lookup wW0 = some ⟨.type "tuple", odW0, .seq #[.int 0 tWa0, .int (-1) tWb0] nW0, slW0⟩)
    (wn1 : PySem.W.nsIn K aWY "right" = some (some (.ref wW1)))
    (wl1 : K.lookup wW1 = some ⟨.type "tuple", odW1, .seq #[.int 0 tWa1, .int (1) tWb1] nW1, slW1⟩)
    (wn2 : PySem.W.nsIn K aWY "low" = some (some (.ref wW2)))
    (wl2 : K.lookup wW2 = some ⟨.type "tuple", odW2, .seq #[.int 1 tWa2, .int (-1) tWb2] nW2, slW2⟩)
    (wn3 : PySem.W.nsIn K aWY "high" = some (some (.ref wW3)))
    (wl3 : K.lookup wW3 = some ⟨.type "tuple", odW3, .seq #[.int 1 tWa3, .int (1) tWb3] nW3, slW3⟩)
    : ∃ fd : FuncData, (∀ (s : Shared) (v : Value), BindsTo s fd ⟨[v], []⟩ [("script", v)]) ∧ ∀ base : Heap, K.In base → base.Ns mainGlobals mg → FnOk l.prog w K mg base CX0 11 fa fd ["script"] (spLaw K) := by
  have e := hfa.symm.trans (PySem.W.mg_of X G a44)
  cases e
  have F0 := fun_mk (st := s_is_integer) l0 c0 k0
  have b0 := F0.binds (ps := ["value"]) fun _ _ _ _ _ _ us hl => match us, hl with | [_], _ => rfl
  have F1 := fun_mk (st := s_is_within) l1 c1 k1
  have b1 := F1.binds (ps := ["value", "low", "high"]) fun _ _ _ _ _ _ us hl => match us, hl with | [_, _, _], _ => rfl
  have F2 := fun_mk (st := s_need_within) l2 c2 k2
  have b2 := F2.binds (ps := ["value", "low", "high"]) fun _ _ _ _ _ _ us hl => match us, hl with | [_, _, _], _ => rfl
  have F3 := fun_mk (st := s_is_number) l3 c3 k3
  have b3 := F3.binds (ps := ["value"]) fun _ _ _ _ _ _ us hl => match us, hl with | [_], _ => rfl
  have F4 := fun_mk (st := s_is_arena) l4 c4 k4
  have b4 := F4.binds (ps := ["value"]) fun _ _ _ _ _ _ us hl => match us, hl with | [_], _ => rfl
  have F5 := fun_mk (st := s_is_box) l5 c5 k5
  have b5 := F5.binds (ps := ["value"]) fun _ _ _ _ _ _ us hl => match us, hl with | [_], _ => rfl
  have F6 := fun_mk (st := s_need_box) l6 c6 k6
  have b6 := F6.binds (ps := ["value"]) fun _ _ _ _ _ _ us hl => match us, hl with | [_], _ => rfl
  have F7 := fun_mk (st := s_need_number) l7 c7 k7
  have b7 := F7.binds (ps := ["value"]) fun _ _ _ _ _ _ us hl => match us, hl with | [_], _ => rfl
  have F8 := fun_mk (st := s_need_among) l8 c8 k8
  have b8 := F8.binds (ps := ["arena", "box", "others"]) fun _ _ _ _ _ _ us hl => match us, hl with | [_, _, _], _ => rfl
  have F9 := fun_mk (st := s_need_way) l9 c9 k9
  have b9 := F9.binds (ps := ["arena", "box", "others", "side", "many"]) fun _ _ _ _ _ _ us hl => match us, hl with | [_, _, _, _, _], _ => rfl
  have F10 := fun_mk (st := s_are_meeting) l10 c10 k10
  have D10 : FunD K "are_meeting" "are_meeting" (defArgs s_are_meeting) (defBody s_are_meeting) (defScope s_are_meeting) [] [("grown", V.int (0))] f10 _ := ⟨⟨_, _, _, _, _, _, _, _, _, _, rfl, l10, c10, .inl ⟨rfl, rfl⟩, .inr ⟨kD10, rfl, fun q hq => by cases List.mem_singleton.mp hq; exact ⟨_, n10, _, rfl⟩⟩⟩, k10⟩
  obtain ⟨ds10, vd10, b10⟩ := D10.binds0 (ps := ["one", "other", "grown"]) 2 (by decide) rfl fun _ _ _ _ _ _ us ks hu hk => match us, hu, ks, hk with | [_, _], _, [_], _ => ⟨_, _, _, _, _, _, rfl, rfl, rfl⟩
  obtain ⟨_, kb10⟩ := D10.kbinds0 (ps := ["one", "other", "grown"]) 2 ["grown"] [] (fun us _ ws => us ++ ws) (by decide) (fun _ h => by cases h) (fun r1 _ r3 => r1.append r3) fun _ _ _ _ _ _ us mv ws hu hm hw => match us, hu, mv, hm, ws, hw with | [_, _], _, [], _, [_], _ => rfl
  have F11 := fun_mk (st := s_do_meet) l11 c11 k11
  have b11 := F11.binds (ps := ["one", "other", "grown"]) fun _ _ _ _ _ _ us hl => match us, hl with | [_, _, _], _ => rfl
  have F12 := fun_mk (st := s_do_share) l12 c12 k12
  have b12 := F12.binds (ps := ["one", "other", "axis", "grown"]) fun _ _ _ _ _ _ us hl => match us, hl with | [_, _, _, _], _ => rfl
  have F13 := fun_mk (st := s_shifted) l13 c13 k13
  have b13 := F13.binds (ps := ["box", "side", "units"]) fun _ _ _ _ _ _ us hl => match us, hl with | [_, _, _], _ => rfl
  have F14 := fun_mk (st := s_border_gap) l14 c14 k14
  have b14 := F14.binds (ps := ["arena", "box", "side"]) fun _ _ _ _ _ _ us hl => match us, hl with | [_, _, _], _ => rfl
  have F15 := fun_mk (st := s_box_gaps) l15 c15 k15
  have b15 := F15.binds (ps := ["box", "others", "side"]) fun _ _ _ _ _ _ us hl => match us, hl with | [_, _, _], _ => rfl
  have F16 := fun_mk (st := s_units_free) l16 c16 k16
  have b16 := F16.binds (ps := ["arena", "box", "others", "side", "many"]) fun _ _ _ _ _ _ us hl => match us, hl with | [_, _, _, _, _], _ => rfl
  have F17 := fun_mk (st := s_reach) l17 c17 k17
  have b17 := F17.binds (ps := ["arena", "box", "others", "side", "many"]) fun _ _ _ _ _ _ us hl => match us, hl with | [_, _, _, _, _], _ => rfl
  have F18 := fun_mk (st := s_reach_by_units) l18 c18 k18
  have b18 := F18.binds (ps := ["arena", "box", "others", "side", "many"]) fun _ _ _ _ _ _ us hl => match us, hl with | [_, _, _, _, _], _ => rfl
  have F19 := fun_mk (st := s_is_barred) l19 c19 k19
  have b19 := F19.binds (ps := ["arena", "box", "others", "side"]) fun _ _ _ _ _ _ us hl => match us, hl with | [_, _, _, _], _ => rfl
  have F20 := fun_mk (st := s_is_border_ahead) l20 c20 k20
  have b20 := F20.binds (ps := ["arena", "box", "side"]) fun _ _ _ _ _ _ us hl => match us, hl with | [_, _, _], _ => rfl
  have F21 := fun_mk (st := s_does_bar) l21 c21 k21
  have b21 := F21.binds (ps := ["box", "other", "side"]) fun _ _ _ _ _ _ us hl => match us, hl with | [_, _, _], _ => rfl
  have F22 := fun_mk (st := s_barrier) l22 c22 k22
  have b22 := F22.binds (ps := ["arena", "box", "others", "side", "many"]) fun _ _ _ _ _ _ us hl => match us, hl with | [_, _, _, _, _], _ => rfl
  have F23 := fun_mk (st := s_moved_box) l23 c23 k23
  have b23 := F23.binds (ps := ["arena", "box", "others", "dx", "dy"]) fun _ _ _ _ _ _ us hl => match us, hl with | [_, _, _, _, _], _ => rfl
  have F24 := fun_mk (st := s_moved) l24 c24 k24
  have b24 := F24.binds (ps := ["arena", "box", "others", "dx", "dy"]) fun _ _ _ _ _ _ us hl => match us, hl with | [_, _, _, _, _], _ => rfl
  have F25 := fun_mk (st := s_law_dice) l25 c25 k25
  have b25 := F25.binds (ps := ["script", "spot"]) fun _ _ _ _ _ _ us hl => match us, hl with | [_, _], _ => rfl
  have F26 := fun_mk (st := s_law_roll) l26 c26 k26
  have b26 := F26.binds (ps := ["dice", "total"]) fun _ _ _ _ _ _ us hl => match us, hl with | [_, _], _ => rfl
  have F27 := fun_mk (st := s_law_pick) l27 c27 k27
  have b27 := F27.binds (ps := ["dice", "items"]) fun _ _ _ _ _ _ us hl => match us, hl with | [_, _], _ => rfl
  have F28 := fun_mk (st := s_law_bo_meet) l28 c28 k28
  have b28 := F28.binds (ps := ["one", "other"]) fun _ _ _ _ _ _ us hl => match us, hl with | [_, _], _ => rfl
  have F29 := fun_mk (st := s_law_bo_swept) l29 c29 k29
  have b29 := F29.binds (ps := ["box", "side", "many"]) fun _ _ _ _ _ _ us hl => match us, hl with | [_, _, _], _ => rfl
  have F30 := fun_mk (st := s_law_bo_put) l30 c30 k30
  have b30 := F30.binds (ps := ["box", "side", "many"]) fun _ _ _ _ _ _ us hl => match us, hl with | [_, _, _], _ => rfl
  have F31 := fun_mk (st := s_law_bo_is_beyond) l31 c31 k31
  have b31 := F31.binds (ps := ["arena", "box", "side"]) fun _ _ _ _ _ _ us hl => match us, hl with | [_, _, _], _ => rfl
  have F32 := fun_mk (st := s_law_bo_is_free) l32 c32 k32
  have b32 := F32.binds (ps := ["arena", "box", "others", "side", "many"]) fun _ _ _ _ _ _ us hl => match us, hl with | [_, _, _, _, _], _ => rfl
  have F33 := fun_mk (st := s_law_bo_reach) l33 c33 k33
  have b33 := F33.binds (ps := ["arena", "box", "others", "side", "many"]) fun _ _ _ _ _ _ us hl => match us, hl with | [_, _, _, _, _], _ => rfl
  have F34 := fun_mk (st := s_law_bo_barrier) l34 c34 k34
  have b34 := F34.binds (ps := ["arena", "box", "others", "side", "many"]) fun _ _ _ _ _ _ us hl => match us, hl with | [_, _, _, _, _], _ => rfl
  have F35 := fun_mk (st := s_law_bo_moved) l35 c35 k35
  have b35 := F35.binds (ps := ["arena", "box", "others", "dx", "dy"]) fun _ _ _ _ _ _ us hl => match us, hl with | [_, _, _, _, _], _ => rfl
  have F36 := fun_mk (st := s_law_bo_grown) l36 c36 k36
  have b36 := F36.binds (ps := ["box", "grown_here"]) fun _ _ _ _ _ _ us hl => match us, hl with | [_, _], _ => rfl
  have F37 := fun_mk (st := s_law_bo_number) l37 c37 k37
  have b37 := F37.binds (ps := ["dice", "most"]) fun _ _ _ _ _ _ us hl => match us, hl with | [_, _], _ => rfl
  have F38 := fun_mk (st := s_law_bo_drawn) l38 c38 k38
  have b38 := F38.binds (ps := ["dice", "arena"]) fun _ _ _ _ _ _ us hl => match us, hl with | [_, _], _ => rfl
  have F39 := fun_mk (st := s_law_bo_arena) l39 c39 k39
  have b39 := F39.binds (ps := ["dice"]) fun _ _ _ _ _ _ us hl => match us, hl with | [_], _ => rfl
  have F40 := fun_mk (st := s_law_bo_pace) l40 c40 k40
  have b40 := F40.binds (ps := ["dice"]) fun _ _ _ _ _ _ us hl => match us, hl with | [_], _ => rfl
  have F41 := fun_mk (st := s_law_ways_right) l41 c41 k41
  have b41 := F41.binds (ps := ["dice", "arena", "box", "others"]) fun _ _ _ _ _ _ us hl => match us, hl with | [_, _, _, _], _ => rfl
  have F42 := fun_mk (st := s_law_meetings_right) l42 c42 k42
  have b42 := F42.binds (ps := ["dice", "box", "others"]) fun _ _ _ _ _ _ us hl => match us, hl with | [_, _, _], _ => rfl
  have F43 := fun_mk (st := s_law_right) l43 c43 k43
  have b43 := F43.binds (ps := ["dice"]) fun _ _ _ _ _ _ us hl => match us, hl with | [_], _ => rfl
  have F44 := fun_mk (st := s_law) l44 c44 k44
  let T : Txt K mg w := {
    a_is_integer := f0
    fd_is_integer := _
    F_is_integer := F0
    g_is_integer := PySem.W.mg_of X G a0
    b_is_integer := b0
    a_is_within := f1
    fd_is_within := _
    F_is_within := F1
    g_is_within := PySem.W.mg_of X G a1
    b_is_within := b1
    a_need_within := f2
    fd_need_within := _
    F_need_within := F2
    g_need_within := PySem.W.mg_of X G a2
    b_need_within := b2
    a_is_number := f3
    fd_is_number := _
    F_is_number := F3
    g_is_number := PySem.W.mg_of X G a3
    b_is_number := b3
    a_is_arena := f4
    fd_is_arena := _
    F_is_arena := F4
    g_is_arena := PySem.W.mg_of X G a4
    b_is_arena := b4
    a_is_box := f5
    fd_is_box := _
    F_is_box := F5
    g_is_box := PySem.W.mg_of X G a5
    b_is_box := b5
    a_need_box := f6
    fd_need_box := _
    F_need_box := F6
    g_need_box := PySem.W.mg_of X G a6
    b_need_box := b6
    a_need_number := f7
    fd_need_number := _
    F_need_number := F7
    g_need_number := PySem.W.mg_of X G a7
    b_need_number := b7
    a_need_among := f8
    fd_need_among := _
    F_need_among := F8
    g_need_among := PySem.W.mg_of X G a8
    b_need_among := b8
    a_need_way := f9
    fd_need_way := _
    F_need_way := F9
    g_need_way := PySem.W.mg_of X G a9
    b_need_way := b9
    a_are_meeting := f10
    fd_are_meeting := _
    F_are_meeting := F10
    g_are_meeting := PySem.W.mg_of X G a10
    b_are_meeting := b10
    ds_are_meeting := ds10
    vd_are_meeting := vd10
    kb_are_meeting := kb10
    a_do_meet := f11
    fd_do_meet := _
    F_do_meet := F11
    g_do_meet := PySem.W.mg_of X G a11
    b_do_meet := b11
    a_do_share := f12
    fd_do_share := _
    F_do_share := F12
    g_do_share := PySem.W.mg_of X G a12
    b_do_share := b12
    a_shifted := f13
    fd_shifted := _
    F_shifted := F13
    g_shifted := PySem.W.mg_of X G a13
    b_shifted := b13
    a_border_gap := f14
    fd_border_gap := _
    F_border_gap := F14
    g_border_gap := PySem.W.mg_of X G a14
    b_border_gap := b14
    a_box_gaps := f15
    fd_box_gaps := _
    F_box_gaps := F15
    g_box_gaps := PySem.W.mg_of X G a15
    b_box_gaps := b15
    a_units_free := f16
    fd_units_free := _
    F_units_free := F16
    g_units_free := PySem.W.mg_of X G a16
    b_units_free := b16
    a_reach := f17
    fd_reach := _
    F_reach := F17
    g_reach := PySem.W.mg_of X G a17
    b_reach := b17
    a_reach_by_units := f18
    fd_reach_by_units := _
    F_reach_by_units := F18
    g_reach_by_units := PySem.W.mg_of X G a18
    b_reach_by_units := b18
    a_is_barred := f19
    fd_is_barred := _
    F_is_barred := F19
    g_is_barred := PySem.W.mg_of X G a19
    b_is_barred := b19
    a_is_border_ahead := f20
    fd_is_border_ahead := _
    F_is_border_ahead := F20
    g_is_border_ahead := PySem.W.mg_of X G a20
    b_is_border_ahead := b20
    a_does_bar := f21
    fd_does_bar := _
    F_does_bar := F21
    g_does_bar := PySem.W.mg_of X G a21
    b_does_bar := b21
    a_barrier := f22
    fd_barrier := _
    F_barrier := F22
    g_barrier := PySem.W.mg_of X G a22
    b_barrier := b22
    a_moved_box := f23
    fd_moved_box := _
    F_moved_box := F23
    g_moved_box := PySem.W.mg_of X G a23
    b_moved_box := b23
    a_moved := f24
    fd_moved := _
    F_moved := F24
    g_moved := PySem.W.mg_of X G a24
    b_moved := b24
    a_law_dice := f25
    fd_law_dice := _
    F_law_dice := F25
    g_law_dice := PySem.W.mg_of X G a25
    b_law_dice := b25
    a_law_roll := f26
    fd_law_roll := _
    F_law_roll := F26
    g_law_roll := PySem.W.mg_of X G a26
    b_law_roll := b26
    a_law_pick := f27
    fd_law_pick := _
    F_law_pick := F27
    g_law_pick := PySem.W.mg_of X G a27
    b_law_pick := b27
    a_law_bo_meet := f28
    fd_law_bo_meet := _
    F_law_bo_meet := F28
    g_law_bo_meet := PySem.W.mg_of X G a28
    b_law_bo_meet := b28
    a_law_bo_swept := f29
    fd_law_bo_swept := _
    F_law_bo_swept := F29
    g_law_bo_swept := PySem.W.mg_of X G a29
    b_law_bo_swept := b29
    a_law_bo_put := f30
    fd_law_bo_put := _
    F_law_bo_put := F30
    g_law_bo_put := PySem.W.mg_of X G a30
    b_law_bo_put := b30
    a_law_bo_is_beyond := f31
    fd_law_bo_is_beyond := _
    F_law_bo_is_beyond := F31
    g_law_bo_is_beyond := PySem.W.mg_of X G a31
    b_law_bo_is_beyond := b31
    a_law_bo_is_free := f32
    fd_law_bo_is_free := _
    F_law_bo_is_free := F32
    g_law_bo_is_free := PySem.W.mg_of X G a32
    b_law_bo_is_free := b32
    a_law_bo_reach := f33
    fd_law_bo_reach := _
    F_law_bo_reach := F33
    g_law_bo_reach := PySem.W.mg_of X G a33
    b_law_bo_reach := b33
    a_law_bo_barrier := f34
    fd_law_bo_barrier := _
    F_law_bo_barrier := F34
    g_law_bo_barrier := PySem.W.mg_of X G a34
    b_law_bo_barrier := b34
    a_law_bo_moved := f35
    fd_law_bo_moved := _
    F_law_bo_moved := F35
    g_law_bo_moved := PySem.W.mg_of X G a35
    b_law_bo_moved := b35
    a_law_bo_grown := f36
    fd_law_bo_grown := _
    F_law_bo_grown := F36
    g_law_bo_grown := PySem.W.mg_of X G a36
    b_law_bo_grown := b36
    a_law_bo_number := f37
    fd_law_bo_number := _
    F_law_bo_number := F37
    g_law_bo_number := PySem.W.mg_of X G a37
    b_law_bo_number := b37
    a_law_bo_drawn := f38
    fd_law_bo_drawn := _
    F_law_bo_drawn := F38
    g_law_bo_drawn := PySem.W.mg_of X G a38
    b_law_bo_drawn := b38
    a_law_bo_arena := f39
    fd_law_bo_arena := _
    F_law_bo_arena := F39
    g_law_bo_arena := PySem.W.mg_of X G a39
    b_law_bo_arena := b39
    a_law_bo_pace := f40
    fd_law_bo_pace := _
    F_law_bo_pace := F40
    g_law_bo_pace := PySem.W.mg_of X G a40
    b_law_bo_pace := b40
    a_law_ways_right := f41
    fd_law_ways_right := _
    F_law_ways_right := F41
    g_law_ways_right := PySem.W.mg_of X G a41
    b_law_ways_right := b41
    a_law_meetings_right := f42
    fd_law_meetings_right := _
    F_law_meetings_right := F42
    g_law_meetings_right := PySem.W.mg_of X G a42
    b_law_meetings_right := b42
    a_law_right := f43
    fd_law_right := _
    F_law_right := F43
    g_law_right := PySem.W.mg_of X G a43
    b_law_right := b43
    z_abs := PySem.W.mg_none_of X G z_abs
    z_max := PySem.W.mg_none_of X G z_max
    z_min := PySem.W.mg_none_of X G z_min
    z_int := PySem.W.mg_none_of X G z_int
    z_len := PySem.W.mg_none_of X G z_len
    z_range := PySem.W.mg_none_of X G z_range
    z_repr := PySem.W.mg_none_of X G z_repr
    z_isinstance := PySem.W.mg_none_of X G z_isinstance
    z_bool := PySem.W.mg_none_of X G z_bool
    z_tuple := PySem.W.mg_none_of X G z_tuple
    z_any := PySem.W.mg_none_of X G z_any
    z_all := PySem.W.mg_none_of X G z_all
    z_enumerate := PySem.W.mg_none_of X G z_enumerate
    t_MOST := t_MOST
    g_MOST := PySem.W.mg_of X G v_MOST
    t_MAX_ARENA := t_MAX_ARENA
    g_MAX_ARENA := PySem.W.mg_of X G v_MAX_ARENA
    t_MAX_BODY := t_MAX_BODY
    g_MAX_BODY := PySem.W.mg_of X G v_MAX_BODY
    t_MOST_UNITS := t_MOST_UNITS
    g_MOST_UNITS := PySem.W.mg_of X G v_MOST_UNITS
    t_MOST_OTHERS := t_MOST_OTHERS
    g_MOST_OTHERS := PySem.W.mg_of X G v_MOST_OTHERS
    t_MOST_MANY := t_MOST_MANY
    g_MOST_MANY := PySem.W.mg_of X G v_MOST_MANY
    a_SIDES := aSD
    g_SIDES := PySem.W.mg_of X G sA
    o_SIDES := fun H => .inr ⟨_, _, _, sL, rfl, rfl, sz_of (by show 4 ≤ 100000; decide), .cons ⟨_, rfl⟩ (.cons ⟨_, rfl⟩ (.cons ⟨_, rfl⟩ (.cons ⟨_, rfl⟩ .nil)))⟩
    a_WAYS := aWY
    g_WAYS := PySem.W.mg_of X G wA
    w_left := wW0
    o_left := ⟨_, _, _, wL, wK, wn0, rfl⟩
    p_left := fun H => .inr ⟨_, _, _, wl0, rfl, rfl, sz_of (by show 2 ≤ 100000; decide), .cons ⟨_, rfl⟩ (.cons ⟨_, rfl⟩ .nil)⟩
    w_right := wW1
    o_right := ⟨_, _, _, wL, wK, wn1, rfl⟩
    p_right := fun H => .inr ⟨_, _, _, wl1, rfl, rfl, sz_of (by show 2 ≤ 100000; decide), .cons ⟨_, rfl⟩ (.cons ⟨_, rfl⟩ .nil)⟩
    w_low := wW2
    o_low := ⟨_, _, _, wL, wK, wn2, rfl⟩
    p_low := fun H => .inr ⟨_, _, _, wl2, rfl, rfl, sz_of (by show 2 ≤ 100000; decide), .cons ⟨_, rfl⟩ (.cons ⟨_, rfl⟩ .nil)⟩
    w_high := wW3
    o_high := ⟨_, _, _, wL, wK, wn3, rfl⟩
    p_high := fun H => .inr ⟨_, _, _, wl3, rfl, rfl, sz_of (by show 2 ≤ 100000; decide), .cons ⟨_, rfl⟩ (.cons ⟨_, rfl⟩ .nil)⟩
  }
  exact ⟨PySem.W.fnOf "law" "law" (defArgs s_law) (defBody s_law) (defScope s_law) .none kV44 dc44 pm44 an44 cd44 ct44, fun s v => .of_eq rfl, fun base _ _ => ok_law T F44⟩
end Kz
open PySem PySem.W PyProof.Rows
set_option maxHeartbeats 0 in
theorem PySem.Challenge.cw_settledplay_k18_whole_boxes_that_go_holds : PySem.Challenge.rw_settledplay_k18_whole_boxes_that_go.Holds := by
  w_on; o_law; k_head; (case hw => w_witness2)
  k_fill
  refine L2.walk_of (l := PySem.Challenge.rw_settledplay_k18_whole_boxes_that_go) (n := 63) (k := 11) (x := "script") (CX := fun _ => L2.CX0) (sp := fun w => Kz.spLaw _) rfl (by decide) rfl ⟨rfl, by decide, by decide⟩ (fun w h Y => PySem.W.kIn_of Y) ?F (fun _ _ a ns hl _ hS => ⟨a, ns, rfl, hS, hl, fun _ => rfl⟩) (fun _ _ _ _ _ h => h)
  case F =>
    intro w mg fa h KX G hmg
    refine' Kz.all_mk KX G hmg ?a0 ?l0 ?c0 ?k0 ?a1 ?l1 ?c1 ?k1 ?a2 ?l2 ?c2 ?k2 ?a3 ?l3 ?c3 ?k3 ?a4 ?l4 ?c4 ?k4 ?a5 ?l5 ?c5 ?k5 ?a6 ?l6 ?c6 ?k6 ?a7 ?l7 ?c7 ?k7 ?a8 ?l8 ?c8 ?k8 ?a9 ?l9 ?c9 ?k9 ?a10 ?l10 ?c10 ?k10 ?n10 ?a11 ?l11 ?c11 ?k11 ?a12 ?l12 ?c12 ?k12 ?a13 ?l13 ?c13 ?k13 ?a14 ?l14 ?c14 ?k14 ?a15 ?l15 ?c15 ?k15 ?a16 ?l16 ?c16 ?k16 ?a17 ?l17 ?c17 ?k17 ?a18 ?l18 ?c18 ?k18 ?a19 ?l19 ?c19 ?k19 ?a20 ?l20 ?c20 ?k20 ?a21 ?l21 ?c21 ?k21 ?a22 ?l22 ?c22 ?k22 ?a23 ?l23 ?c23 ?k23 ?a24 ?l24 ?c24 ?k24 ?a25 ?l25 ?c25 ?k25 ?a26 ?l26 ?c26 ?k26 ?a27 ?l27 ?c27 ?k27 ?a28 ?l28 ?c28 ?k28 ?a29 ?l29 ?c29 ?k29 ?a30 ?l30 ?c30 ?k30 ?a31 ?l31 ?c31 ?k31 ?a32 ?l32 ?c32 ?k32 ?a33 ?l33 ?c33 ?k33 ?a34 ?l34 ?c34 ?k34 ?a35 ?l35 ?c35 ?k35 ?a36 ?l36 ?c36 ?k36 ?a37 ?l37 ?c37 ?k37 ?a38 ?l38 ?c38 ?k38 ?a39 ?l39 ?c39 ?k39 ?a40 ?l40 ?c40 ?k40 ?a41 ?l41 ?c41 ?k41 ?a42 ?l42 ?c42 ?k42 ?a43 ?l43 ?c43 ?k43 ?a44 ?l44 ?c44 ?k44 ?z_abs ?z_max ?z_min ?z_int ?z_len ?z_range ?z_repr ?z_isinstance ?z_bool ?z_tuple ?z_any ?z_all ?z_enumerate ?v_MOST ?v_MAX_ARENA ?v_MAX_BODY ?v_MOST_UNITS ?v_MOST_OTHERS ?v_MOST_MANY ?sA ?sL ?wA ?wL ?wK ?wn0 ?wl0 ?wn1 ?wl1 ?wn2 ?wl2 ?wn3 ?wl3
    (case a0 => k_is)
    (case l0 => k_is)
    (case c0 => k_is)
    (case k0 => k_is)
    (case a1 => k_is)
    (case l1 => k_is)
    (case c1 => k_is)
    (case k1 => k_is)
    (case a2 => k_is)
    (case l2 => k_is)
    (case c2 => k_is)
    (case k2 => k_is)
    (case a3 => k_is)
    (case l3 => k_is)
    (case c3 => k_is)
    (case k3 => k_is)
    (case a4 => k_is)
    (case l4 => k_is)
    (case c4 => k_is)
    (case k4 => k_is)
    (case a5 => k_is)
    (case l5 => k_is)
    (case c5 => k_is)
    (case k5 => k_is)
    (case a6 => k_is)
    (case l6 => k_is)
    (case c6 => k_is)
    (case k6 => k_is)
    (case a7 => k_is)
    (case l7 => k_is)
    (case c7 => k_is)
    (case k7 => k_is)
    (case a8 => k_is)
    (case l8 => k_is)
    (case c8 => k_is)
    (case k8 => k_is)
    (case a9 => k_is)
    (case l9 => k_is)
    (case c9 => k_is)
    (case k9 => k_is)
    (case a10 => k_is)
    (case l10 => k_is)
    (case c10 => k_is)
    (case k10 => k_is)
    (case n10 => k_is)
    (case a11 => k_is)
    (case l11 => k_is)
    (case c11 => k_is)
    (case k11 => k_is)
    (case a12 => k_is)
    (case l12 => k_is)
    (case c12 => k_is)
    (case k12 => k_is)
    (case a13 => k_is)
    (case l13 => k_is)
    (case c13 => k_is)
    (case k13 => k_is)
    (case a14 => k_is)
    (case l14 => k_is)
    (case c14 => k_is)
    (case k14 => k_is)
    (case a15 => k_is)
    (case l15 => k_is)
    (case c15 => k_is)
    (case k15 => k_is)
    (case a16 => k_is)
    (case l16 => k_is)
    (case c16 => k_is)
    (case k16 => k_is)
    (case a17 => k_is)
    (case l17 => k_is)
    (case c17 => k_is)
    (case k17 => k_is)
    (case a18 => k_is)
    (case l18 => k_is)
    (case c18 => k_is)
    (case k18 => k_is)
    (case a19 => k_is)
    (case l19 => k_is)
    (case c19 => k_is)
    (case k19 => k_is)
    (case a20 => k_is)
    (case l20 => k_is)
    (case c20 => k_is)
    (case k20 => k_is)
    (case a21 => k_is)
    (case l21 => k_is)
    (case c21 => k_is)
    (case k21 => k_is)
    (case a22 => k_is)
    (case l22 => k_is)
    (case c22 => k_is)
    (case k22 => k_is)
    (case a23 => k_is)
    (case l23 => k_is)
    (case c23 => k_is)
    (case k23 => k_is)
    (case a24 => k_is)
    (case l24 => k_is)
    (case c24 => k_is)
    (case k24 => k_is)
    (case a25 => k_is)
    (case l25 => k_is)
    (case c25 => k_is)
    (case k25 => k_is)
    (case a26 => k_is)
    (case l26 => k_is)
    (case c26 => k_is)
    (case k26 => k_is)
    (case a27 => k_is)
    (case l27 => k_is)
    (case c27 => k_is)
    (case k27 => k_is)
    (case a28 => k_is)
    (case l28 => k_is)
    (case c28 => k_is)
    (case k28 => k_is)
    (case a29 => k_is)
    (case l29 => k_is)
    (case c29 => k_is)
    (case k29 => k_is)
    (case a30 => k_is)
    (case l30 => k_is)
    (case c30 => k_is)
    (case k30 => k_is)
    (case a31 => k_is)
    (case l31 => k_is)
    (case c31 => k_is)
    (case k31 => k_is)
    (case a32 => k_is)
    (case l32 => k_is)
    (case c32 => k_is)
    (case k32 => k_is)
    (case a33 => k_is)
    (case l33 => k_is)
    (case c33 => k_is)
    (case k33 => k_is)
    (case a34 => k_is)
    (case l34 => k_is)
    (case c34 => k_is)
    (case k34 => k_is)
    (case a35 => k_is)
    (case l35 => k_is)
    (case c35 => k_is)
    (case k35 => k_is)
    (case a36 => k_is)
    (case l36 => k_is)
    (case c36 => k_is)
    (case k36 => k_is)
    (case a37 => k_is)
    (case l37 => k_is)
    (case c37 => k_is)
    (case k37 => k_is)
    (case a38 => k_is)
    (case l38 => k_is)
    (case c38 => k_is)
    (case k38 => k_is)
    (case a39 => k_is)
    (case l39 => k_is)
    (case c39 => k_is)
    (case k39 => k_is)
    (case a40 => k_is)
    (case l40 => k_is)
    (case c40 => k_is)
    (case k40 => k_is)
    (case a41 => k_is)
    (case l41 => k_is)
    (case c41 => k_is)
    (case k41 => k_is)
    (case a42 => k_is)
    (case l42 => k_is)
    (case c42 => k_is)
    (case k42 => k_is)
    (case a43 => k_is)
    (case l43 => k_is)
    (case c43 => k_is)
    (case k43 => k_is)
    (case a44 => k_is)
    (case l44 => k_is)
    (case c44 => k_is)
    (case k44 => k_is)
    (case z_abs => k_is)
    (case z_max => k_is)
    (case z_min => k_is)
    (case z_int => k_is)
    (case z_len => k_is)
    (case z_range => k_is)
    (case z_repr => k_is)
    (case z_isinstance => k_is)
    (case z_bool => k_is)
    (case z_tuple => k_is)
    (case z_any => k_is)
    (case z_all => k_is)
    (case z_enumerate => k_is)
    (case v_MOST => k_is)
    (case v_MAX_ARENA => k_is)
    (case v_MAX_BODY => k_is)
    (case v_MOST_UNITS => k_is)
    (case v_MOST_OTHERS => k_is)
    (case v_MOST_MANY => k_is)
    (case sA => k_is)
    (case sL => k_is)
    (case wA => k_is)
    (case wL => k_is)
    (case wK => k_keys)
    (case wn0 => k_is)
    (case wl0 => k_is)
    (case wn1 => k_is)
    (case wl1 => k_is)
    (case wn2 => k_is)
    (case wl2 => k_is)
    (case wn3 => k_is)
    (case wl3 => k_is)
