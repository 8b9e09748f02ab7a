import PyProof.Rows.All
import Wide.All
import OpenK.AllK
import Wide.FinOn
import HandS.ForMost
import HandS.Wide
import HandS.Evl
import HandS.IsInst
import HandS.RaiseMore
import HandS.More
import HandS.CallLocal
import HandS.Style
import HandS.TupAny
import HandS.Strs
import HandS.SetFor
import PySem.Challenge.RW_settledplay_k04_whole_stirred_lucks_and
set_option Elab.async false
set_option linter.all false
set_option maxRecDepth 100000
set_option maxHeartbeats 4000000
namespace Vr
open PySem PySem.Spec PyProof.Rows L2 Evl
/-! ### rules of calls whose answer is one -/
section
variable {X : Cx}
def rI1 (g : Int → V) : List V → Hp → VK → Prop := fun xs H Q => ∃ i, xs = [.int i] ∧ Q (g i) H
def rB1 (g : Bool → V) : List V → Hp → VK → Prop := fun xs H Q => ∃ i, xs = [.bl i] ∧ Q (g i) H
def rI2 (g : Int → Int → V) : List V → Hp → VK → Prop := fun xs H Q => ∃ i j, xs = [.int i, .int j] ∧ Q (g i j) H
theorem callR_mono {f : Value} {r r' : List V → Hp → VK → Prop} (h : CallR X f r) (k : ∀ vs H Q, r' vs H Q → r vs H Q) : CallR X f r' :=
  fun pins s σ H xs us Q I rv q => h pins s σ H xs us Q I rv (k _ _ _ q)
theorem c_int : CallR X (.type "int") (rI1 fun i => .int i) := callR_mono call_int1 fun _ _ _ h => .inl h
theorem c_intB : CallR X (.type "int") (rB1 fun k => .int (if k then 1 else 0)) := callR_mono call_int1 fun _ _ _ h => .inr h
theorem c_abs : CallR X (.builtin "abs") (rI1 fun i => .int (if i < 0 then -i else i)) := call_abs
theorem c_max (hc : X.calm = true) : CallR X (.builtin "max") (rI2 fun i j => .int (if j > i then j else i)) := call_max2 hc
theorem c_min (hc : X.calm = true) : CallR X (.builtin "min") (rI2 fun i j => .int (if j < i then j else i)) := call_min2 hc
def rRepr : List V → Hp → VK → Prop := fun xs H Q => ∃ i : Int, xs = [.int i] ∧ i.natAbs.log2 < 1920 ∧ Q (.str (toString i)) H
theorem c_repr : CallR X (.builtin "repr") rRepr := SkE.call_repr_int
theorem c_len : CallR X (.builtin "len") (rLenS X.K) := call_len_seq
end
section
variable {K : PySem.W.Frag} {σ : L2.St} {H H' : Hp} {ta tb tc te : TE} {t u : TT} {x y z v : V} {r r' : R2} {D : Ends}
theorem sc_mul {i j : Int} (h : -18446744073709551616 < i ∧ i < 18446744073709551616) : CMul i j := .inl h
theorem sc_div {i j : Int} (h : 0 < j) (h2 : j.natAbs.log2 < 9000) : CDivW i j := ⟨h, h2⟩
theorem rc_I1 {g : Int → V} {i : Int} : RC (rI1 g) [.int i] H (g i) := fun H1 _ _ q => ⟨i, rfl, q H1 (Ex.refl H1)⟩
theorem rc_B1 {g : Bool → V} {i : Bool} : RC (rB1 g) [.bl i] H (g i) := fun H1 _ _ q => ⟨i, rfl, q H1 (Ex.refl H1)⟩
theorem rc_I2 {g : Int → Int → V} {i j : Int} : RC (rI2 g) [.int i, .int j] H (g i j) := fun H1 _ _ q => ⟨i, j, rfl, q H1 (Ex.refl H1)⟩
theorem rc_repr {i : Int} (h : i.natAbs.log2 < 1920) : RC rRepr [.int i] H (.str (toString i)) := fun H1 _ _ q => ⟨i, rfl, h, q H1 (Ex.refl H1)⟩
theorem rc_lenL {p : Addr} {xs : List V} (h : SqL K H p xs) : RC (rLenS K) [.ref p] H (.int (xs.length : Int)) := fun H1 e _ q => ⟨p, xs, rfl, .inl (ex_l e h), q H1 (Ex.refl H1)⟩
theorem ev_chain {a b : Bool} (h1 : Ev ta σ H x) (h2 : Ev tb σ H y) (r1 : RV r x y H (.bl a)) (h3 : Ev tc σ H z) (r2 : RV r' y z H (.bl b)) : Ev (tChain r r' ta tb tc) σ H (.bl (a && b)) := fun H1 e Q q =>
  h1 H1 e _ fun H2 e2 => h2 H2 (e.trans e2) _ fun H3 e3 => r1 H3 ((e.trans e2).trans e3) _ fun H4 e4 => ⟨a, rfl, by
    cases a with
    | true =>
      rw [if_pos rfl]
      exact h3 H4 (((e.trans e2).trans e3).trans e4) _ fun H5 e5 => r2 H5 ((((e.trans e2).trans e3).trans e4).trans e5) _ fun H6 e6 => q H6 ((((e2.trans e3).trans e4).trans e5).trans e6)
    | false =>
      rw [if_neg Bool.false_ne_true]
      exact q H4 ((e2.trans e3).trans e4)⟩
/-- an expression that evaluates, then what follows -/
theorem go {Q : VK} (h : Ev te σ H v) (k : ∀ H1, Ex H H1 → Q v H1) : te σ H Q := h H (Ex.refl H) Q k
theorem goT {b : Bool} {Q : Bool → Hp → Prop} (h : EvT t σ H b) (k : ∀ H1, Ex H H1 → Q b H1) : t σ H Q := h H (Ex.refl H) Q k
theorem goA {ts : TA} {vs : List V} {Q : List V → Hp → Prop} (h : EvA ts σ H vs) (k : ∀ H1, Ex H H1 → Q vs H1) : ts σ H Q := h H (Ex.refl H) Q k
/-! ### promises of defs that answer by their arguments, whatever else they make -/
def Pure (ok : List V → Hp → V → Prop) : Sp := fun vs H Q _ => ∃ z, ok vs H z ∧ ∀ H', Ex H H' → Q z H'
theorem ev_callP {ok : List V → Hp → V → Prop} {E : XK} {ts : TA} {vs : List V} (h : EvA ts σ H vs) (ho : ∀ H1, Ex H H1 → ok vs H1 z) : Ev (tCall (Pure ok) [] E ts) σ H z := fun H1 e Q q =>
  h H1 e _ fun H2 e2 => by
    show Pure ok (vs ++ []) H2 Q E
    rw [List.append_nil]
    exact ⟨z, ho H2 (e.trans e2), fun H3 e3 => q H3 (e2.trans e3)⟩
theorem fin {Q : VK} (k : ∀ H', Ex H H' → Q z H') (e : Ex H H') : Q z H' := k H' e
/-! ### the dice: a list of three ints at p, all else as it was -/
def Exd (p : Addr) (H H' : Hp) : Prop := ∀ a o, a ≠ p → H a = some o → H' a = some o
theorem Exd.refl (p : Addr) (H : Hp) : Exd p H H := fun _ _ _ h => h
theorem Exd.trans {p : Addr} {H H1 H2 : Hp} (a : Exd p H H1) (b : Exd p H1 H2) : Exd p H H2 := fun c o n h => b c o n (a c o n h)
theorem Exd.of {p : Addr} (e : Ex H H') : Exd p H H' := fun a o _ h => e a o h
theorem Exd.upd {p : Addr} {o : HO} : Exd p H (upd H p o) := fun a u n h => by rw [upd_ne n]; exact h
def Dice (p : Addr) (H : Hp) : Prop := ∃ a b c : Int, H p = some (.lst [.int a, .int b, .int c])
theorem Dice.ex {p : Addr} (e : Ex H H') (d : Dice p H) : Dice p H' := by
  obtain ⟨a, b, c, h⟩ := d
  exact ⟨a, b, c, e _ _ h⟩
theorem Exd.l {p a : Addr} {xs : List V} (e : Exd p H H') (n : a ≠ p) (h : SqL K H a xs) : SqL K H' a xs := by
  rcases h with (h | ⟨o, h⟩) | h
  · exact .inl (.inl (e _ _ n h))
  · exact .inl (.inr ⟨o, e _ _ n h⟩)
  · exact .inr h
/-! ### more values -/
theorem ev_ite {b : Bool} {v1 v2 : V} (h : EvT t σ H b) (h1 : b = true → Ev ta σ H v1) (h2 : b = false → Ev tb σ H v2) : Ev (tIf t ta tb) σ H (if b = true then v1 else v2) :=
  ev_if h (fun e => by rw [if_pos e]; exact h1 e) (fun e => by rw [if_neg (by rw [e]; exact Bool.false_ne_true)]; exact h2 e)
theorem ev_pow {a b c : Int} (h : 0 ≤ b ∧ b ≤ 1000000 ∧ a.natAbs < 2 ^ 64) (e : a ^ b.toNat = c) : Ev (tOp (rI CPow fun i j => .int (i ^ j.toNat)) (tC (.int a)) (tC (.int b))) σ H (.int c) := by
  rw [← e]
  exact ev_op ev_c ev_c (rv_I h)
/-- the type of a value, and what isinstance says of int and bool -/
def isIB : V → Bool
  | .int _ => true
  | .bl _ => true
  | _ => false
def isB : V → Bool
  | .bl _ => true
  | _ => false
def isS : V → Bool
  | .str _ => true
  | _ => false
/-- a plain value: its type is a built-in one -/
def Plain (K : PySem.W.Frag) (H : Hp) (x : V) : Prop := ∃ n, TyX K H x (.type n)
theorem isi_int {n : String} (h : TyX K H x (.type n)) : PySem.W.kitOne K (.type n) (.type "int") = some (isIB x) := by
  cases h with
  | base b => cases b <;> first | exact kit_ty (r := false) (by decide +kernel) | exact kit_ty (r := true) (by decide +kernel)
  | byt _ => first | exact kit_ty (r := false) (by decide +kernel) | exact kit_ty (r := true) (by decide +kernel)
  | set _ => first | exact kit_ty (r := false) (by decide +kernel) | exact kit_ty (r := true) (by decide +kernel)
  | kList _ _ => first | exact kit_ty (r := false) (by decide +kernel) | exact kit_ty (r := true) (by decide +kernel)
  | kTuple _ _ => first | exact kit_ty (r := false) (by decide +kernel) | exact kit_ty (r := true) (by decide +kernel)
  | kDict _ _ => first | exact kit_ty (r := false) (by decide +kernel) | exact kit_ty (r := true) (by decide +kernel)
  | fTuple _ => first | exact kit_ty (r := false) (by decide +kernel) | exact kit_ty (r := true) (by decide +kernel)
  | fDict _ => first | exact kit_ty (r := false) (by decide +kernel) | exact kit_ty (r := true) (by decide +kernel)
theorem isi_bool {n : String} (h : TyX K H x (.type n)) : PySem.W.kitOne K (.type n) (.type "bool") = some (isB x) := by
  cases h with
  | base b => cases b <;> first | exact kit_ty (r := false) (by decide +kernel) | exact kit_ty (r := true) (by decide +kernel)
  | byt _ => first | exact kit_ty (r := false) (by decide +kernel) | exact kit_ty (r := true) (by decide +kernel)
  | set _ => first | exact kit_ty (r := false) (by decide +kernel) | exact kit_ty (r := true) (by decide +kernel)
  | kList _ _ => first | exact kit_ty (r := false) (by decide +kernel) | exact kit_ty (r := true) (by decide +kernel)
  | kTuple _ _ => first | exact kit_ty (r := false) (by decide +kernel) | exact kit_ty (r := true) (by decide +kernel)
  | kDict _ _ => first | exact kit_ty (r := false) (by decide +kernel) | exact kit_ty (r := true) (by decide +kernel)
  | fTuple _ => first | exact kit_ty (r := false) (by decide +kernel) | exact kit_ty (r := true) (by decide +kernel)
  | fDict _ => first | exact kit_ty (r := false) (by decide +kernel) | exact kit_ty (r := true) (by decide +kernel)
theorem ty_ex {u : Value} (e : Ex H H') (h : TyX K H x u) : TyX K H' x u := by
  cases h with
  | base b =>
    cases b with
    | non => exact .base .non
    | bl y => exact .base (.bl y)
    | int y => exact .base (.int y)
    | str y => exact .base (.str y)
    | flt y => exact .base (.flt y)
    | lst h => exact .base (.lst (e _ _ h))
    | frz h => exact .base (.frz (e _ _ h))
    | tup h => exact .base (.tup (e _ _ h))
    | dK h => exact .base (.dK (e _ _ h))
    | dT h => exact .base (.dT (e _ _ h))
    | ins h a b c d f => exact .base (.ins (e _ _ h) a b c d f)
  | byt b => exact .byt b
  | set h => exact .set (e _ _ h)
  | kList h c => exact .kList h c
  | kTuple h c => exact .kTuple h c
  | kDict h c => exact .kDict h c
  | fTuple h => exact .fTuple (e _ _ h)
  | fDict h => exact .fDict (e _ _ h)
theorem Plain.ex (e : Ex H H') (h : Plain K H x) : Plain K H' x := by
  obtain ⟨n, h⟩ := h
  exact ⟨n, ty_ex e h⟩
theorem rc_isiInt (h : Plain K H x) : RC (rIsi K) [x, .ty "int"] H (.bl (isIB x)) := fun H1 e Q q => by
  obtain ⟨n, h⟩ := h.ex e
  exact ⟨x, .ty "int", .type n, .type "int", _, rfl, .ty _, h, isi_int h, q H1 (Ex.refl H1)⟩
theorem rc_isiBool (h : Plain K H x) : RC (rIsi K) [x, .ty "bool"] H (.bl (isB x)) := fun H1 e Q q => by
  obtain ⟨n, h⟩ := h.ex e
  exact ⟨x, .ty "bool", .type n, .type "bool", _, rfl, .ty _, h, isi_bool h, q H1 (Ex.refl H1)⟩
/-- an integer of at most sixty digits -/
def isIntV : V → Bool
  | .int i => decide (-1000000000000000000000000000000000000000000000000000000000000 < i) && decide (i < 1000000000000000000000000000000000000000000000000000000000000)
  | _ => false
def isWithin (lo hi : Int) : V → Bool
  | .int i => isIntV (.int i) && (decide (lo ≤ i) && decide (i ≤ hi))
  | _ => false
theorem pl_int {i : Int} : Plain K H (.int i) := ⟨_, .base (.int i)⟩
theorem pl_bl {i : Bool} : Plain K H (.bl i) := ⟨_, .base (.bl i)⟩
theorem pl_str {i : Str} : Plain K H (.str i) := ⟨_, .base (.str i)⟩
theorem pl_non : Plain K H .non := ⟨_, .base .non⟩
theorem pl_lst {a : Addr} {xs : List V} (h : H a = some (.lst xs)) : Plain K H (.ref a) := ⟨_, .base (.lst h)⟩
theorem pl_tup {a : Addr} {xs : List V} (h : H a = some (.tup xs)) : Plain K H (.ref a) := ⟨_, .base (.tup h)⟩
theorem pl_dK {a : Addr} {xs : List (Key × V)} (h : H a = some (.dK xs)) : Plain K H (.ref a) := ⟨_, .base (.dK h)⟩
/-! ### loops over a new tuple -/
variable {tu tw tz : TS} {g : TG}
theorem s_forNU {xs : List V} {tl : TE} (h : EvU tl σ H xs) (Pv : Addr → Nat → L2.St → Hp → Prop) (h0 : ∀ p H1, H p = none → Ex H H1 → H1 p = some (.tup xs) → Pv p 0 σ H1) (hl : ∀ p i σ' H', i ≤ xs.length → Pv p i σ' H' → SqT K H' p xs)
    (hs : ∀ p i x σ' H', xs[i]? = some x → Pv p i σ' H' → g x σ' H' fun σ2 H2 => tu { D with nx := Pv p (i + 1), ct := Pv p (i + 1), bk := D.nx } σ2 H2) (hd : ∀ p σ' H', Pv p xs.length σ' H' → D.nx σ' H') : tFor (iTup K tl) g tu D σ H :=
  h H (Ex.refl H) _ fun p H1 hp e h1 => ⟨p, rfl, ⟨xs, st_of h1⟩, for_tup (Pv p) (h0 p H1 hp e h1) (hl p) (hs p) (hd p)⟩
theorem q_forNU {xs : List V} {tl : TE} (h : EvU tl σ H xs) (Pv : Addr → Nat → L2.St → Hp → Prop) (h0 : ∀ p H1, H p = none → Ex H H1 → H1 p = some (.tup xs) → Pv p 0 σ H1) (hl : ∀ p i σ' H', i ≤ xs.length → Pv p i σ' H' → SqT K H' p xs)
    (hs : ∀ p i x σ' H', xs[i]? = some x → Pv p i σ' H' → g x σ' H' fun σ2 H2 => tu { D with nx := Pv p (i + 1), ct := Pv p (i + 1), bk := tz D } σ2 H2) (hd : ∀ p σ' H', Pv p xs.length σ' H' → tz D σ' H') : tSeq (tFor (iTup K tl) g tu) tz D σ H :=
  s_forNU (D := { D with nx := tz D }) h Pv h0 hl hs hd
/-! ### what draws from the dice -/
def Dv (p : Addr) (te : TE) (σ : L2.St) (H : Hp) (R : V → Prop) : Prop := ∀ H1, Exd p H H1 → Dice p H1 → ∀ Q : VK, (∀ v H2, R v → Exd p H1 H2 → Dice p H2 → Q v H2) → te σ H1 Q
def DvA (p : Addr) (ta : TA) (σ : L2.St) (H : Hp) (R : List V → Prop) : Prop := ∀ H1, Exd p H H1 → Dice p H1 → ∀ Q : List V → Hp → Prop, (∀ v H2, R v → Exd p H1 H2 → Dice p H2 → Q v H2) → ta σ H1 Q
theorem dv_ev {p : Addr} {R : V → Prop} (h : ∀ H1, Exd p H H1 → Dice p H1 → Ev te σ H1 v) (hr : R v) : Dv p te σ H R := fun H1 e d Q q => h H1 e d H1 (Ex.refl H1) Q fun H2 e2 => q v H2 hr (Exd.of e2) (d.ex e2)
theorem Dv.mono {p : Addr} {R R' : V → Prop} (h : Dv p te σ H R) (k : ∀ v, R v → R' v) : Dv p te σ H R' := fun H1 e d Q q => h H1 e d Q fun v H2 r => q v H2 (k v r)
theorem da_nil {p : Addr} {P : V → Prop} : DvA p tNil σ H (fun vs => vs.length = 0 ∧ ∀ v ∈ vs, P v) := fun H1 e d Q q => q [] H1 ⟨rfl, fun _ h => by cases h⟩ (Exd.refl p H1) d
theorem da_cons {p : Addr} {n : Nat} {P : V → Prop} {tr : TA} (h : Dv p te σ H P) (hr : DvA p tr σ H (fun vs => vs.length = n ∧ ∀ v ∈ vs, P v)) : DvA p (tCons te tr) σ H (fun vs => vs.length = n + 1 ∧ ∀ v ∈ vs, P v) := fun H1 e d Q q =>
  h H1 e d _ fun v H2 r e2 d2 => hr H2 (e.trans e2) d2 _ fun vs H3 rs e3 d3 => q (v :: vs) H3 ⟨by rw [List.length_cons, rs.1], fun x hx => by
    rcases List.mem_cons.mp hx with z | z
    · rw [z]; exact r
    · exact rs.2 x z⟩ (e2.trans e3) d3
theorem Exd.none {p a : Addr} (e : Exd p H H') (n : a ≠ p) (h : H' a = none) : H a = none := by
  cases q : H a with
  | none => rfl
  | some o => rw [e a o n q] at h; cases h
theorem Dice.ne {p a : Addr} (d : Dice p H) (h : H a = none) : a ≠ p := by
  obtain ⟨x, y, z, hp⟩ := d
  intro e
  rw [e, hp] at h
  cases h
/-- the call of a def that draws: what it promises of its answer -/
def Draws (ok : List V → Hp → Addr → (V → Prop) → Prop) : Sp := fun vs H Q _ => ∃ (p : Addr) (R : V → Prop), ok vs H p R ∧ Dice p H ∧ ∀ v H', R v → Exd p H H' → Dice p H' → Q v H'
theorem dv_call {ok : List V → Hp → Addr → (V → Prop) → Prop} {E : XK} {ts : TA} {p : Addr} {R : V → Prop} {vs : List V} (h : ∀ H1, Exd p H H1 → Dice p H1 → EvA ts σ H1 vs) (ho : ∀ H1, Exd p H H1 → Dice p H1 → ok vs H1 p R) : Dv p (tCall (Draws ok) [] E ts) σ H R := fun H1 e d Q q =>
  h H1 e d H1 (Ex.refl H1) _ fun H2 e2 => by
    show Draws ok (vs ++ []) H2 Q E
    rw [List.append_nil]
    exact ⟨p, R, ho H2 (e.trans (Exd.of e2)) (d.ex e2), d.ex e2, fun v H3 r e3 d3 => q v H3 r ((Exd.of e2).trans e3) d3⟩
theorem sc_mulr {i j : Int} (h : -18446744073709551616 < j ∧ j < 18446744073709551616) : CMul i j := .inr h
theorem q_asgI {i : Nat} (h : ∃ c : Int, Ev te σ H (.int c)) (k : ∀ (c : Int) H1, Ex H H1 → tz D (σ.set i (some (.int c))) H1) : tSeq (tAsg te (gName i)) tz D σ H := by
  obtain ⟨c, h⟩ := h
  exact q_asg h (k c)
/-! ### data of any depth -/
mutual
theorem dp_ex (e : Ex H H') : ∀ {d : PyData} {x : V}, Dp K H x d → Dp K H' x d
  | _, _, .non => .non
  | _, _, .bl b => .bl b
  | _, _, .int i => .int i
  | _, _, .str z => .str z
  | _, _, .lst h a => .lst (ex_l e h) (dpa_ex e a)
  | _, _, .tup h a => .tup (ex_t e h) (dpa_ex e a)
theorem dpa_ex (e : Ex H H') : ∀ {ds : List PyData} {xs : List V}, DpAll K H xs ds → DpAll K H' xs ds
  | _, _, .nil => .nil
  | _, _, .cons h t => .cons (dp_ex e h) (dpa_ex e t)
end
def EvD (K : PySem.W.Frag) (te : TE) (σ : L2.St) (H : Hp) (d : PyData) : Prop := ∀ H1, Ex H H1 → ∀ Q : VK, (∀ v H2, Ex H1 H2 → Dp K H2 v d → Q v H2) → te σ H1 Q
def EvDA (K : PySem.W.Frag) (ta : TA) (σ : L2.St) (H : Hp) (ds : List PyData) : Prop := ∀ H1, Ex H H1 → ∀ Q : List V → Hp → Prop, (∀ vs H2, Ex H1 H2 → DpAll K H2 vs ds → Q vs H2) → ta σ H1 Q
theorem dpa_len : ∀ {vs : List V} {ds : List PyData}, DpAll K H vs ds → vs.length = ds.length
  | _, _, .nil => rfl
  | _, _, .cons _ t => congrArg (· + 1) (dpa_len t)
theorem evd_of {d : PyData} (h : Ev te σ H v) (hd : ∀ H1, Ex H H1 → Dp K H1 v d) : EvD K te σ H d := fun H1 e Q q => h H1 e Q fun H2 e2 => q v H2 e2 (hd H2 (e.trans e2))
theorem evd_int {i : Int} (h : Ev te σ H (.int i)) : EvD K te σ H (.int i) := evd_of h fun _ _ => .int i
theorem evd_bl {b : Bool} (h : Ev te σ H (.bl b)) : EvD K te σ H (.bool b) := evd_of h fun _ _ => .bl b
theorem evd_str {z : Str} (h : Ev te σ H (.str z)) : EvD K te σ H (.str z) := evd_of h fun _ _ => .str z
theorem evd_non (h : Ev te σ H .non) : EvD K te σ H .none := evd_of h fun _ _ => .non
theorem evda_nil : EvDA K tNil σ H [] := fun H1 _ _ q => q [] H1 (Ex.refl H1) .nil
theorem evda_cons {d : PyData} {ds : List PyData} {tr : TA} (h : EvD K te σ H d) (hr : EvDA K tr σ H ds) : EvDA K (tCons te tr) σ H (d :: ds) := fun H1 e Q q =>
  h H1 e _ fun v H2 e2 hv => hr H2 (e.trans e2) _ fun vs H3 e3 hs => q (v :: vs) H3 (e2.trans e3) (.cons (dp_ex e3 hv) hs)
theorem evd_tup {ds : List PyData} {ts : TA} (h : EvDA K ts σ H ds) (hl : ds.length ≤ 100000) : EvD K (tTup ts) σ H (.tuple ds) := fun H1 e Q q =>
  h H1 e _ fun vs H2 e2 hs => ⟨by rw [dpa_len hs]; exact sz_of hl, fun p hp => q _ _ (e2.trans (Ex.new hp)) (.tup (st_of upd_same) (dpa_ex (Ex.new hp) hs))⟩
theorem evd_lst {ds : List PyData} {ts : TA} (h : EvDA K ts σ H ds) (hl : ds.length ≤ 100000) : EvD K (tLst ts) σ H (.list ds) := fun H1 e Q q =>
  h H1 e _ fun vs H2 e2 hs => ⟨by rw [dpa_len hs]; exact sz_of hl, fun p hp => q _ _ (e2.trans (Ex.new hp)) (.lst (sq_of upd_same) (dpa_ex (Ex.new hp) hs))⟩
theorem ev_eqD {d e : PyData} (h1 : EvD K ta σ H d) (h2 : EvD K tb σ H e) (s1 : SeqAt.shaped d = true) (s2 : SeqAt.shaped e = true) : Ev (tOp (rEqD K) ta tb) σ H (.bl (PyData.eqv d e)) := fun H1 x Q q =>
  h1 H1 x _ fun v H2 x2 hv => h2 H2 (x.trans x2) _ fun u H3 x3 hu => ⟨d, e, dp_ex x3 hv, hu, s1, s2, q H3 (x2.trans x3)⟩
theorem ev_neD {d e : PyData} (h1 : EvD K ta σ H d) (h2 : EvD K tb σ H e) (s1 : SeqAt.shaped d = true) (s2 : SeqAt.shaped e = true) : Ev (tOp (rNeD K) ta tb) σ H (.bl (!PyData.eqv d e)) := fun H1 x Q q =>
  h1 H1 x _ fun v H2 x2 hv => h2 H2 (x.trans x2) _ fun u H3 x3 hu => ⟨d, e, dp_ex x3 hv, hu, s1, s2, q H3 (x2.trans x3)⟩
/-! ### dicts laid on the way -/
def EvPs (trs : List (TE × TE)) (σ : L2.St) (H : Hp) (ps : List (V × V)) : Prop := ∀ H1, Ex H H1 → ∀ Q : List (V × V) → Hp → Prop, (∀ H2, Ex H1 H2 → Q ps H2) → tPairs trs σ H1 Q
theorem eps_nil : EvPs [] σ H [] := fun H1 _ _ q => q H1 (Ex.refl H1)
theorem eps_cons {trs : List (TE × TE)} {ps : List (V × V)} (h1 : Ev ta σ H x) (h2 : Ev tb σ H y) (hr : EvPs trs σ H ps) : EvPs ((ta, tb) :: trs) σ H ((x, y) :: ps) := fun H1 e Q q =>
  h1 H1 e _ fun H2 e2 => h2 H2 (e.trans e2) _ fun H3 e3 => hr H3 ((e.trans e2).trans e3) _ fun H4 e4 => q H4 ((e2.trans e3).trans e4)
def EvK (te : TE) (σ : L2.St) (H : Hp) (kvs : List (Key × V)) : Prop := ∀ H1, Ex H H1 → ∀ Q : VK, (∀ p H2, H1 p = none → Ex H1 H2 → H2 p = some (.dK kvs) → Q (.ref p) H2) → te σ H1 Q
theorem ek_disp {trs : List (TE × TE)} {ps : List (V × V)} (kvs : List (Key × V)) (h : EvPs trs σ H ps) (e : ps = kvs.map fun kv => (kV kv.1, kv.2)) (hl : kvs.length ≤ 15) : EvK (tDisp trs) σ H (mergeK [] kvs) := fun H1 x Q q p hp =>
  h (upd H1 p (.dK [])) (x.trans (Ex.new hp)) _ fun H2 x2 => ⟨x2 _ _ upd_same, kvs, e, hl, q p _ hp (fun a o ha => by rw [upd_ne (ne_of_none ha hp)]; exact x2 _ _ (Ex.new hp _ _ ha)) upd_same⟩
theorem ev_dgetK {kvs : List (Key × V)} {k : Key} (h1 : EvK ta σ H kvs) (h2 : Ev tb σ H (kV k)) (hv : valV kvs k = some v) : Ev (tDGet ta tb) σ H v := fun H1 e Q q =>
  h1 H1 e _ fun p H2 hp e2 h => h2 H2 (e.trans e2) _ fun H3 e3 => ⟨p, v, rfl, by rw [← hv]; exact DGet.k (e3 _ _ h), q H3 (e2.trans e3)⟩
/-! ### sorted ints, an item of a new list -/
theorem el_sorted {tl : TE} {ns ms : List Int} (h : EvL tl σ H (ns.map V.int)) (hl : ns.length < 64) (hp : ms.Perm ns) (hs : ms.Pairwise (· ≤ ·)) : EvL (tCB (rSorted K) (tCons tl tNil)) σ H (ms.map V.int) := fun H1 e Q q =>
  h H1 e _ fun p H2 hp2 e2 h2 => ⟨p, ns, rfl, sq_of h2, hl, fun ns' a hp' hs' ha => by
    have z : ns' = ms := PySem.W.ksm_same (hp'.trans hp.symm) hs' hs
    rw [z]
    exact q a _ (fresh_back e2 ha) (e2.trans (Ex.new ha)) upd_same⟩
theorem ev_ixN {xs : List V} {i : Int} (h : EvL ta σ H xs) (hb : ∀ H1, Ex H H1 → Ev tb σ H1 (.int i)) (ha : atI xs i = some v) : Ev (tOp (rIxL K) ta tb) σ H v := ev_opL1 h hb fun p H1 hp _ => rv_ixL (sq_of hp) ha
theorem q_asgDL {p : Addr} {i : Nat} {ts : TA} {R : List V → Prop} (h : DvA p ts σ H R) (hd : Dice p H) (hl : ∀ vs, R vs → vs.length ≤ 100000) (k : ∀ l xs H1, R xs → Exd p H H1 → Dice p H1 → H1 l = some (.lst xs) → l ≠ p → tz D (σ.set i (some (.ref l))) H1) : tSeq (tAsg (tLst ts) (gName i)) tz D σ H :=
  h H (Exd.refl p H) hd _ fun xs H1 hx e1 d1 => ⟨sz_of (hl xs hx), fun l hl => k l xs _ hx (e1.trans (Exd.of (Ex.new hl))) (d1.ex (Ex.new hl)) upd_same (d1.ne hl)⟩
/-- xs + [drawn things]: a new list of both -/
theorem cat_go {p : Addr} {ts : TA} {R : List V → Prop} {l : Addr} {i : Nat} {xs : List V} {Q : VK} (h : DvA p ts σ H R) (hd : Dice p H) (hx : H l = some (.lst xs)) (hlp : l ≠ p) (hi : σ[i]? = some (some (.ref l))) (hl : ∀ ys, R ys → xs.length + ys.length ≤ 100000)
    (k : ∀ ys l4 H', R ys → Exd p H H' → Dice p H' → H' l4 = some (.lst (xs ++ ys)) → l4 ≠ p → Q (.ref l4) H') : tOp rCat (tVar i) (tLst ts) σ H Q :=
  ⟨.ref l, hi, h H (Exd.refl p H) hd _ fun ys H3 hy e3 d3 => ⟨sz_of (Nat.le_trans (Nat.le_add_left _ _) (hl ys hy)), fun l2 hl2 => ⟨l, l2, xs, ys, rfl, rfl, Ex.new hl2 _ _ (e3 _ _ hlp hx), upd_same, sz_of (hl ys hy), fun l4 hl4 =>
    k ys l4 _ hy (e3.trans ((Exd.of (Ex.new hl2)).trans (Exd.of (Ex.new hl4)))) ((d3.ex (Ex.new hl2)).ex (Ex.new hl4)) upd_same ((d3.ex (Ex.new hl2)).ne hl4)⟩⟩⟩
/-- a if t else b, as a test -/
def tIfT (t u1 u2 : TT) : TT := fun σ H Q => t σ H fun c H1 => if c = true then u1 σ H1 Q else u2 σ H1 Q
theorem pt_ifExp {X : Cx} {c a b : Expr} {pos : Pos} {tA t1 t2 : TT} (hc : PT X c tA) (ha : PT X a t1) (hb : PT X b t2) : PT X (.IfExp c a b pos) (tIfT tA t1 t2) := by
  refine ⟨fun pins s σ H Q I h => ?_⟩
  refine isTrue_IfExp (thn (hc.run pins s σ H _ I h) fun d s1 ⟨H1, I1, q1⟩ => ?_)
  cases d with
  | true => exact ha.run pins s1 σ H1 Q I1 q1
  | false => exact hb.run pins s1 σ H1 Q I1 q1
theorem et_ifT {u1 u2 : TT} {b c : Bool} (h : EvT t σ H b) (h1 : b = true → EvT u1 σ H c) (h2 : b = false → EvT u2 σ H c) : EvT (tIfT t u1 u2) σ H c := fun H1 e Q q => h H1 e _ fun H2 e2 => by
  cases b with
  | true =>
    rw [if_pos rfl]
    exact h1 rfl H2 (e.trans e2) Q fun H3 e3 => q H3 (e2.trans e3)
  | false =>
    rw [if_neg Bool.false_ne_true]
    exact h2 rfl H2 (e.trans e2) Q fun H3 e3 => q H3 (e2.trans e3)
/-- a, b = a new tuple of two -/
theorem q_asg2U {i j : Nat} {v1 v2 : V} (h : EvU te σ H [v1, v2]) (k : ∀ H1, Ex H H1 → tz D ((σ.set i (some v1)).set j (some v2)) H1) : tSeq (tAsg te (gTup K 2 (gCons (gName i) (gCons (gName j) gNil)))) tz D σ H :=
  h H (Ex.refl H) _ fun p H1 hp e hl => ⟨p, [v1, v2], rfl, st_of hl, rfl, v1, [v2], rfl, v2, [], rfl, rfl, k H1 e⟩
/-! ### tests that hang on the dice, calls with a new tuple -/
def DvT (p : Addr) (t : TT) (σ : L2.St) (H : Hp) : Prop := ∀ H1, Exd p H H1 → Dice p H1 → ∀ Q : Bool → Hp → Prop, (∀ b H2, Exd p H1 H2 → Dice p H2 → Q b H2) → t σ H1 Q
def IntV (v : V) : Prop := ∃ n : Int, v = .int n
theorem dvt_eq {p : Addr} {k : Int} (h : Dv p ta σ H IntV) : DvT p (tTest (tOp rEq ta (tC (.int k)))) σ H := fun H1 e d Q q =>
  h H1 e d _ fun v H2 hv e2 d2 => by
    obtain ⟨n, rfl⟩ := hv
    exact ⟨rfl, _, rfl, q _ H2 e2 d2⟩
theorem dv_if {p : Addr} {R : V → Prop} (h : DvT p t σ H) (h1 : Dv p ta σ H R) (h2 : Dv p tb σ H R) : Dv p (tIf t ta tb) σ H R := fun H1 e d Q q =>
  h H1 e d _ fun b H2 e2 d2 => by
    cases b with
    | true =>
      rw [if_pos rfl]
      exact h1 H2 (e.trans e2) d2 Q fun v H3 r e3 d3 => q v H3 r (e2.trans e3) d3
    | false =>
      rw [if_neg Bool.false_ne_true]
      exact h2 H2 (e.trans e2) d2 Q fun v H3 r e3 d3 => q v H3 r (e2.trans e3) d3
theorem dv_op {p : Addr} {R1 R2' R : V → Prop} (h1 : Dv p ta σ H R1) (h2 : Dv p tb σ H R2') (hr : ∀ x y H1, R1 x → R2' y → ∃ z, RV r x y H1 z ∧ R z) : Dv p (tOp r ta tb) σ H R := fun H1 e d Q q =>
  h1 H1 e d _ fun x H2 hx e2 d2 => h2 H2 (e.trans e2) d2 _ fun y H3 hy e3 d3 => by
    obtain ⟨z, hz, rz⟩ := hr x y H3 hx hy
    exact hz H3 (Ex.refl H3) Q fun H4 e4 => q z H4 rz ((e2.trans e3).trans (Exd.of e4)) (d3.ex e4)
theorem dv_c {p : Addr} {R : V → Prop} (hr : R v) : Dv p (tC v) σ H R := dv_ev (fun H1 _ _ => ev_c) hr
theorem dv_var {p : Addr} {i : Nat} {R : V → Prop} (h : σ[i]? = some (some v)) (hr : R v) : Dv p (tVar i) σ H R := dv_ev (fun H1 _ _ => ev_var h) hr
theorem ev_callU {ok : List V → Hp → V → Prop} {E : XK} {xs : List V} (h1 : Ev ta σ H x) (h2 : EvU tb σ H xs) (ho : ∀ p H1, Ex H H1 → H1 p = some (.tup xs) → ok [x, .ref p] H1 z) : Ev (tCall (Pure ok) [] E (tCons ta (tCons tb tNil))) σ H z := fun H1 e Q q =>
  h1 H1 e _ fun H2 e2 => h2 H2 (e.trans e2) _ fun p H3 hp e3 h3 => ⟨z, ho p H3 ((e.trans e2).trans e3) h3, fun H4 e4 => q H4 ((e2.trans e3).trans e4)⟩
/-- a call that draws, whose last argument is a new list -/
theorem dv_pickL {ok : List V → Hp → Addr → (V → Prop) → Prop} {E : XK} {p : Addr} {R : V → Prop} {xs : List V} {i : Nat} (hs : σ[i]? = some (some (.ref p))) (h : ∀ H1, Exd p H H1 → Dice p H1 → EvL tb σ H1 xs) (ho : ∀ l H1, Exd p H H1 → Dice p H1 → l ≠ p → H1 l = some (.lst xs) → ok [.ref p, .ref l] H1 p R) :
    Dv p (tCall (Draws ok) [] E (tCons (tVar i) (tCons tb tNil))) σ H R := fun H1 e d Q q => ⟨.ref p, hs, h H1 e d H1 (Ex.refl H1) _ fun l H2 hl e2 h2 => ⟨p, R, ho l H2 (e.trans (Exd.of e2)) (d.ex e2) (d.ne hl) h2, d.ex e2, fun v H3 r e3 d3 => q v H3 r ((Exd.of e2).trans e3) d3⟩⟩
theorem q_asgDv {p : Addr} {i : Nat} {R : V → Prop} (h : Dv p te σ H R) (hd : Dice p H) (k : ∀ v H1, R v → Exd p H H1 → Dice p H1 → tz D (σ.set i (some v)) H1) : tSeq (tAsg te (gName i)) tz D σ H := h H (Exd.refl p H) hd _ fun v H1 r e1 d1 => k v H1 r e1 d1
theorem s_retDv {p : Addr} {R : V → Prop} (h : Dv p te σ H R) (hd : Dice p H) (k : ∀ v H1, R v → Exd p H H1 → Dice p H1 → D.rt v H1) : tRet te D σ H := h H (Exd.refl p H) hd _ fun v H1 r e1 d1 => k v H1 r e1 d1
theorem q_par {ts : TA} {i j : Nat} {v1 v2 : V} (h : EvA ts σ H [v1, v2]) (k : ∀ H1, Ex H H1 → tz D ((σ.set i (some v1)).set j (some v2)) H1) : tSeq (tPar i j ts) tz D σ H := h H (Ex.refl H) _ fun H1 e1 => ⟨v1, v2, rfl, k H1 e1⟩
theorem q_parDv {p : Addr} {i j : Nat} {R1 R2' : V → Prop} (h1 : Dv p ta σ H R1) (h2 : Dv p tb σ H R2') (hd : Dice p H) (k : ∀ v1 v2 H1, R1 v1 → R2' v2 → Exd p H H1 → Dice p H1 → tz D ((σ.set i (some v1)).set j (some v2)) H1) : tSeq (tPar i j (tCons ta (tCons tb tNil))) tz D σ H :=
  h1 H (Exd.refl p H) hd _ fun v1 H1 r1 e1 d1 => h2 H1 e1 d1 _ fun v2 H2 r2 e2 d2 => ⟨v1, v2, rfl, k v1 v2 H2 r1 r2 (e1.trans e2) d2⟩
/-! ### tests that are known, whatever the dice did -/
def DvF (p : Addr) (t : TT) (σ : L2.St) (H : Hp) (b : Bool) : Prop := ∀ H1, Exd p H H1 → Dice p H1 → ∀ Q : Bool → Hp → Prop, (∀ H2, Exd p H1 H2 → Dice p H2 → Q b H2) → t σ H1 Q
theorem dvf_et {p : Addr} {b : Bool} (h : ∀ H1, Exd p H H1 → Dice p H1 → EvT t σ H1 b) : DvF p t σ H b := fun H1 e d Q q => h H1 e d H1 (Ex.refl H1) Q fun H2 e2 => q H2 (Exd.of e2) (d.ex e2)
theorem dvf_or {p : Addr} {b : Bool} (h1 : DvF p t σ H false) (h2 : DvF p u σ H b) : DvF p (tOr t u) σ H b := fun H1 e d Q q => h1 H1 e d _ fun H2 e2 d2 => by
  rw [if_neg Bool.false_ne_true]
  exact h2 H2 (e.trans e2) d2 Q fun H3 e3 d3 => q H3 (e2.trans e3) d3
theorem dvf_not {p : Addr} {b : Bool} (h : DvF p t σ H b) : DvF p (tNot t) σ H (!b) := fun H1 e d Q q => h H1 e d _ fun H2 e2 d2 => q H2 e2 d2
theorem dvf_B {p : Addr} {b : Bool} (h : Dv p te σ H (fun v => v = .bl b)) : DvF p (tB te) σ H b := fun H1 e d Q q => h H1 e d _ fun v H2 hv e2 d2 => ⟨b, hv, q H2 e2 d2⟩
theorem q_whenF {p : Addr} (h : DvF p t σ H false) (hd : Dice p H) (k : ∀ H1, Exd p H H1 → Dice p H1 → tz D σ H1) : tSeq (tIfS t tu tNext) tz D σ H := h H (Exd.refl p H) hd _ fun H1 e1 d1 => by
  rw [if_neg Bool.false_ne_true]
  exact k H1 e1 d1
/-! ### tuples, whatever the dice did -/
def DvU (K : PySem.W.Frag) (p : Addr) (te : TE) (σ : L2.St) (H : Hp) (R : List V → Prop) : Prop := ∀ H1, Exd p H H1 → Dice p H1 → ∀ Q : VK, (∀ b xs H2, R xs → b ≠ p → Exd p H1 H2 → Dice p H2 → SqT K H2 b xs → Q (.ref b) H2) → te σ H1 Q
theorem Exd.tt {p a : Addr} {xs : List V} (e : Exd p H H') (n : a ≠ p) (h : SqT K H a xs) : SqT K H' a xs := by
  rcases h with (h | ⟨o, h⟩) | h
  · exact .inl (.inl (e _ _ n h))
  · exact .inl (.inr ⟨o, e _ _ n h⟩)
  · exact .inr h
theorem du_sl {p a : Addr} {i : Nat} {xs : List V} {lo hi : Option Int} {tl th : TO} (hs : σ[i]? = some (some (.ref a))) (hap : a ≠ p) (hT : SqT K H a xs) (hl : ∀ H1, EvO tl σ H1 lo) (hh : ∀ H1, EvO th σ H1 hi) (hc : HT.sIx xs.length 0 lo = 0 ∧ HT.sIx xs.length xs.length hi = xs.length → cutV xs lo hi = xs) :
    DvU K p (tSl (rSlA K) (tVar i) tl th) σ H (fun ys => ys = cutV xs lo hi) := fun H1 e d Q q => ⟨.ref a, hs, hl H1 H1 (Ex.refl H1) _ fun H2 e2 => hh H2 H2 (Ex.refl H2) _ fun H3 e3 => ⟨a, xs, rfl, ex_t (e2.trans e3) (e.tt hap hT),
  fun z => q a xs H3 (hc z).symm hap (Exd.of (e2.trans e3)) (d.ex (e2.trans e3)) (ex_t (e2.trans e3) (e.tt hap hT)),
  fun _ b hb => q b _ _ rfl ((d.ex (e2.trans e3)).ne hb) (Exd.of ((e2.trans e3).trans (Ex.new hb))) (d.ex ((e2.trans e3).trans (Ex.new hb))) (st_of upd_same)⟩⟩
theorem du_one {p : Addr} {R : V → Prop} (h : Dv p te σ H R) : DvU K p (tTup (tCons te tNil)) σ H (fun ys => ∃ v, ys = [v] ∧ R v) := fun H1 e d Q q => h H1 e d _ fun v H2 hv e2 d2 => ⟨by show 1 ≤ sizeLine; decide, fun b hb => q b [v] _ ⟨v, rfl, hv⟩ (d2.ne hb) (e2.trans (Exd.of (Ex.new hb))) (d2.ex (Ex.new hb)) (st_of upd_same)⟩
theorem du_cat {p : Addr} {R1 R2' R : List V → Prop} (h1 : DvU K p ta σ H R1) (h2 : DvU K p tb σ H R2') (hr : ∀ xs ys, R1 xs → R2' ys → R (xs ++ ys) ∧ xs.length + ys.length ≤ 100000) : DvU K p (tOp (rCatA K) ta tb) σ H R := fun H1 e d Q q =>
  h1 H1 e d _ fun a xs H2 hx ha e2 d2 h2x => h2 H2 (e.trans e2) d2 _ fun b ys H3 hy hb e3 d3 h3y => by
    obtain ⟨r1, r2⟩ := hr xs ys hx hy
    refine ⟨a, b, xs, ys, rfl, rfl, e3.tt ha h2x, h3y, sz_of r2, fun z => ?_, fun _ z => ?_, fun _ _ c hc => ?_⟩
    · subst z
      exact q b ys H3 r1 hb (e2.trans e3) d3 h3y
    · subst z
      rw [List.append_nil] at r1
      exact q a xs H3 r1 ha (e2.trans e3) d3 (e3.tt ha h2x)
    · exact q c _ _ r1 (d3.ne hc) ((e2.trans e3).trans (Exd.of (Ex.new hc))) (d3.ex (Ex.new hc)) (st_of upd_same)
theorem q_asgU2 {p : Addr} {i : Nat} {R : List V → Prop} (h : DvU K p te σ H R) (hd : Dice p H) (k : ∀ b xs H1, R xs → b ≠ p → Exd p H H1 → Dice p H1 → SqT K H1 b xs → tz D (σ.set i (some (.ref b))) H1) : tSeq (tAsg te (gName i)) tz D σ H := h H (Exd.refl p H) hd _ fun b xs H1 hx hb e1 d1 hT => k b xs H1 hx hb e1 d1 hT
def rTupL (K : PySem.W.Frag) : List V → Hp → VK → Prop := fun xs H Q => ∃ p ys, xs = [.ref p] ∧ SqL K H p ys ∧ ∀ l, H l = none → Q (.ref l) (upd H l (.tup ys))
theorem c_tupL {X : Cx} : CallR X (.type "tuple") (rTupL X.K) := callR_mono call_tuple_of fun vs H Q h => by
  obtain ⟨p, ys, e, hs, k⟩ := h
  exact ⟨p, ys, e, .inl ⟨hs, k⟩⟩
/-- [e for x in range(n)], each e drawn -/
theorem dl_lcR {p : Addr} {n j : Nat} {vs : List Nat} {R : V → Prop} {Q : VK} (hw : ∀ x, wipe ((wipe σ vs).set j (some x)) vs = wipe σ vs) (hn : n ≤ 1000) (he : ∀ i : Nat, i < n → Dv p te ((wipe σ vs).set j (some (.int (0 + (i : Int))))) H R) (hd : Dice p H)
    (k : ∀ l xs H2, (xs.length = n ∧ ∀ v ∈ xs, R v) → l ≠ p → Exd p H H2 → Dice p H2 → H2 l = some (.lst xs) → Q (.ref l) H2) : tLc (iRng1 (tCons (tC (.int n)) tNil)) (gName j) tYes te vs σ H Q :=
  ⟨n, rfl, by omega, by omega, fun Dl hD => by
    have hDp : Dl ≠ p := hd.ne hD
    rw [show ((n : Int).toNat) = n from Int.toNat_natCast n]
    refine lc_range (fun i H' => Exd p H H' ∧ Dice p H' ∧ ∃ acc, H' Dl = some (.lst acc) ∧ acc.length = i ∧ ∀ v ∈ acc, R v) ⟨Exd.of (Ex.new hD), hd.ex (Ex.new hD), [], upd_same, rfl, fun _ h => by cases h⟩ ?_ ?_
    · rintro i H' hi ⟨e', d', acc, hacc, hlen, hR⟩
      refine ⟨hw _, ?_⟩
      unfold tYes
      dsimp only
      rw [if_pos rfl]
      refine he i hi H' e' d' _ fun v H4 hv e4 d4 => ⟨acc, e4 _ _ hDp hacc, sz_lt (by omega), fun a o ha ho => ?_, ?_, acc ++ [v], upd_same, by rw [List.length_append, hlen]; rfl, fun x hx => ?_⟩
      · rw [upd_ne (ne_of_none ho hD)]
        exact e4 _ _ ha (e' _ _ ha ho)
      · obtain ⟨x, y, z, h⟩ := d4
        exact ⟨x, y, z, by rw [upd_ne (Ne.symm hDp)]; exact h⟩
      · rcases List.mem_append.mp hx with z | z
        · exact hR x z
        · rw [List.mem_singleton.mp z]; exact hv
    · rintro H' ⟨e', d', acc, hacc, hlen, hR⟩
      exact k Dl acc H' ⟨hlen, hR⟩ hDp e' d' hacc⟩
theorem du_tupLc {p : Addr} {n j : Nat} {vs : List Nat} {R : V → Prop} (hw : ∀ x, wipe ((wipe σ vs).set j (some x)) vs = wipe σ vs) (hn : n ≤ 1000) (he : ∀ i : Nat, i < n → Dv p te ((wipe σ vs).set j (some (.int (0 + (i : Int))))) H R) :
    DvU K p (tCB (rTupL K) (tCons (tLc (iRng1 (tCons (tC (.int n)) tNil)) (gName j) tYes te vs) tNil)) σ H (fun ys => ys.length = n ∧ ∀ v ∈ ys, R v) := fun H1 e d Q q =>
  dl_lcR (Q := fun x H2 => rTupL K [x] H2 Q) hw hn (fun i hi H2 e2 => he i hi H2 (e.trans e2)) d fun l xs H2 hx hl e2 d2 h2 => ⟨l, xs, rfl, sq_of h2, fun b hb => q b xs _ hx (d2.ne hb) (e2.trans (Exd.of (Ex.new hb))) (d2.ex (Ex.new hb)) (st_of upd_same)⟩
theorem q_parU {p : Addr} {i j : Nat} {R1 : V → Prop} {R2' : List V → Prop} (h1 : Dv p ta σ H R1) (h2 : DvU K p tb σ H R2') (hd : Dice p H) (k : ∀ v1 b xs H1, R1 v1 → R2' xs → b ≠ p → Exd p H H1 → Dice p H1 → SqT K H1 b xs → tz D ((σ.set i (some v1)).set j (some (.ref b))) H1) : tSeq (tPar i j (tCons ta (tCons tb tNil))) tz D σ H :=
  h1 H (Exd.refl p H) hd _ fun v1 H1 r1 e1 d1 => h2 H1 e1 d1 _ fun b xs H2 hx hb e2 d2 hT => ⟨v1, .ref b, rfl, k v1 b xs H2 r1 hx hb (e1.trans e2) d2 hT⟩
theorem s_retCallDv {p : Addr} {ok : List V → Hp → V → Prop} {E : XK} {R : V → Prop} {i j : Nat} {x1 x2 : V} (h1 : σ[i]? = some (some x1)) (h2 : σ[j]? = some (some x2)) (h3 : Dv p te σ H R) (hd : Dice p H) (k : ∀ v H1, R v → Exd p H H1 → Dice p H1 → ok [x1, x2, v] H1 z) (q : ∀ H1, Exd p H H1 → Dice p H1 → D.rt z H1) :
    tRet (tCall (Pure ok) [] E (tCons (tVar i) (tCons (tVar j) (tCons te tNil)))) D σ H := ⟨x1, h1, x2, h2, h3 H (Exd.refl p H) hd _ fun v H1 r e1 d1 => ⟨z, k v H1 r e1 d1, fun H2 e2 => q H2 (e1.trans (Exd.of e2)) (d1.ex e2)⟩⟩
theorem s_whenF {p : Addr} (h : DvF p t σ H false) (hd : Dice p H) (k : ∀ H1, Exd p H H1 → Dice p H1 → D.nx σ H1) : tIfS t tu tNext D σ H := h H (Exd.refl p H) hd _ fun H1 e1 d1 => by
  rw [if_neg Bool.false_ne_true]
  exact k H1 e1 d1
/-- what the dice did is nothing to a heap that has not got them -/
theorem Exd.out {p : Addr} {H0 : Hp} (e : Exd p H H') (e0 : Ex H0 H) (h : H0 p = Option.none) : Ex H0 H' := fun a o ho => e a o (fun z => by rw [z, h] at ho; cases ho) (e0 a o ho)
theorem dpa_ints : ∀ ns : List Int, DpAll K H (ns.map V.int) (ns.map PyData.int)
  | [] => .nil
  | n :: ns => .cons (.int n) (dpa_ints ns)
theorem evd_ints {ns : List Int} (h : EvL te σ H (ns.map V.int)) : EvD K te σ H (.list (ns.map PyData.int)) := fun H1 e Q q => h H1 e Q fun p H2 _ e2 h2 => q _ H2 e2 (.lst (sq_of h2) (dpa_ints ns))
end
end Vr
set_option linter.all false
set_option maxRecDepth 100000
namespace Pm
/-! ### 999999937 is a prime number -/
def chk : Nat → Nat → Bool
  | 0, lo => 999999937 % lo != 0
  | k + 1, lo => chk k lo && chk k (lo + 2 ^ k)
theorem chk_ok : ∀ {k lo : Nat}, chk k lo = true → ∀ d, lo ≤ d → d < lo + 2 ^ k → 999999937 % d ≠ 0
  | 0, lo, h, d, h1, h2 => by
    have e : d = lo := by simp at h2; omega
    subst e
    simpa [chk] using h
  | k + 1, lo, h, d, h1, h2 => by
    have h := Bool.and_eq_true_iff.mp (show (chk k lo && chk k (lo + 2 ^ k)) = true from h)
    by_cases hd : d < lo + 2 ^ k
    · exact chk_ok h.1 d h1 hd
    · exact chk_ok h.2 d (by omega) (by rw [Nat.pow_succ] at h2; omega)
theorem chk_all : chk 15 2 = true := by decide +kernel
abbrev p : Nat := 999999937
theorem dvd_p {d : Nat} (h : d ∣ p) : d = 1 ∨ d = p := by
  obtain ⟨e, he⟩ := h
  have no : ∀ x, x ∣ p → 2 ≤ x → x < 32770 → False := fun x hx h2 h3 => chk_ok chk_all x h2 (by omega) (Nat.mod_eq_zero_of_dvd hx)
  by_cases h1 : d < 2
  · have : d ≠ 0 := by rintro rfl; simp at he
    left; omega
  · by_cases h2 : d < 32770
    · exact (no d ⟨e, he⟩ (by omega) h2).elim
    · by_cases h3 : e < 2
      · have : e ≠ 0 := by rintro rfl; simp at he
        have e1 : e = 1 := by omega
        subst e1
        right; omega
      · by_cases h4 : e < 32770
        · exact (no e ⟨d, by rw [he, Nat.mul_comm]⟩ (by omega) h4).elim
        · have h5 : 32770 * 32770 ≤ d * e := Nat.mul_le_mul (by omega) (by omega)
          have h6 : 999999937 = d * e := he
          omega
theorem euclid {a b : Nat} (h : p ∣ a * b) : p ∣ a ∨ p ∣ b := by
  rcases dvd_p (Nat.gcd_dvd_left p a) with e | e
  · exact .inr (Nat.Coprime.dvd_of_dvd_mul_left (show Nat.Coprime p a from e) h)
  · exact .inl (e ▸ Nat.gcd_dvd_right p a)
theorem dvd_small {a : Nat} (h : p ∣ a) (h1 : a < p) : a = 0 := Nat.eq_zero_of_dvd_of_lt h h1
theorem cancel {a x y : Nat} (ha : ¬ p ∣ a) (h : a * x % p = a * y % p) : x % p = y % p := by
  have go : ∀ {x y : Nat}, x ≤ y → a * x % p = a * y % p → x % p = y % p := fun {x y} hxy h => by
    have hd : p ∣ a * (y - x) := by
      rw [Nat.mul_sub]
      exact Nat.dvd_of_mod_eq_zero (Nat.sub_mod_eq_zero_of_mod_eq h.symm)
    rcases euclid hd with z | z
    · exact absurd z ha
    · obtain ⟨k, hk⟩ := z
      have e : y = x + p * k := by omega
      rw [e, Nat.add_mul_mod_self_left]
  rcases Nat.le_total x y with q | q
  · exact go q h
  · exact (go q h.symm).symm
/-! ### products -/
def prod (l : List Nat) : Nat := l.foldr (· * ·) 1
theorem prod_perm {l m : List Nat} (h : l.Perm m) : prod l = prod m := by
  induction h with
  | nil => rfl
  | cons x _ ih => exact congrArg (x * ·) ih
  | swap x y l => show y * (x * prod l) = x * (y * prod l); rw [Nat.mul_left_comm]
  | trans _ _ h1 h2 => exact h1.trans h2
theorem prod_map (a : Nat) : ∀ l : List Nat, prod (l.map fun i => a * i % p) % p = a ^ l.length * prod l % p
  | [] => by simp [prod]
  | x :: l => by
    show (a * x % p) * prod (l.map fun i => a * i % p) % p = a ^ (l.length + 1) * (x * prod l) % p
    rw [Nat.mul_mod, prod_map a l, Nat.mod_mod, ← Nat.mul_mod]
    congr 1
    rw [Nat.pow_succ]
    simp only [Nat.mul_assoc, Nat.mul_left_comm, Nat.mul_comm]
theorem prod_no : ∀ l : List Nat, (∀ x ∈ l, ¬ p ∣ x) → ¬ p ∣ prod l
  | [], _ => by decide
  | x :: l, h => fun hd => by
    rcases euclid (show p ∣ x * prod l from hd) with z | z
    · exact h x (by simp) z
    · exact prod_no l (fun y hy => h y (by simp [hy])) z
/-! ### Fermat -/
/-- a map of the numbers 1 .. p - 1 into themselves that parts them is onto -/
theorem onto {l : List Nat} (hn : l.Nodup) (hs : ∀ x ∈ l, 1 ≤ x ∧ x < p) (hl : l.length = p - 1) {x : Nat} (h1 : 1 ≤ x) (h2 : x < p) : x ∈ l := by
  by_cases h : x ∈ l
  · exact h
  · have h3 : (x :: l).Nodup := List.nodup_cons.mpr ⟨h, hn⟩
    have h4 : (x :: l) ⊆ List.range' 1 (p - 1) := fun y hy => by
      rw [List.mem_range'_1]
      rcases List.mem_cons.mp hy with z | z
      · subst z; exact ⟨h1, by simp only [p] at *; omega⟩
      · have := hs y z; exact ⟨this.1, by simp only [p] at *; omega⟩
    have h5 := h3.length_le_of_subset h4
    rw [List.length_cons, List.length_range', hl] at h5
    omega
theorem nodup_map {f : Nat → Nat} {l : List Nat} (hn : l.Nodup) (hf : ∀ x ∈ l, ∀ y ∈ l, f x = f y → x = y) : (l.map f).Nodup := by
  rw [List.Nodup, List.pairwise_map]
  exact hn.imp_of_mem fun {a b} ha hb hab e => hab (hf a ha b hb e)
theorem fermat {a : Nat} (ha : ¬ p ∣ a) : a ^ (p - 1) % p = 1 := by
  generalize hL : List.range' 1 (p - 1) = L
  have mem : ∀ x, x ∈ L ↔ 1 ≤ x ∧ x < p := fun x => by
    rw [← hL, List.mem_range'_1]
    simp only [p]
  have nd : L.Nodup := by rw [← hL]; exact List.nodup_range' 1
  have len : L.length = p - 1 := by rw [← hL, List.length_range']
  have nm : (L.map fun i => a * i % p).Nodup := nodup_map nd fun x hx y hy e => by
    have := cancel ha e
    rwa [Nat.mod_eq_of_lt ((mem x).mp hx).2, Nat.mod_eq_of_lt ((mem y).mp hy).2] at this
  have sub : ∀ x ∈ L.map fun i => a * i % p, 1 ≤ x ∧ x < p := fun x hx => by
    obtain ⟨i, hi, rfl⟩ := List.mem_map.mp hx
    refine ⟨?_, Nat.mod_lt _ (by decide)⟩
    by_cases h0 : a * i % p = 0
    · rcases euclid (Nat.dvd_of_mod_eq_zero h0) with z | z
      · exact absurd z ha
      · have := (mem i).mp hi
        have := dvd_small z this.2
        omega
    · omega
  have hp : (L.map fun i => a * i % p).Perm L := (List.perm_ext_iff_of_nodup nm nd).mpr fun x => ⟨fun h => (mem x).mpr (sub x h), fun h => onto nm sub (by rw [List.length_map, len]) ((mem x).mp h).1 ((mem x).mp h).2⟩
  have h1 := prod_map a L
  rw [prod_perm hp, len] at h1
  have h2 : prod L * (a ^ (p - 1)) % p = prod L * 1 % p := by rw [Nat.mul_comm, Nat.mul_one, ← h1]
  have h3 := cancel (prod_no L fun x hx z => by
    have := (mem x).mp hx
    have := dvd_small z this.2
    omega) h2
  rw [h3]
  rfl
/-! ### the fifth power, there and back -/
def stirN (x : Nat) : Nat := (x ^ 5 + 271829) % p
theorem pow_root {x : Nat} (h : x < p) : x ^ (5 * 799999949) % p = x := by
  by_cases h0 : x = 0
  · subst h0
    rw [Nat.zero_pow (by decide)]
    rfl
  · have ha : ¬ p ∣ x := fun z => h0 (dvd_small z h)
    have e : 5 * 799999949 = (p - 1) * 4 + 1 := by decide
    rw [e, Nat.pow_succ, Nat.pow_mul, Nat.mul_mod, Nat.pow_mod, fermat ha, Nat.one_pow, show 1 % p = 1 from rfl, Nat.one_mul, Nat.mod_mod, Nat.mod_eq_of_lt h]
def unstirN (y : Nat) : Nat := ((y + (p - 271829)) % p) ^ 799999949 % p
theorem unstir_stir {x : Nat} (h : x < p) : unstirN (stirN x) = x := by
  unfold unstirN stirN
  have e : ((x ^ 5 + 271829) % p + (p - 271829)) % p = x ^ 5 % p := by
    rw [Nat.mod_add_mod, Nat.add_assoc, show 271829 + (p - 271829) = p from by decide, Nat.add_mod_right]
  rw [e, ← Nat.pow_mod, ← Nat.pow_mul, pow_root h]
theorem stir_unstir {y : Nat} (h : y < p) : stirN (unstirN y) = y := by
  unfold unstirN stirN
  have hz : (y + (p - 271829)) % p < p := Nat.mod_lt _ (by decide)
  have e : (((y + (p - 271829)) % p) ^ 799999949 % p) ^ 5 % p = (y + (p - 271829)) % p := by
    rw [← Nat.pow_mod, ← Nat.pow_mul, Nat.mul_comm, pow_root hz]
  rw [Nat.add_mod, e, ← Nat.add_mod, Nat.add_assoc, show p - 271829 + 271829 = p from by decide, Nat.add_mod_right, Nat.mod_eq_of_lt h]
theorem stir_inj {x y : Nat} (hx : x < p) (hy : y < p) (h : stirN x = stirN y) : x = y := by
  rw [← unstir_stir hx, ← unstir_stir hy, h]
end Pm
set_option Elab.async false
set_option linter.all false
set_option maxRecDepth 100000
set_option maxHeartbeats 4000000
namespace Sl
open PySem PySem.Spec PyProof.Rows L2
section
variable {P : Program} {w : World} {A : Around} {E : Value → Shared → Prop} {s : Shared}
/-- the object that set() begins with -/
abbrev blank (w : World) : Obj := { cls := .type "set", dict := none, data := .set #[] 0 (.fresh 0 0 (!w.params.followText "set-order")) }
/-- the new set is filled from a list of ints -/
theorem fill {l : Addr} {items : Array Value} {ns : List Int} (calm : A.handled = none) (isL : s.heap.IsList l items) (whole : IntsAre items.toList ns) (few : ns.length + 1 < scanBound) {R : Value → Shared → Prop}
    (k : ∀ (h2 : Heap) (tk c : Nat), SetR w h2 s.heap.objs.size (fun j => decide (j ∈ ns)) c → c ≤ ns.length → (∀ b o, s.heap.get? b = some o → h2.get? b = some o) → R .none { s with heap := h2, toks := tk }) :
    codeAny (model P w) A (.call (.builtin "set.__init__") ⟨[.ref s.heap.objs.size, .ref l], []⟩) (wants R E) { s with heap := s.heap.push (blank w) } := by
  have sz : items.size = ns.length := by have z := IntsAre.length whole; simpa only [Array.length_toList] using z
  have at0 : (s.heap.push (blank w)).get? s.heap.objs.size = some (blank w) := Heap.get?_push_size _ rfl
  have ty : Shared.TypeIs { s with heap := s.heap.push (blank w) } (.ref s.heap.objs.size) "set" := ⟨_, at0, rfl⟩
  have isL1 : (s.heap.push (blank w)).IsList l items := isL.push _
  have hl : l < s.heap.objs.size := by obtain ⟨o, e, _⟩ := isL; exact Heap.lt_size e
  refine codeAny_call_builtin F.called_set.init.plain F.entry_set_init (check_set_init_1 ty ?_)
  obtain ⟨ol, eol, cl, nl, dl⟩ := isL1
  obtain ⟨c0, d0, x0, s0⟩ := ol
  simp only at cl dl; subst cl dl
  have f1 := F.sub_list_set; have f2 := F.sub_list_frozenset
  have f3 : (Value.type "list" == Value.type "dict") = false := by decide
  have again : (s.heap.push (blank w)).IsList l items := ⟨_, eol, rfl, nl, rfl⟩
  unfold Builtin.«set.__init__» noKeywords Builtin.Frozenset.updateFrom
  generalize hI : pyIter = I0
  wp_walk
  subst hI
  refine wpAny_pyIter_list again (wpAny_bind (wpAny_runValue ?_))
  have c3 : A.in1.in1.in1.handled = none := by simp [calm]
  have s1 : (s.heap.push (blank w)).objs.size = s.heap.objs.size + 1 := Heap.size_push ..
  have nI : l ≠ (s.heap.push (blank w)).objs.size := fun z => absurd (z.trans s1) (Nat.ne_of_lt (Nat.lt_succ_of_lt hl))
  have nS : s.heap.objs.size ∉ [(s.heap.push (blank w)).objs.size, l] := by
    intro z; rcases List.mem_cons.mp z with z | z
    · exact absurd (z.trans s1) (Nat.ne_of_lt (Nat.lt_succ_self _))
    · exact absurd (List.mem_singleton.mp z) (Nat.ne_of_gt hl)
  have each : ∀ (i : Nat) (v : Value), items[i]? = some v → ∃ k t, ns[i]? = some k ∧ v = .int k t := fun i v hv => by
    have hi : i < ns.length := by have := (Array.getElem?_eq_some_iff.mp hv).1; omega
    obtain ⟨t, e⟩ := IntsAre.int_at whole i v (by rw [Array.getElem?_toList]; exact hv)
    exact ⟨ns[i], t, List.getElem?_eq_getElem hi, by rw [e, List.getD_eq_getElem?_getD, List.getElem?_eq_getElem hi]; rfl⟩
  have W := (Walks.list (prog := P) (w := w) (A := A.in1.in1) c3 (s.heap.push (blank w)).objs.size l nI items).toS
  refine set_update_ints W s.heap.objs.size nS ns sz few each (items.size - 0) 0 _ rfl (Nat.zero_le _) ⟨⟨_, Heap.get?_push_size _ rfl, rfl, rfl⟩, again.push _⟩ ⟨0, Nat.le_refl 0, ?_⟩ ?_
  · exact setR_new_at (Heap.get?_push_of_some _ at0)
  · rintro ⟨h2, g2, d2, t2, o2⟩ c mv hc hs
    have e1 : g2 = s.gens := mv.gens
    have e2 : d2 = s.drawn := mv.drawn
    have e3 : o2 = s.os := mv.os
    subst e1 e2 e3
    refine wpAny_pure (wpAny_pure ?_)
    rw [sz] at hc
    refine k h2 t2 c hs hc fun b o e => ?_
    have hb : b < s.heap.objs.size := Heap.lt_size e
    refine mv.heap b o (fun z => ?_) (Heap.get?_push_of_some _ (Heap.get?_push_of_some _ e))
    rcases List.mem_cons.mp z with z | z
    · exact absurd z (Nat.ne_of_lt hb)
    · exact absurd ((List.mem_singleton.mp z).trans s1) (Nat.ne_of_lt (Nat.lt_succ_of_lt hb))
theorem made {l : Addr} {items : Array Value} {ns : List Int} {Q : Value → Shared → Prop} (calm : A.handled = none) (isL : s.heap.IsList l items) (whole : IntsAre items.toList ns) (few : ns.length + 1 < scanBound)
    (k : ∀ (h2 : Heap) (tk c : Nat), SetR w h2 s.heap.objs.size (fun j => decide (j ∈ ns)) c → c ≤ ns.length → (∀ b o, s.heap.get? b = some o → h2.get? b = some o) → Q (.ref s.heap.objs.size) { s with heap := h2, toks := tk }) :
    wpAny (model P w) A (call (.type "set") [.ref l]) Q E s := by
  obtain ⟨c, tl, m0⟩ := F.called_set.mro
  have m1 := F.called_set.made; have m2 := F.called_set.sub
  refine wpAny_call (codeAny_of_tree (show wpAny _ _ (callAny (.type "set") _) _ _ _ from wpAny_pure ⟨Code.quiet_builtin _ (by decide +kernel), codeAny_builtin F.entry_type_call ?_⟩))
  rw [Around.under_plain (weight_type_call_type "set" [.ref l] []) rfl]
  have m3 := F.called_set.notType; have m4 := F.called_set.canCreate; have m5 := F.typeCall_set_1 (.ref l)
  repeat (any_goals (first | assumption | wp_step))
  refine codeAny_mono (code_set_led1 (Q₁ := fun v s1 => v = .ref s.heap.objs.size ∧ s1 = { s with heap := s.heap.push (blank w) }) (.ref l) (E := E) ⟨rfl, rfl⟩) fun r s1 hr => ?_
  match r, hr with
  | .error e, hr => exact hr
  | .ok .next, hr => exact hr.elim
  | .ok .brk, hr => exact hr.elim
  | .ok .cont, hr => exact hr.elim
  | .ok (.ret v), hr =>
    obtain ⟨rfl, rfl⟩ := hr
    have ty : Shared.TypeIs { s with heap := s.heap.push (blank w) } (.ref s.heap.objs.size) "set" := ⟨_, Heap.get?_push_size _ rfl, rfl⟩
    have i1 := F.called_set.init.lookup; have i2 := F.called_set.init.bind (.ref s.heap.objs.size)
    repeat (any_goals (first | assumption | wp_step))
    refine codeAny_mono (fill (R := fun v s2 => v = .none ∧ ∃ h2 tk c, s2 = { s with heap := h2, toks := tk } ∧ SetR w h2 s.heap.objs.size (fun j => decide (j ∈ ns)) c ∧ c ≤ ns.length ∧ ∀ b o, s.heap.get? b = some o → h2.get? b = some o) (E := E) (A := A.in1) (by simp [calm]) isL whole few fun h2 tk c x y z => ⟨rfl, h2, tk, c, rfl, x, y, z⟩) fun r s2 hr => ?_
    match r, hr with
    | .error e, hr => exact hr
    | .ok .next, hr => exact hr.elim
    | .ok .brk, hr => exact hr.elim
    | .ok .cont, hr => exact hr.elim
    | .ok (.ret v), hr =>
      obtain ⟨rfl, h2, tk, c, rfl, x, y, z⟩ := hr
      repeat (any_goals (first | assumption | wp_step))
      exact k _ _ _ x y z
end
/-- set(xs) of a list of ints, as a rule -/
def rSetL (K : PySem.W.Frag) (w : World) : List V → Hp → VK → Prop := fun xs H Q => ∃ (l : Addr) (ns : List Int), xs = [.ref l] ∧ SqL K H l (ns.map V.int) ∧ ns.length ≤ 1000 ∧ ∀ a c, H a = none → (∀ ms : List Int, (∀ k ∈ ns, k ∈ ms) → c ≤ ms.length) → Q (.ref a) (upd H a (SetO w a (fun j => decide (j ∈ ns)) c))
theorem ints_of : ∀ {ns : List Int} {us : List Value}, Vals (ns.map V.int) us → IntsAre us ns
  | [], _, .nil => .nil
  | n :: ns, _, .cons r t => by
    obtain ⟨k, rfl⟩ := r
    exact .cons n k (ints_of t)
theorem c_setL {X : Cx} (hc : X.calm = true) : CallR X (.type "set") (rSetL X.K X.w) := by
  intro pins s σ H xs us Q I r h
  obtain ⟨l, ns, rfl, hq, hl, q⟩ := h
  rw [Vals.ref1 r]
  obtain ⟨its, rv, pl, hz⟩ := I.list hq
  refine made (I.ok.hd hc) pl.isList (by simpa using ints_of rv) (by unfold scanBound; omega) fun h2 tk c hs hc2 hk => ?_
  have hn : H s.heap.objs.size = none := I.hok.fresh (Nat.le_refl _)
  have J : Inv X pins σ (upd H s.heap.objs.size (SetO X.w s.heap.objs.size (fun j => decide (j ∈ ns)) c)) { s with heap := h2, toks := tk } :=
    I.call (ch := []) (Un.laid hk (Nat.le_refl _) hn) (I.hok.laid hk (Nat.le_refl _) (setO_new hs)) I.bare (fun _ z => nomatch z)
  refine ⟨.ref s.heap.objs.size, _, J, rfl, q _ _ hn fun ms hm => ?_⟩
  obtain ⟨o, es, ep, t, _, _, _, _, nd, mem, _, _, sz, _⟩ := hs
  have z := nd.length_le_of_subset (l₂ := ms) fun k hk' => hm k (by simpa using (mem k).mpr hk')
  rw [List.length_map, Array.length_toList] at z
  omega
theorem sorted_one : ∀ {as bs : List Int}, as.Pairwise (· < ·) → bs.Pairwise (· < ·) → (∀ k, k ∈ as ↔ k ∈ bs) → as = bs
  | [], [], _, _, _ => rfl
  | [], b :: bs, _, _, h => nomatch (h b).mpr (List.mem_cons_self ..)
  | a :: as, [], _, _, h => nomatch (h a).mp (List.mem_cons_self ..)
  | a :: as, b :: bs, ha, hb, h => by
    rw [List.pairwise_cons] at ha hb
    have e : a = b := by
      rcases List.mem_cons.mp ((h a).mp (List.mem_cons_self ..)) with x | x
      · exact x
      · rcases List.mem_cons.mp ((h b).mpr (List.mem_cons_self ..)) with y | y
        · exact y.symm
        · have := hb.1 _ x; have := ha.1 _ y; omega
    subst e
    congr 1
    refine sorted_one ha.2 hb.2 fun k => ⟨fun x => ?_, fun x => ?_⟩
    · rcases List.mem_cons.mp ((h k).mp (List.mem_cons_of_mem _ x)) with y | y
      · have := ha.1 _ x; omega
      · exact y
    · rcases List.mem_cons.mp ((h k).mpr (List.mem_cons_of_mem _ x)) with y | y
      · have := hb.1 _ x; omega
      · exact y
end Sl
set_option Elab.async false
set_option linter.all false
set_option maxRecDepth 100000
set_option maxHeartbeats 4000000
set_option exponentiation.threshold 500
namespace Kz
open PySem PySem.Spec PyProof.Rows L2 Evl Vr
def top (i : Nat) : Stmt := PySem.Challenge.pw_settledplay_k04_whole_stirred_lucks_and.main.body.getD i (.Pass ⟨0, 0, 0, 0⟩)
abbrev s_InvalidNumber___init__ : Stmt := inClass (top 3) 0
theorem sc_InvalidNumber___init__ : FnScope ["self", "given"] ["self", "given"] (defScope s_InvalidNumber___init__) := ⟨rfl, rfl, rfl, by decide +kernel, rfl, by decide +kernel, by decide +kernel⟩
abbrev s_is_integer : Stmt := top 5
theorem sc_is_integer : FnScope ["value"] ["value"] (defScope s_is_integer) := ⟨rfl, rfl, rfl, by decide +kernel, rfl, by decide +kernel, by decide +kernel⟩
abbrev s_is_within : Stmt := top 6
theorem sc_is_within : FnScope ["value", "low", "high"] ["value", "low", "high"] (defScope s_is_within) := ⟨rfl, rfl, rfl, by decide +kernel, rfl, by decide +kernel, by decide +kernel⟩
abbrev s_is_whole : Stmt := top 7
theorem sc_is_whole : FnScope ["value"] ["value"] (defScope s_is_whole) := ⟨rfl, rfl, rfl, by decide +kernel, rfl, by decide +kernel, by decide +kernel⟩
abbrev s_need_whole : Stmt := top 8
theorem sc_need_whole : FnScope ["value"] ["value"] (defScope s_need_whole) := ⟨rfl, rfl, rfl, by decide +kernel, rfl, by decide +kernel, by decide +kernel⟩
abbrev s_need_within : Stmt := top 9
theorem sc_need_within : FnScope ["value", "low", "high"] ["value", "low", "high"] (defScope s_need_within) := ⟨rfl, rfl, rfl, by decide +kernel, rfl, by decide +kernel, by decide +kernel⟩
abbrev s_is_luck : Stmt := top 15
theorem sc_is_luck : FnScope ["value"] ["value"] (defScope s_is_luck) := ⟨rfl, rfl, rfl, by decide +kernel, rfl, by decide +kernel, by decide +kernel⟩
abbrev s_need_luck : Stmt := top 16
theorem sc_need_luck : FnScope ["value"] ["value"] (defScope s_need_luck) := ⟨rfl, rfl, rfl, by decide +kernel, rfl, by decide +kernel, by decide +kernel⟩
abbrev s_power : Stmt := top 17
theorem sc_power : FnScope ["base", "exponent", "result", "square"] ["base", "exponent"] (defScope s_power) := ⟨rfl, rfl, rfl, by decide +kernel, rfl, by decide +kernel, by decide +kernel⟩
abbrev s_stirred : Stmt := top 18
theorem sc_stirred : FnScope ["luck"] ["luck"] (defScope s_stirred) := ⟨rfl, rfl, rfl, by decide +kernel, rfl, by decide +kernel, by decide +kernel⟩
abbrev s_stir : Stmt := top 19
theorem sc_stir : FnScope ["luck"] ["luck"] (defScope s_stir) := ⟨rfl, rfl, rfl, by decide +kernel, rfl, by decide +kernel, by decide +kernel⟩
abbrev s_unstirred : Stmt := top 20
theorem sc_unstirred : FnScope ["luck"] ["luck"] (defScope s_unstirred) := ⟨rfl, rfl, rfl, by decide +kernel, rfl, by decide +kernel, by decide +kernel⟩
abbrev s_unstir : Stmt := top 21
theorem sc_unstir : FnScope ["luck"] ["luck"] (defScope s_unstir) := ⟨rfl, rfl, rfl, by decide +kernel, rfl, by decide +kernel, by decide +kernel⟩
abbrev s_spot_number : Stmt := top 22
theorem sc_spot_number : FnScope ["luck", "entry", "thing", "turn"] ["luck", "entry", "thing", "turn"] (defScope s_spot_number) := ⟨rfl, rfl, rfl, by decide +kernel, rfl, by decide +kernel, by decide +kernel⟩
abbrev s_spot : Stmt := top 23
theorem sc_spot : FnScope ["luck", "entry", "thing", "turn"] ["luck", "entry", "thing", "turn"] (defScope s_spot) := ⟨rfl, rfl, rfl, by decide +kernel, rfl, by decide +kernel, by decide +kernel⟩
abbrev s_run_number : Stmt := top 24
theorem sc_run_number : FnScope ["luck", "entry", "thing", "number"] ["luck", "entry", "thing"] (defScope s_run_number) := ⟨rfl, rfl, rfl, by decide +kernel, rfl, by decide +kernel, by decide +kernel⟩
abbrev s_turn_of : Stmt := top 25
theorem sc_turn_of : FnScope ["luck", "entry", "thing", "number"] ["luck", "entry", "thing", "number"] (defScope s_turn_of) := ⟨rfl, rfl, rfl, by decide +kernel, rfl, by decide +kernel, by decide +kernel⟩
abbrev s_drawn : Stmt := top 26
theorem sc_drawn : FnScope ["luck", "entry", "thing", "turn", "sides"] ["luck", "entry", "thing", "turn", "sides"] (defScope s_drawn) := ⟨rfl, rfl, rfl, by decide +kernel, rfl, by decide +kernel, by decide +kernel⟩
abbrev s_draw : Stmt := top 27
theorem sc_draw : FnScope ["luck", "entry", "thing", "turn", "sides"] ["luck", "entry", "thing", "turn", "sides"] (defScope s_draw) := ⟨rfl, rfl, rfl, by decide +kernel, rfl, by decide +kernel, by decide +kernel⟩
abbrev s_law_dice : Stmt := top 29
theorem sc_law_dice : FnScope ["script", "spot_v", "cell", "left"] ["script", "spot_v"] (defScope s_law_dice) := ⟨rfl, rfl, rfl, by decide +kernel, rfl, by decide +kernel, by decide +kernel⟩
abbrev s_law_roll : Stmt := top 30
theorem sc_law_roll : FnScope ["dice", "total", "found", "one", "two"] ["dice", "total"] (defScope s_law_roll) := ⟨rfl, rfl, rfl, by decide +kernel, rfl, by decide +kernel, by decide +kernel⟩
abbrev s_law_pick : Stmt := top 31
theorem sc_law_pick : FnScope ["dice", "items"] ["dice", "items"] (defScope s_law_pick) := ⟨rfl, rfl, rfl, by decide +kernel, rfl, by decide +kernel, by decide +kernel⟩
abbrev s_law_lk_stirred : Stmt := top 32
theorem sc_law_lk_stirred : FnScope ["luck"] ["luck"] (defScope s_law_lk_stirred) := ⟨rfl, rfl, rfl, by decide +kernel, rfl, by decide +kernel, by decide +kernel⟩
abbrev s_law_luck_drawn : Stmt := top 33
theorem sc_law_luck_drawn : FnScope ["dice"] ["dice"] (defScope s_law_luck_drawn) := ⟨rfl, rfl, rfl, by decide +kernel, rfl, by decide +kernel, by decide +kernel⟩
abbrev s_law_index_drawn : Stmt := top 34
theorem sc_law_index_drawn : FnScope ["dice", "way"] ["dice"] (defScope s_law_index_drawn) := ⟨rfl, rfl, rfl, by decide +kernel, rfl, by decide +kernel, by decide +kernel⟩
abbrev s_law_spot : Stmt := top 35
theorem sc_law_spot : FnScope ["luck", "told", "found", "number"] ["luck", "told"] (defScope s_law_spot) := ⟨rfl, rfl, rfl, by decide +kernel, rfl, by decide +kernel, by decide +kernel⟩
abbrev s_law_stirred_right : Stmt := top 36
theorem sc_law_stirred_right : FnScope ["luck", "there", "back"] ["luck"] (defScope s_law_stirred_right) := ⟨rfl, rfl, rfl, by decide +kernel, rfl, by decide +kernel, by decide +kernel⟩
abbrev s_law_turn_right : Stmt := top 37
theorem sc_law_turn_right : FnScope ["luck", "told", "goal", "turn"] ["luck", "told", "goal"] (defScope s_law_turn_right) := ⟨rfl, rfl, rfl, by decide +kernel, rfl, by decide +kernel, by decide +kernel⟩
abbrev s_law_draws_right : Stmt := top 38
theorem sc_law_draws_right : FnScope ["dice", "luck", "told", "less", "more", "sides"] ["dice", "luck", "told"] (defScope s_law_draws_right) := ⟨rfl, rfl, rfl, by decide +kernel, rfl, by decide +kernel, by decide +kernel⟩
abbrev s_law_right : Stmt := top 39
theorem sc_law_right : FnScope ["dice", "luck", "told", "number", "at", "more", "near", "other", "place"] ["dice"] (defScope s_law_right) := ⟨rfl, rfl, rfl, by decide +kernel, rfl, by decide +kernel, by decide +kernel⟩
abbrev s_law : Stmt := top 40
theorem sc_law : FnScope ["script", "spot_v", "dice", "rolls", "turn"] ["script"] (defScope s_law) := ⟨rfl, rfl, rfl, by decide +kernel, rfl, by decide +kernel, by decide +kernel⟩
structure Txt (K : PySem.W.Frag) (mg : Str → Option Value) (w : World) where
  a_is_integer : Addr
  fd_is_integer : FuncData
  F_is_integer : Fun K "is_integer" "is_integer" s_is_integer a_is_integer fd_is_integer
  g_is_integer : mg "is_integer" = some (.ref a_is_integer)
  b_is_integer : Binds K fd_is_integer ["value"] []
  a_is_within : Addr
  fd_is_within : FuncData
  F_is_within : Fun K "is_within" "is_within" s_is_within a_is_within fd_is_within
  g_is_within : mg "is_within" = some (.ref a_is_within)
  b_is_within : Binds K fd_is_within ["value", "low", "high"] []
  a_is_whole : Addr
  fd_is_whole : FuncData
  F_is_whole : Fun K "is_whole" "is_whole" s_is_whole a_is_whole fd_is_whole
  g_is_whole : mg "is_whole" = some (.ref a_is_whole)
  b_is_whole : Binds K fd_is_whole ["value"] []
  a_need_whole : Addr
  fd_need_whole : FuncData
  F_need_whole : Fun K "need_whole" "need_whole" s_need_whole a_need_whole fd_need_whole
  g_need_whole : mg "need_whole" = some (.ref a_need_whole)
  b_need_whole : Binds K fd_need_whole ["value"] []
  a_need_within : Addr
  fd_need_within : FuncData
  F_need_within : Fun K "need_within" "need_within" s_need_within a_need_within fd_need_within
  g_need_within : mg "need_within" = some (.ref a_need_within)
  b_need_within : Binds K fd_need_within ["value", "low", "high"] []
  a_is_luck : Addr
  fd_is_luck : FuncData
  F_is_luck : Fun K "is_luck" "is_luck" s_is_luck a_is_luck fd_is_luck
  g_is_luck : mg "is_luck" = some (.ref a_is_luck)
  b_is_luck : Binds K fd_is_luck ["value"] []
  a_need_luck : Addr
  fd_need_luck : FuncData
  F_need_luck : Fun K "need_luck" "need_luck" s_need_luck a_need_luck fd_need_luck
  g_need_luck : mg "need_luck" = some (.ref a_need_luck)
  b_need_luck : Binds K fd_need_luck ["value"] []
  a_power : Addr
  fd_power : FuncData
  F_power : Fun K "power" "power" s_power a_power fd_power
  g_power : mg "power" = some (.ref a_power)
  b_power : Binds K fd_power ["base", "exponent"] []
  a_stirred : Addr
  fd_stirred : FuncData
  F_stirred : Fun K "stirred" "stirred" s_stirred a_stirred fd_stirred
  g_stirred : mg "stirred" = some (.ref a_stirred)
  b_stirred : Binds K fd_stirred ["luck"] []
  a_stir : Addr
  fd_stir : FuncData
  F_stir : Fun K "stir" "stir" s_stir a_stir fd_stir
  g_stir : mg "stir" = some (.ref a_stir)
  b_stir : Binds K fd_stir ["luck"] []
  a_unstirred : Addr
  fd_unstirred : FuncData
  F_unstirred : Fun K "unstirred" "unstirred" s_unstirred a_unstirred fd_unstirred
  g_unstirred : mg "unstirred" = some (.ref a_unstirred)
  b_unstirred : Binds K fd_unstirred ["luck"] []
  a_unstir : Addr
  fd_unstir : FuncData
  F_unstir : Fun K "unstir" "unstir" s_unstir a_unstir fd_unstir
  g_unstir : mg "unstir" = some (.ref a_unstir)
  b_unstir : Binds K fd_unstir ["luck"] []
  a_spot_number : Addr
  fd_spot_number : FuncData
  F_spot_number : Fun K "spot_number" "spot_number" s_spot_number a_spot_number fd_spot_number
  g_spot_number : mg "spot_number" = some (.ref a_spot_number)
  b_spot_number : Binds K fd_spot_number ["luck", "entry", "thing", "turn"] []
  a_spot : Addr
  fd_spot : FuncData
  F_spot : Fun K "spot" "spot" s_spot a_spot fd_spot
  g_spot : mg "spot" = some (.ref a_spot)
  b_spot : Binds K fd_spot ["luck", "entry", "thing", "turn"] []
  a_run_number : Addr
  fd_run_number : FuncData
  F_run_number : Fun K "run_number" "run_number" s_run_number a_run_number fd_run_number
  g_run_number : mg "run_number" = some (.ref a_run_number)
  b_run_number : Binds K fd_run_number ["luck", "entry", "thing"] []
  a_turn_of : Addr
  fd_turn_of : FuncData
  F_turn_of : Fun K "turn_of" "turn_of" s_turn_of a_turn_of fd_turn_of
  g_turn_of : mg "turn_of" = some (.ref a_turn_of)
  b_turn_of : Binds K fd_turn_of ["luck", "entry", "thing", "number"] []
  a_drawn : Addr
  fd_drawn : FuncData
  F_drawn : Fun K "drawn" "drawn" s_drawn a_drawn fd_drawn
  g_drawn : mg "drawn" = some (.ref a_drawn)
  b_drawn : Binds K fd_drawn ["luck", "entry", "thing", "turn", "sides"] []
  a_draw : Addr
  fd_draw : FuncData
  F_draw : Fun K "draw" "draw" s_draw a_draw fd_draw
  g_draw : mg "draw" = some (.ref a_draw)
  b_draw : Binds K fd_draw ["luck", "entry", "thing", "turn", "sides"] []
  a_law_dice : Addr
  fd_law_dice : FuncData
  F_law_dice : Fun K "_law_dice" "_law_dice" s_law_dice a_law_dice fd_law_dice
  g_law_dice : mg "_law_dice" = some (.ref a_law_dice)
  b_law_dice : Binds K fd_law_dice ["script", "spot_v"] []
  a_law_roll : Addr
  fd_law_roll : FuncData
  F_law_roll : Fun K "_law_roll" "_law_roll" s_law_roll a_law_roll fd_law_roll
  g_law_roll : mg "_law_roll" = some (.ref a_law_roll)
  b_law_roll : Binds K fd_law_roll ["dice", "total"] []
  a_law_pick : Addr
  fd_law_pick : FuncData
  F_law_pick : Fun K "_law_pick" "_law_pick" s_law_pick a_law_pick fd_law_pick
  g_law_pick : mg "_law_pick" = some (.ref a_law_pick)
  b_law_pick : Binds K fd_law_pick ["dice", "items"] []
  a_law_lk_stirred : Addr
  fd_law_lk_stirred : FuncData
  F_law_lk_stirred : Fun K "_law_lk_stirred" "_law_lk_stirred" s_law_lk_stirred a_law_lk_stirred fd_law_lk_stirred
  g_law_lk_stirred : mg "_law_lk_stirred" = some (.ref a_law_lk_stirred)
  b_law_lk_stirred : Binds K fd_law_lk_stirred ["luck"] []
  a_law_luck_drawn : Addr
  fd_law_luck_drawn : FuncData
  F_law_luck_drawn : Fun K "_law_luck_drawn" "_law_luck_drawn" s_law_luck_drawn a_law_luck_drawn fd_law_luck_drawn
  g_law_luck_drawn : mg "_law_luck_drawn" = some (.ref a_law_luck_drawn)
  b_law_luck_drawn : Binds K fd_law_luck_drawn ["dice"] []
  a_law_index_drawn : Addr
  fd_law_index_drawn : FuncData
  F_law_index_drawn : Fun K "_law_index_drawn" "_law_index_drawn" s_law_index_drawn a_law_index_drawn fd_law_index_drawn
  g_law_index_drawn : mg "_law_index_drawn" = some (.ref a_law_index_drawn)
  b_law_index_drawn : Binds K fd_law_index_drawn ["dice"] []
  a_law_spot : Addr
  fd_law_spot : FuncData
  F_law_spot : Fun K "_law_spot" "_law_spot" s_law_spot a_law_spot fd_law_spot
  g_law_spot : mg "_law_spot" = some (.ref a_law_spot)
  b_law_spot : Binds K fd_law_spot ["luck", "told"] []
  a_law_stirred_right : Addr
  fd_law_stirred_right : FuncData
  F_law_stirred_right : Fun K "_law_stirred_right" "_law_stirred_right" s_law_stirred_right a_law_stirred_right fd_law_stirred_right
  g_law_stirred_right : mg "_law_stirred_right" = some (.ref a_law_stirred_right)
  b_law_stirred_right : Binds K fd_law_stirred_right ["luck"] []
  a_law_turn_right : Addr
  fd_law_turn_right : FuncData
  F_law_turn_right : Fun K "_law_turn_right" "_law_turn_right" s_law_turn_right a_law_turn_right fd_law_turn_right
  g_law_turn_right : mg "_law_turn_right" = some (.ref a_law_turn_right)
  b_law_turn_right : Binds K fd_law_turn_right ["luck", "told", "goal"] []
  a_law_draws_right : Addr
  fd_law_draws_right : FuncData
  F_law_draws_right : Fun K "_law_draws_right" "_law_draws_right" s_law_draws_right a_law_draws_right fd_law_draws_right
  g_law_draws_right : mg "_law_draws_right" = some (.ref a_law_draws_right)
  b_law_draws_right : Binds K fd_law_draws_right ["dice", "luck", "told"] []
  a_law_right : Addr
  fd_law_right : FuncData
  F_law_right : Fun K "_law_right" "_law_right" s_law_right a_law_right fd_law_right
  g_law_right : mg "_law_right" = some (.ref a_law_right)
  b_law_right : Binds K fd_law_right ["dice"] []
  z_abs : mg "abs" = none
  z_max : mg "max" = none
  z_min : mg "min" = none
  z_int : mg "int" = none
  z_len : mg "len" = none
  z_range : mg "range" = none
  z_isinstance : mg "isinstance" = none
  z_sorted : mg "sorted" = none
  z_bool : mg "bool" = none
  z_tuple : mg "tuple" = none
  z_set : mg "set" = none
  t_MODULUS : Tok
  g_MODULUS : mg "MODULUS" = some (.int 999999937 t_MODULUS)
  t_SUMMAND : Tok
  g_SUMMAND : mg "SUMMAND" = some (.int 271829 t_SUMMAND)
  t_MAX_SIDES : Tok
  g_MAX_SIDES : mg "MAX_SIDES" = some (.int 1000 t_MAX_SIDES)
  t_FIFTH_ROOT : Tok
  g_FIFTH_ROOT : mg "FIFTH_ROOT" = some (.int 799999949 t_FIFTH_ROOT)
end Kz
set_option Elab.async false
set_option linter.all false
set_option maxRecDepth 100000
set_option maxHeartbeats 4000000
set_option exponentiation.threshold 500
namespace Kz
open PySem PySem.Spec PyProof.Rows L2 Evl Vr
local macro_rules | `(tactic| walk_at "sc") => `(tactic| first | (with_reducible assumption) | (with_reducible exact sc_mul (by omega)) | (with_reducible exact sc_mulr (by omega)) | (with_reducible exact sc_div (by omega) (by decide)) | (show (0 : Int) < _; omega) | (show _ ≠ (0 : Int); omega) | (with_reducible rfl) | decide)
local macro_rules | `(tactic| walk_at "sq") => `(tactic| first | assumption | exact sq_of (by assumption) | exact st_of (by assumption))
local macro_rules | `(tactic| walk_at "pl") => `(tactic| first | assumption | exact pl_int | exact pl_bl | exact pl_str | exact pl_non | exact pl_lst (by assumption) | exact pl_tup (by assumption) | exact pl_dK (by assumption))
local macro_rules | `(tactic| walk_at "rv") => `(tactic| first
  | with_reducible exact rv_I0
  | with_reducible exact ru_neg
  | ((with_reducible apply rv_I); walk_at "sc")
  | ((with_reducible apply rv_ixL); walk_at "sq"; first | rfl | assumption)
  | ((with_reducible apply rv_ixT); walk_at "sq"; first | rfl | assumption)
  | ((with_reducible apply rv_eq); rfl) | ((with_reducible apply rv_ne); rfl))
local macro_rules | `(tactic| walk_at "rc") => `(tactic| first
  | with_reducible exact rc_I1 | with_reducible exact rc_B1 | with_reducible exact rc_I2 | ((with_reducible apply rc_repr); walk_at "sc") | ((with_reducible apply rc_lenL); walk_at "sq")
  | ((with_reducible apply rc_isiInt); walk_at "pl") | ((with_reducible apply rc_isiBool); walk_at "pl"))
local macro_rules | `(tactic| walk_at "ea") => `(tactic| first
  | with_reducible exact ea_nil | ((with_reducible apply ea_cons); walk_at "ev"; walk_at "ea"))
local macro_rules | `(tactic| walk_at "pow") => `(tactic| first
  | with_reducible exact ev_pow (a := 10) (b := 9) (c := 1000000000) (by decide +kernel) (by decide +kernel)
  | with_reducible exact ev_pow (a := 10) (b := 10) (c := 10000000000) (by decide +kernel) (by decide +kernel)
  | with_reducible exact ev_pow (a := 10) (b := 12) (c := 1000000000000) (by decide +kernel) (by decide +kernel)
  | with_reducible exact ev_pow (a := 10) (b := 17) (c := 100000000000000000) (by decide +kernel) (by decide +kernel)
  | with_reducible exact ev_pow (a := 10) (b := 20) (c := 100000000000000000000) (by decide +kernel) (by decide +kernel)
  | with_reducible exact ev_pow (a := 10) (b := 29) (c := 100000000000000000000000000000) (by decide +kernel) (by decide +kernel)
  | with_reducible exact ev_pow (a := 10) (b := 30) (c := 1000000000000000000000000000000) (by decide +kernel) (by decide +kernel)
  | with_reducible exact ev_pow (a := 10) (b := 40) (c := 10000000000000000000000000000000000000000) (by decide +kernel) (by decide +kernel)
  | with_reducible exact ev_pow (a := 10) (b := 57) (c := 1000000000000000000000000000000000000000000000000000000000) (by decide +kernel) (by decide +kernel)
  | with_reducible exact ev_pow (a := 10) (b := 58) (c := 10000000000000000000000000000000000000000000000000000000000) (by decide +kernel) (by decide +kernel)
  | with_reducible exact ev_pow (a := 10) (b := 59) (c := 100000000000000000000000000000000000000000000000000000000000) (by decide +kernel) (by decide +kernel)
  | with_reducible exact ev_pow (a := 10) (b := 60) (c := 1000000000000000000000000000000000000000000000000000000000000) (by decide +kernel) (by decide +kernel))
local macro_rules | `(tactic| walk_at "call") => `(tactic| (intro H9 e9; first | exact ⟨_, rfl, rfl⟩ | exact ⟨_, _, rfl, rfl⟩ | exact ⟨_, _, _, rfl, rfl⟩ | exact ⟨_, rfl, by walk_at "pl", rfl⟩ | (refine ⟨_, _, _, rfl, ?_, rfl⟩; first | exact Plain.ex e9 (by assumption) | walk_at "pl") | (refine ⟨_, rfl, ?_, rfl⟩; first | exact Plain.ex e9 (by assumption) | walk_at "pl")))
local macro_rules | `(tactic| walk_at "ev") => `(tactic| first
  | with_reducible exact ev_c
  | exact ev_var rfl
  | walk_at "pow"
  | ((with_reducible apply ev_op); walk_at "ev"; walk_at "ev"; walk_at "rv")
  | ((with_reducible apply ev_un); walk_at "ev"; walk_at "rv")
  | ((with_reducible apply ev_cb); walk_at "ea"; walk_at "rc")
  | ((with_reducible apply ev_callP); walk_at "ea"; walk_at "call")
  | ((with_reducible apply ev_chain); walk_at "ev"; walk_at "ev"; walk_at "rv"; walk_at "ev"; walk_at "rv")
  | ((with_reducible apply ev_andV); walk_at "ev"; intro _; walk_at "ev")
  | ((with_reducible apply ev_orV); walk_at "ev"; intro _; walk_at "ev")
  | ((with_reducible apply ev_ite); walk_at "et"; intro _; walk_at "ev"; intro _; walk_at "ev")
  | ((with_reducible apply ev_notV); walk_at "ev"))
local macro_rules | `(tactic| walk_at "et") => `(tactic| first
  | ((with_reducible apply et_test); walk_at "ev")
  | ((with_reducible apply et_B); walk_at "ev")
  | ((with_reducible apply et_and); walk_at "et"; intro _; walk_at "et")
  | ((with_reducible apply et_or); walk_at "et"; intro _; walk_at "et")
  | ((with_reducible apply et_not); walk_at "et"))
section
variable {P : Program} {w : World} {K : PySem.W.Frag} {mg : Str → Option Value} {base : Heap}
def kIsInteger (K : PySem.W.Frag) (vs : List V) (H : Hp) (z : V) : Prop := ∃ x, vs = [x] ∧ Plain K H x ∧ z = .bl (isIntV x)
theorem ok_is_integer (T : Txt K mg w) : FnOk P w K mg base CX0 1 T.a_is_integer T.fd_is_integer ["value"] (Pure (kIsInteger K)) := by
  refine T.F_is_integer.ok sc_is_integer (fun vs H Q E h => ?_) (fun cdv A outer s H vs Q E hr h => ?_)
  · obtain ⟨_, ⟨a, rfl, _⟩, _⟩ := h; rfl
  · obtain ⟨_, ⟨x, rfl, hp, rfl⟩, q⟩ := h
    refine ⟨_, (pss_one (ps_ret (pe_and (pe_callB call_isi (by rfl) T.z_isinstance (by decide +kernel) (pa_cons (pv 0) (pa_cons (pe_bltn (v := .ty "int") (by rfl) T.z_int (by decide +kernel) rfl) pa_nil))) (pe_and (pe_not (pe_callB call_isi (by rfl) T.z_isinstance (by decide +kernel) (pa_cons (pv 0) (pa_cons (pe_bltn (v := .ty "bool") (by rfl) T.z_bool (by decide +kernel) rfl) pa_nil)))) (pe_one (pe_chain op_lt op_lt (pe_un un_neg (pe_op op_pow pe_int pe_int)) (pv 0) (pe_op op_pow pe_int pe_int))))))), ?_⟩
    refine s_ret (v := .bl (isIntV x)) ?_ q
    cases x with
    | int i =>
      apply ev_is
      walk_at "ev"
      show V.bl (true && (!false && (decide (-1000000000000000000000000000000000000000000000000000000000000 < i) && decide (i < 1000000000000000000000000000000000000000000000000000000000000)))) = _
      rfl
    | bl b =>
      refine ev_andV (a := true) (b := false) (by apply ev_is; walk_at "ev"; rfl) fun _ => ?_
      exact ev_andV (a := false) (b := false) (by apply ev_is; walk_at "ev"; rfl) (fun h => by cases h)
    | non => exact ev_andV (a := false) (b := false) (by apply ev_is; walk_at "ev"; rfl) (fun h => by cases h)
    | str _ => exact ev_andV (a := false) (b := false) (by apply ev_is; walk_at "ev"; rfl) (fun h => by cases h)
    | byt _ => exact ev_andV (a := false) (b := false) (by apply ev_is; walk_at "ev"; rfl) (fun h => by cases h)
    | flt _ => exact ev_andV (a := false) (b := false) (by apply ev_is; walk_at "ev"; rfl) (fun h => by cases h)
    | ref _ => exact ev_andV (a := false) (b := false) (by apply ev_is; walk_at "ev"; rfl) (fun h => by cases h)
    | ty _ => exact ev_andV (a := false) (b := false) (by apply ev_is; walk_at "ev"; rfl) (fun h => by cases h)
def kIsWithin (K : PySem.W.Frag) (vs : List V) (H : Hp) (z : V) : Prop := ∃ x lo hi, vs = [x, .int lo, .int hi] ∧ Plain K H x ∧ z = .bl (isWithin lo hi x)
theorem ok_is_within (T : Txt K mg w) : FnOk P w K mg base CX0 2 T.a_is_within T.fd_is_within ["value", "low", "high"] (Pure (kIsWithin K)) := by
  have G_is_integer := ok_is_integer (P := P) (w := w) (base := base) T
  refine T.F_is_within.ok sc_is_within (fun vs H Q E h => ?_) (fun cdv A outer s H vs Q E hr h => ?_)
  · obtain ⟨_, ⟨a, _, _, rfl, _⟩, _⟩ := h; rfl
  · obtain ⟨_, ⟨x, lo, hi, rfl, hp, rfl⟩, q⟩ := h
    refine ⟨_, (pss_one (ps_ret (pe_and (pe_call G_is_integer (hr.mono (by decide)) (by rfl) T.g_is_integer T.F_is_integer.kp T.b_is_integer .nil pass0 (pa_cons (pv 0) pa_nil)) (pe_one (pe_chain op_le op_le (pv 1) (pv 0) (pv 2)))))), ?_⟩
    refine s_ret (v := .bl (isWithin lo hi x)) ?_ q
    cases x with
    | int i => apply ev_is; walk_at "ev"; rfl
    | bl b => exact ev_andV (a := false) (b := false) (by apply ev_is; walk_at "ev"; rfl) (fun h => by cases h)
    | non => exact ev_andV (a := false) (b := false) (by apply ev_is; walk_at "ev"; rfl) (fun h => by cases h)
    | str _ => exact ev_andV (a := false) (b := false) (by apply ev_is; walk_at "ev"; rfl) (fun h => by cases h)
    | byt _ => exact ev_andV (a := false) (b := false) (by apply ev_is; walk_at "ev"; rfl) (fun h => by cases h)
    | flt _ => exact ev_andV (a := false) (b := false) (by apply ev_is; walk_at "ev"; rfl) (fun h => by cases h)
    | ref _ => exact ev_andV (a := false) (b := false) (by apply ev_is; walk_at "ev"; rfl) (fun h => by cases h)
    | ty _ => exact ev_andV (a := false) (b := false) (by apply ev_is; walk_at "ev"; rfl) (fun h => by cases h)
def kRoll (vs : List V) (_ : Hp) (p : Addr) (R : V → Prop) : Prop := ∃ t : Int, vs = [.ref p, .int t] ∧ 0 < t ∧ t.natAbs < 2 ^ 400 ∧ R = fun v => ∃ r : Int, v = .int r ∧ 0 ≤ r ∧ r < t
theorem ok_roll (T : Txt K mg w) : FnOk P w K mg base CX0 1 T.a_law_roll T.fd_law_roll ["dice", "total"] (Draws kRoll) := by
  refine T.F_law_roll.ok sc_law_roll (fun vs H Q E h => ?_) (fun cdv A outer s H vs Q E hr h => ?_)
  · obtain ⟨p, _, ⟨t, rfl, _⟩, _⟩ := h; rfl
  · obtain ⟨p, _, ⟨t, rfl, h0, h1, rfl⟩, ⟨a, b, c, hp⟩, q0⟩ := h
    have q : ∀ (r : Int) H', 0 ≤ r → r < t → Exd p H H' → Dice p H' → Q (.int r) H' := fun r H' a b => q0 _ H' ⟨r, rfl, a, b⟩
    refine ⟨_, (pss_cons (ps_if (pt_cmpR op_gt (pe_ix ix_list (pv 0) pe_int (fun _ _ => rfl)) pe_int (nomark _)) (pss_cons (ps_set (i := 2) sc_law_roll.nd rfl (.inl rfl) (pe_op op_mod (pe_callTy c_int (by rfl) T.z_int (by decide +kernel) (pa_cons (pe_ix ix_list (pv 0) pe_int (fun _ _ => rfl)) pa_nil)) (pv 1)))
  (pss_cons (ps_asg (pe_op op_fdivW (pe_ix ix_list (pv 0) pe_int (fun _ _ => rfl)) (pv 1)) (pg_sub (pv 0) pe_int set_list))
  (pss_one (ps_ret (pv 2))))) pss_nil)
  (pss_cons (ps_asg (pe_op op_add (pe_ix ix_list (pv 0) pe_int (fun _ _ => rfl)) pe_int) (pg_sub (pv 0) pe_int set_list))
  (pss_cons (ps_set (i := 3) sc_law_roll.nd rfl (.inl rfl) (pe_op op_mod (pe_callTy c_int (by rfl) T.z_int (by decide +kernel) (pa_cons (pe_op op_add (pe_ix ix_list (pv 0) pe_int (fun _ _ => rfl)) (pe_op op_mul pe_int (pe_ix ix_list (pv 0) pe_int (fun _ _ => rfl)))) pa_nil)) pe_int))
  (pss_cons (ps_set (i := 4) sc_law_roll.nd rfl (.inl rfl) (pe_op op_add (pe_op op_mul (pe_op op_mod (pe_callTy c_int (by rfl) T.z_int (by decide +kernel) (pa_cons (pe_op op_add (pe_op op_mul (pv 3) (pv 3)) (pe_op op_mul pe_int (pe_ix ix_list (pv 0) pe_int (fun _ _ => rfl)))) pa_nil)) pe_int) pe_int) (pv 3)))
  (pss_one (ps_ret (pe_op op_mod (pe_callTy c_int (by rfl) T.z_int (by decide +kernel) (pa_cons (pe_op op_fdivW (pv 4) pe_int) pa_nil)) (pv 1)))))))), ?_⟩
    have cd : CDivW a t := wide_div h0 h1 (by decide) (by decide)
    apply q_when
    case h => walk_at "et"
    · intro hb H1 e1
      have hp := e1 _ _ hp
      apply q_asg
      case h => walk_at "ev"
      intro H2 e2
      have hp := e2 _ _ hp
      refine q_setL (j := 0) hp (v := .int (a / t)) (by walk_at "ev") (ev_var rfl) ev_c (by show 0 < 3; decide) fun H3 e3 => ?_
      refine ⟨_, rfl, q _ _ (Int.emod_nonneg _ (by omega)) (Int.emod_lt_of_pos _ h0) ?_ ⟨_, _, _, upd_same⟩⟩
      exact (Exd.of (e1.trans (e2.trans e3))).trans Exd.upd
    · intro hb H1 e1
      have hp := e1 _ _ hp
      refine q_setL (j := 2) hp (v := .int (c + 1)) (by walk_at "ev") (ev_var rfl) ev_c (by show 2 < 3; decide) fun H3 e3 => ?_
      have hq : (upd H3 p (.lst ([.int a, .int b, .int c].set 2 (.int (c + 1))))) p = some (.lst [.int a, .int b, .int (c + 1)]) := upd_same
      have ex := (Exd.of (e1.trans e3)).trans (Exd.upd (p := p) (o := .lst ([.int a, .int b, .int c].set 2 (.int (c + 1)))))
      generalize upd H3 p (.lst ([.int a, .int b, .int c].set 2 (.int (c + 1)))) = H4 at hq ex
      apply q_asg
      case h => walk_at "ev"
      intro H5 e5
      have hq := e5 _ _ hq
      generalize ho : (b + 67867979 * (c + 1)) % 2305843009213693723 = one
      have ho1 : 0 ≤ one := by rw [← ho]; exact Int.emod_nonneg _ (by omega)
      have ho2 : one < 2305843009213693723 := by rw [← ho]; exact Int.emod_lt_of_pos _ (by omega)
      have cm : CMul one one := .inl (by constructor <;> omega)
      apply q_asg
      case h => walk_at "ev"
      intro H6 e6
      have hq := e6 _ _ hq
      apply s_ret
      case h => walk_at "ev"
      intro H7 e7
      exact q _ _ (Int.emod_nonneg _ (by omega)) (Int.emod_lt_of_pos _ h0) (ex.trans (Exd.of (e5.trans (e6.trans e7)))) ⟨_, _, _, e7 _ _ hq⟩
def spDice (K : PySem.W.Frag) : Sp := fun vs H Q _ => ∃ (a : Addr) (ns : List Int) (sp : Nat), vs = [.ref a, .int sp] ∧ SqL K H a (ns.map V.int) ∧ ∀ p H', H p = none → Ex H H' → Dice p H' → Q (.ref p) H'
theorem ok_dice (T : Txt K mg w) : FnOk P w K mg base CX0 1 T.a_law_dice T.fd_law_dice ["script", "spot_v"] (spDice K) := by
  refine T.F_law_dice.ok sc_law_dice (fun vs H Q E h => ?_) (fun cdv A outer s H vs Q E hr h => ?_)
  · obtain ⟨_, _, _, rfl, _⟩ := h; rfl
  · obtain ⟨a, ns, sp, rfl, hS, q⟩ := h
    refine ⟨_, (pss_cons (ps_set (i := 2) sc_law_dice.nd rfl (.inl rfl) (pe_ifExp (pt_cmpR op_lt (pv 1) (pe_callB c_len (by rfl) T.z_len PySem.boot_len (pa_cons (pv 0) pa_nil)) (nomark _)) (pe_callTy c_int (by rfl) T.z_int (by decide +kernel) (pa_cons (pe_ix ix_list (pv 0) (pv 1) (fun _ _ => rfl)) pa_nil)) (pe_op op_add (pe_op op_mul pe_int (pv 1)) pe_int)))
  (pss_cons (ps_set (i := 3) sc_law_dice.nd rfl (.inl rfl) (pe_op op_mod (pe_callB (c_max rfl) (by rfl) T.z_max (by decide +kernel) (pa_cons pe_int (pa_cons (pe_op op_sub (pe_callB c_abs (by rfl) T.z_abs (by decide +kernel) (pa_cons (pv 2) pa_nil)) (pe_op op_pow pe_int pe_int)) pa_nil))) (pe_op op_mulW (pe_op op_pow pe_int pe_int) (pe_op op_pow pe_int pe_int))))
  (pss_one (ps_ret (pe_lst (pa_cons (pv 3) (pa_cons (pe_op op_add (pe_op op_add (pe_op op_add (pe_op op_mul (pe_op op_mod (pe_callB c_abs (by rfl) T.z_abs (by decide +kernel) (pa_cons (pv 2) pa_nil)) pe_int) pe_int) (pe_op op_mul pe_int (pv 1))) (pe_op op_mul pe_int (pe_callTy c_intB (by rfl) T.z_int (by decide +kernel) (pa_cons (pe_cmpR op_lt (pv 2) pe_int (nomark _)) pa_nil)))) pe_int) (pa_cons pe_int pa_nil)))))))), ?_⟩
    refine q_asgI ?_ fun cell H1 e1 => ?_
    · by_cases hs : sp < ns.length
      · have hx : (ns.map V.int)[sp]? = some (.int ns[sp]) := by rw [List.getElem?_map, List.getElem?_eq_getElem hs]; rfl
        have hi : atI (ns.map V.int) (sp : Int) = some (.int ns[sp]) := atI_nat hx
        refine ⟨ns[sp], ev_if (b := true) ?_ (fun _ => by walk_at "ev") (fun h => by cases h)⟩
        apply et_is
        walk_at "et"
        rw [List.length_map]
        exact decide_eq_true (by omega)
      · refine ⟨_, ev_if (b := false) ?_ (fun h => by cases h) (fun _ => by walk_at "ev")⟩
        apply et_is
        walk_at "et"
        rw [List.length_map]
        exact decide_eq_false (by omega)
    refine q_asgI ⟨_, ev_op (y := .int 1000000000000000000000000000000000000000000000000000000000000000000000000000000000000000000000000000000000000000000000) (by walk_at "ev") (ev_is (ev_op (by walk_at "pow") (by walk_at "pow") (rv_I (by unfold CMulW; decide +kernel))) (by decide +kernel)) (rv_I (by decide))⟩ fun left H2 e2 => ?_
    have hm : ∀ n : Int, CMul (n % 1152921504606846817) 83 := fun n => .inr (by omega)
    have hm2 := hm (if cell < 0 then -cell else cell)
    refine s_retL (el_lst (by walk_at "ea") (by show 3 ≤ 100000; decide)) fun p H3 hp e3 h3 => ?_
    exact q p H3 (fresh_back (e1.trans e2) hp) ((e1.trans e2).trans e3) ⟨_, _, _, h3⟩
def kPick (K : PySem.W.Frag) (vs : List V) (H : Hp) (p : Addr) (R : V → Prop) : Prop := ∃ (a : Addr) (xs : List V), vs = [.ref p, .ref a] ∧ a ≠ p ∧ SqL K H a xs ∧ 0 < xs.length ∧ xs.length < 1000000 ∧ R = fun v => v ∈ xs
theorem ok_pick (T : Txt K mg w) : FnOk P w K mg base CX0 2 T.a_law_pick T.fd_law_pick ["dice", "items"] (Draws (kPick K)) := by
  have G_law_roll := ok_roll (P := P) (w := w) (base := base) T
  refine T.F_law_pick.ok sc_law_pick (fun vs H Q E h => ?_) (fun cdv A outer s H vs Q E hr h => ?_)
  · obtain ⟨p, _, ⟨_, _, rfl, _⟩, _⟩ := h; rfl
  · obtain ⟨p, _, ⟨a, xs, rfl, hne, hS, hl, hl2, rfl⟩, hd, q⟩ := h
    refine ⟨_, (pss_one (ps_ret (pe_ix ix_list (pv 1) (pe_call G_law_roll (hr.mono (by decide)) (by rfl) T.g_law_roll T.F_law_roll.kp T.b_law_roll .nil pass0 (pa_cons (pv 0) (pa_cons (pe_callB c_len (by rfl) T.z_len PySem.boot_len (pa_cons (pv 1) pa_nil)) pa_nil))) (fun _ _ => rfl)))), ?_⟩
    refine ⟨.ref a, rfl, ?_⟩
    refine goA (vs := [.ref p, .int xs.length]) (by walk_at "ea") fun H1 e1 => ?_
    refine ⟨p, _, ⟨(xs.length : Int), rfl, by omega, by rw [Int.natAbs_natCast]; exact Nat.lt_trans hl2 (by decide), rfl⟩, hd.ex e1, ?_⟩
    rintro v H2 ⟨r, rfl, hr0, hr1⟩ e2 d2
    obtain ⟨n, rfl⟩ := Int.eq_ofNat_of_zero_le hr0
    have hn : n < xs.length := by omega
    refine ⟨a, xs, n, xs[n], rfl, rfl, e2.l hne (ex_l e1 hS), atI_nat (List.getElem?_eq_getElem hn), ?_⟩
    exact q _ H2 (List.getElem_mem hn) ((Exd.of e1).trans e2) d2
end
end Kz
set_option Elab.async false
set_option linter.all false
set_option maxRecDepth 100000
set_option maxHeartbeats 4000000
set_option exponentiation.threshold 500
namespace Kz
open PySem PySem.Spec PyProof.Rows L2 Evl Vr
local macro_rules | `(tactic| walk_at "sc") => `(tactic| first | (with_reducible assumption) | (with_reducible exact sc_mul (by omega)) | (with_reducible exact sc_mulr (by omega)) | (with_reducible exact sc_div (by omega) (by decide)) | (show (0 : Int) < _; omega) | (show _ ≠ (0 : Int); omega) | (with_reducible rfl) | decide)
local macro_rules | `(tactic| walk_at "sq") => `(tactic| first | assumption | exact sq_of (by assumption) | exact st_of (by assumption))
local macro_rules | `(tactic| walk_at "pl") => `(tactic| first | assumption | exact pl_int | exact pl_bl | exact pl_str | exact pl_non | exact pl_lst (by assumption) | exact pl_tup (by assumption) | exact pl_dK (by assumption))
local macro_rules | `(tactic| walk_at "rv") => `(tactic| first
  | with_reducible exact rv_I0
  | with_reducible exact ru_neg
  | ((with_reducible apply rv_I); walk_at "sc")
  | ((with_reducible apply rv_ixL); walk_at "sq"; first | rfl | assumption)
  | ((with_reducible apply rv_ixT); walk_at "sq"; first | rfl | assumption)
  | ((with_reducible apply rv_eq); rfl) | ((with_reducible apply rv_ne); rfl))
local macro_rules | `(tactic| walk_at "rc") => `(tactic| first
  | with_reducible exact rc_I1 | with_reducible exact rc_B1 | with_reducible exact rc_I2 | ((with_reducible apply rc_repr); walk_at "sc") | ((with_reducible apply rc_lenL); walk_at "sq")
  | ((with_reducible apply rc_isiInt); walk_at "pl") | ((with_reducible apply rc_isiBool); walk_at "pl"))
local macro_rules | `(tactic| walk_at "ea") => `(tactic| first
  | with_reducible exact ea_nil | ((with_reducible apply ea_cons); walk_at "ev"; walk_at "ea"))
local macro_rules | `(tactic| walk_at "pow") => `(tactic| first
  | with_reducible exact ev_pow (a := 10) (b := 9) (c := 1000000000) (by decide +kernel) (by decide +kernel)
  | with_reducible exact ev_pow (a := 10) (b := 10) (c := 10000000000) (by decide +kernel) (by decide +kernel)
  | with_reducible exact ev_pow (a := 10) (b := 12) (c := 1000000000000) (by decide +kernel) (by decide +kernel)
  | with_reducible exact ev_pow (a := 10) (b := 17) (c := 100000000000000000) (by decide +kernel) (by decide +kernel)
  | with_reducible exact ev_pow (a := 10) (b := 20) (c := 100000000000000000000) (by decide +kernel) (by decide +kernel)
  | with_reducible exact ev_pow (a := 10) (b := 29) (c := 100000000000000000000000000000) (by decide +kernel) (by decide +kernel)
  | with_reducible exact ev_pow (a := 10) (b := 30) (c := 1000000000000000000000000000000) (by decide +kernel) (by decide +kernel)
  | with_reducible exact ev_pow (a := 10) (b := 40) (c := 10000000000000000000000000000000000000000) (by decide +kernel) (by decide +kernel)
  | with_reducible exact ev_pow (a := 10) (b := 57) (c := 1000000000000000000000000000000000000000000000000000000000) (by decide +kernel) (by decide +kernel)
  | with_reducible exact ev_pow (a := 10) (b := 58) (c := 10000000000000000000000000000000000000000000000000000000000) (by decide +kernel) (by decide +kernel)
  | with_reducible exact ev_pow (a := 10) (b := 59) (c := 100000000000000000000000000000000000000000000000000000000000) (by decide +kernel) (by decide +kernel)
  | with_reducible exact ev_pow (a := 10) (b := 60) (c := 1000000000000000000000000000000000000000000000000000000000000) (by decide +kernel) (by decide +kernel))
local macro_rules | `(tactic| walk_at "call") => `(tactic| (intro H9 e9; first | exact ⟨_, rfl, rfl⟩ | exact ⟨_, _, rfl, rfl⟩ | exact ⟨_, _, _, rfl, rfl⟩ | exact ⟨_, rfl, by walk_at "pl", rfl⟩ | (refine ⟨_, _, _, rfl, ?_, rfl⟩; first | exact Plain.ex e9 (by assumption) | walk_at "pl") | (refine ⟨_, rfl, ?_, rfl⟩; first | exact Plain.ex e9 (by assumption) | walk_at "pl")))
local macro_rules | `(tactic| walk_at "ev") => `(tactic| first
  | with_reducible exact ev_c
  | exact ev_var rfl
  | walk_at "pow"
  | ((with_reducible apply ev_op); walk_at "ev"; walk_at "ev"; walk_at "rv")
  | ((with_reducible apply ev_un); walk_at "ev"; walk_at "rv")
  | ((with_reducible apply ev_cb); walk_at "ea"; walk_at "rc")
  | ((with_reducible apply ev_callP); walk_at "ea"; walk_at "call")
  | ((with_reducible apply ev_chain); walk_at "ev"; walk_at "ev"; walk_at "rv"; walk_at "ev"; walk_at "rv")
  | ((with_reducible apply ev_andV); walk_at "ev"; intro _; walk_at "ev")
  | ((with_reducible apply ev_orV); walk_at "ev"; intro _; walk_at "ev")
  | ((with_reducible apply ev_ite); walk_at "et"; intro _; walk_at "ev"; intro _; walk_at "ev")
  | ((with_reducible apply ev_notV); walk_at "ev"))
local macro_rules | `(tactic| walk_at "et") => `(tactic| first
  | ((with_reducible apply et_test); walk_at "ev")
  | ((with_reducible apply et_B); walk_at "ev")
  | ((with_reducible apply et_and); walk_at "et"; intro _; walk_at "et")
  | ((with_reducible apply et_or); walk_at "et"; intro _; walk_at "et")
  | ((with_reducible apply et_not); walk_at "et"))
section
variable {P : Program} {w : World} {K : PySem.W.Frag} {mg : Str → Option Value} {base : Heap}
def kIsWhole (K : PySem.W.Frag) (vs : List V) (H : Hp) (z : V) : Prop := ∃ n : Int, vs = [.int n] ∧ z = .bl (isIntV (.int n) && decide (0 ≤ n))
theorem ok_is_whole (T : Txt K mg w) : FnOk P w K mg base CX0 2 T.a_is_whole T.fd_is_whole ["value"] (Pure (kIsWhole K)) := by
  have G_is_integer := ok_is_integer (P := P) (w := w) (base := base) T
  refine T.F_is_whole.ok sc_is_whole (fun vs H Q E h => ?_) (fun cdv A outer s H vs Q E hr h => ?_)
  · obtain ⟨_, ⟨_, rfl, _⟩, _⟩ := h; rfl
  · obtain ⟨_, ⟨n, rfl, rfl⟩, q⟩ := h
    refine ⟨_, (pss_one (ps_ret (pe_and (pe_call G_is_integer (hr.mono (by decide)) (by rfl) T.g_is_integer T.F_is_integer.kp T.b_is_integer .nil pass0 (pa_cons (pv 0) pa_nil)) (pe_one (pe_cmpR op_ge (pv 0) pe_int (nomark _)))))), ?_⟩
    refine s_ret (v := .bl (isIntV (.int n) && decide (0 ≤ n))) ?_ q
    walk_at "ev"
/-- what is asked of an index -/
def Idx (n : Int) : Prop := 0 ≤ n ∧ n < 1000000000000000000000000000000000000000000000000000000000000
theorem idx_ok {n : Int} (h : Idx n) : (isIntV (.int n) && decide (0 ≤ n)) = true := by
  unfold isIntV
  simp only [Bool.and_eq_true, decide_eq_true_eq]
  exact ⟨⟨by have := h.1; omega, h.2⟩, h.1⟩
def kNeedWhole (vs : List V) (_ : Hp) (z : V) : Prop := ∃ n : Int, vs = [.int n] ∧ Idx n ∧ z = .non
theorem ok_need_whole (T : Txt K mg w) : FnOk P w K mg base CX0 3 T.a_need_whole T.fd_need_whole ["value"] (Pure kNeedWhole) := by
  have G_is_whole := ok_is_whole (P := P) (w := w) (base := base) T
  refine T.F_need_whole.ok sc_need_whole (fun vs H Q E h => ?_) (fun cdv A outer s H vs Q E hr h => ?_)
  · obtain ⟨_, ⟨_, rfl, _⟩, _⟩ := h; rfl
  · obtain ⟨_, ⟨n, rfl, hn, rfl⟩, q⟩ := h
    refine ⟨_, (pss_one (ps_if (pt_not (pt_val (pe_call G_is_whole (hr.mono (by decide)) (by rfl) T.g_is_whole T.F_is_whole.kp T.b_is_whole .nil pass0 (pa_cons (pv 0) pa_nil)))) (pss_one ps_never) pss_nil)), ?_⟩
    refine s_when (b := false) ?_ (fun h => by cases h) (fun _ H1 e1 => q H1 e1)
    apply et_is
    walk_at "et"
    rw [idx_ok hn]
    rfl
def kIsLuck (K : PySem.W.Frag) (vs : List V) (H : Hp) (z : V) : Prop := ∃ x, vs = [x] ∧ Plain K H x ∧ z = .bl (isWithin 0 (999999937 - 1) x)
theorem ok_is_luck (T : Txt K mg w) : FnOk P w K mg base CX0 3 T.a_is_luck T.fd_is_luck ["value"] (Pure (kIsLuck K)) := by
  have G_is_within := ok_is_within (P := P) (w := w) (base := base) T
  refine T.F_is_luck.ok sc_is_luck (fun vs H Q E h => ?_) (fun cdv A outer s H vs Q E hr h => ?_)
  · obtain ⟨_, ⟨_, rfl, _⟩, _⟩ := h; rfl
  · obtain ⟨_, ⟨x, rfl, hp, rfl⟩, q⟩ := h
    refine ⟨_, (pss_one (ps_ret (pe_call G_is_within (hr.mono (by decide)) (by rfl) T.g_is_within T.F_is_within.kp T.b_is_within .nil pass0 (pa_cons (pv 0) (pa_cons pe_int (pa_cons (pe_op op_sub (pe_glob (v := .int 999999937) rfl T.g_MODULUS ⟨_, rfl⟩) pe_int) pa_nil)))))), ?_⟩
    refine s_ret (v := .bl (isWithin 0 (999999937 - 1) x)) ?_ q
    walk_at "ev"
theorem luck_ok {n : Int} (h : 0 ≤ n ∧ n < 999999937) : isWithin 0 (999999937 - 1) (.int n) = true := by
  unfold isWithin isIntV
  simp only [Bool.and_eq_true, decide_eq_true_eq]
  omega
def kNeedLuck (vs : List V) (_ : Hp) (z : V) : Prop := ∃ n : Int, vs = [.int n] ∧ (0 ≤ n ∧ n < 999999937) ∧ z = .non
theorem ok_need_luck (T : Txt K mg w) : FnOk P w K mg base CX0 4 T.a_need_luck T.fd_need_luck ["value"] (Pure kNeedLuck) := by
  have G_is_luck := ok_is_luck (P := P) (w := w) (base := base) T
  refine T.F_need_luck.ok sc_need_luck (fun vs H Q E h => ?_) (fun cdv A outer s H vs Q E hr h => ?_)
  · obtain ⟨_, ⟨_, rfl, _⟩, _⟩ := h; rfl
  · obtain ⟨_, ⟨n, rfl, hn, rfl⟩, q⟩ := h
    refine ⟨_, (pss_one (ps_if (pt_not (pt_val (pe_call G_is_luck (hr.mono (by decide)) (by rfl) T.g_is_luck T.F_is_luck.kp T.b_is_luck .nil pass0 (pa_cons (pv 0) pa_nil)))) (pss_one ps_never) pss_nil)), ?_⟩
    refine s_when (b := false) ?_ (fun h => by cases h) (fun _ H1 e1 => q H1 e1)
    apply et_is
    walk_at "et"
    rw [luck_ok hn]
    rfl
/-! ### powers by squares -/
theorem pow_step {r s b E : Nat} {e : Nat} (h : r * s ^ e % Pm.p = E) : (if e % 2 = 1 then r * s % Pm.p else r) * (s * s % Pm.p) ^ (e / 2) % Pm.p = E := by
  rw [← h, Nat.mul_mod, ← Nat.pow_mod, ← Nat.mul_mod]
  have e1 : s ^ e = (s * s) ^ (e / 2) * s ^ (e % 2) := by
    rw [show s * s = s ^ 2 from (Nat.pow_two s).symm, ← Nat.pow_mul, ← Nat.pow_add, Nat.div_add_mod]
  split
  · rename_i h1
    rw [e1, h1, Nat.pow_one, Nat.mod_mul_mod]
    congr 1
    rw [Nat.mul_assoc, Nat.mul_comm s]
  · rename_i h1
    have h0 : e % 2 = 0 := by omega
    rw [e1, h0, Nat.pow_zero, Nat.mul_one]
def kPower (vs : List V) (_ : Hp) (z : V) : Prop := ∃ (b : Int) (e : Nat), vs = [.int b, .int e] ∧ z = .int (((b % 999999937).toNat ^ e % Pm.p : Nat) : Int)
theorem ok_power (T : Txt K mg w) : FnOk P w K mg base CX0 1 T.a_power T.fd_power ["base", "exponent"] (Pure kPower) := by
  refine T.F_power.ok sc_power (fun vs H Q E h => ?_) (fun cdv A outer s H vs Q E hr h => ?_)
  · obtain ⟨_, ⟨_, _, rfl, _⟩, _⟩ := h; rfl
  · obtain ⟨_, ⟨b, e, rfl, rfl⟩, q⟩ := h
    refine ⟨_, (pss_cons (ps_set (i := 2) sc_power.nd rfl (.inl rfl) pe_int)
  (pss_cons (ps_set (i := 3) sc_power.nd rfl (.inl rfl) (pe_op op_mod (pv 0) (pe_glob (v := .int 999999937) rfl T.g_MODULUS ⟨_, rfl⟩)))
  (pss_cons (ps_while PassesOwn.never (pt_cmpR op_gt (pv 1) pe_int (nomark _)) (pss_cut (ps_if (pt_truth (pe_op op_and (pv 1) pe_int) (by intro _; rfl)) (pss_one (ps_set (i := 2) sc_power.nd rfl (.inl rfl) (pe_op op_mod (pe_op op_mul (pv 2) (pv 3)) (pe_glob (v := .int 999999937) rfl T.g_MODULUS ⟨_, rfl⟩)))) pss_nil)
  (pss_cons (ps_set (i := 3) sc_power.nd rfl (.inl rfl) (pe_op op_mod (pe_op op_mul (pv 3) (pv 3)) (pe_glob (v := .int 999999937) rfl T.g_MODULUS ⟨_, rfl⟩)))
  (pss_one (ps_set (i := 1) sc_power.nd rfl (.inl rfl) (pe_op op_shr (pv 1) pe_int))))))
  (pss_one (ps_ret (pv 2)))))), ?_⟩
    apply q_asg
    case h => walk_at "ev"
    intro H1 e1
    apply q_asg
    case h => walk_at "ev"
    intro H2 e2
    generalize hE : (b % 999999937).toNat ^ e % Pm.p = Z at q
    have hb0 : 0 ≤ b % 999999937 := Int.emod_nonneg _ (by decide)
    have hb1 : b % 999999937 < 999999937 := Int.emod_lt_of_pos _ (by decide)
    obtain ⟨bn, hbn⟩ := Int.eq_ofNat_of_zero_le hb0
    rw [hbn] at hE hb1
    refine q_while (fun m σ H' => ∃ (r sq : Nat), σ = [some (.int b), some (.int m), some (.int r), some (.int sq)] ∧ r < 999999937 ∧ sq < 999999937 ∧ r * sq ^ m % Pm.p = Z ∧ Ex H H') e ⟨1, bn, ?_, by decide, by omega, by rw [Nat.one_mul]; exact hE, e1.trans e2⟩ ?_
    · rw [hbn]; rfl
    rintro m σ H3 ⟨r, sq, rfl, hr1, hs1, hz, e3⟩
    refine ⟨decide ((0 : Int) < m), by walk_at "et", fun hd H4 e4 => ?_, fun hd H4 e4 => ?_⟩
    · have hd := of_decide_eq_true hd
      refine ⟨_, fun _ _ h => h, ?_⟩
      have hm1 : CMul (r : Int) sq := .inl (by omega)
      have hm2 : CMul (sq : Int) sq := .inl (by omega)
      have hbit : Builtin.bitAnd (m : Int) 1 = ((m % 2 : Nat) : Int) := by
        have h1 := Bits.bitAnd_mask (x := (m : Int)) 1 (by omega)
        have h2 : ((2 : Int) ^ 1 - 1) = 1 := by decide
        rw [h2] at h1
        rw [h1]
        omega
      refine ⟨fun σ' H' => σ' = [some (.int b), some (.int m), some (.int ((if m % 2 = 1 then r * sq % Pm.p else r : Nat) : Int)), some (.int sq)] ∧ Ex H3 H', ?_, ?_⟩
      · refine go (v := .int ((m % 2 : Nat) : Int)) (ev_is (ev_op (ev_var rfl) ev_c rv_I0) (by rw [hbit])) fun H5 e5 => ?_
        refine ⟨((m % 2 : Nat) : Int) != 0, rfl, ?_⟩
        refine ite2 (fun hc => ?_) (fun hc => ?_)
        · apply s_asg
          case h => walk_at "ev"
          intro H6 e6
          have h1 : m % 2 = 1 := by simp at hc; omega
          rw [if_pos h1]
          exact ⟨by show [_, _, some (V.int ((r : Int) * sq % 999999937)), _] = _; rw [Int.natCast_emod, Int.natCast_mul]; rfl, (e4.trans e5).trans e6⟩
        · have h1 : ¬ m % 2 = 1 := by simp at hc; omega
          rw [if_neg h1]
          exact ⟨rfl, e4.trans e5⟩
      · rintro σ' H5 ⟨rfl, e5⟩
        apply q_asg
        case h => walk_at "ev"
        intro H6 e6
        apply s_asg
        case h => walk_at "ev"
        intro H7 e7
        refine ⟨m / 2, by omega, _, sq * sq % Pm.p, ?_, ?_, Nat.mod_lt _ (by decide), pow_step (b := 0) hz, ((e3.trans e5).trans e6).trans e7⟩
        · show [some (V.int b), some (V.int ((m : Int) / 2 ^ (1 : Int).toNat)), some (V.int _), some (V.int ((sq : Int) * sq % 999999937))] = _
          rw [Int.natCast_emod, Int.natCast_mul, Int.natCast_ediv]
          rfl
        · split
          · exact Nat.mod_lt _ (by decide)
          · exact hr1
    · have hd := of_decide_eq_false hd
      have hx : m = 0 := by omega
      subst hx
      rw [Nat.pow_zero, Nat.mul_one, Nat.mod_eq_of_lt hr1] at hz
      subst hz
      apply s_ret
      case h => walk_at "ev"
      exact fun H5 e5 => q H5 ((e3.trans e4).trans e5)
end
end Kz
set_option Elab.async false
set_option linter.all false
set_option maxRecDepth 100000
set_option maxHeartbeats 4000000
set_option exponentiation.threshold 500
namespace Kz
open PySem PySem.Spec PyProof.Rows L2 Evl Vr
local macro_rules | `(tactic| walk_at "sc") => `(tactic| first | (with_reducible assumption) | (with_reducible exact sc_mul (by omega)) | (with_reducible exact sc_mulr (by omega)) | (with_reducible exact sc_div (by omega) (by decide)) | (show (0 : Int) < _; omega) | (show _ ≠ (0 : Int); omega) | (with_reducible rfl) | decide)
local macro_rules | `(tactic| walk_at "sq") => `(tactic| first | assumption | exact sq_of (by assumption) | exact st_of (by assumption))
local macro_rules | `(tactic| walk_at "pl") => `(tactic| first | assumption | exact pl_int | exact pl_bl | exact pl_str | exact pl_non | exact pl_lst (by assumption) | exact pl_tup (by assumption) | exact pl_dK (by assumption))
local macro_rules | `(tactic| walk_at "rv") => `(tactic| first
  | with_reducible exact rv_I0
  | with_reducible exact ru_neg
  | ((with_reducible apply rv_I); walk_at "sc")
  | ((with_reducible apply rv_ixL); walk_at "sq"; first | rfl | assumption)
  | ((with_reducible apply rv_ixT); walk_at "sq"; first | rfl | assumption)
  | ((with_reducible apply rv_eq); rfl) | ((with_reducible apply rv_ne); rfl))
local macro_rules | `(tactic| walk_at "rc") => `(tactic| first
  | with_reducible exact rc_I1 | with_reducible exact rc_B1 | with_reducible exact rc_I2 | ((with_reducible apply rc_repr); walk_at "sc") | ((with_reducible apply rc_lenL); walk_at "sq")
  | ((with_reducible apply rc_isiInt); walk_at "pl") | ((with_reducible apply rc_isiBool); walk_at "pl"))
local macro_rules | `(tactic| walk_at "ea") => `(tactic| first
  | with_reducible exact ea_nil | ((with_reducible apply ea_cons); walk_at "ev"; walk_at "ea"))
local macro_rules | `(tactic| walk_at "pow") => `(tactic| first
  | with_reducible exact ev_pow (a := 10) (b := 9) (c := 1000000000) (by decide +kernel) (by decide +kernel)
  | with_reducible exact ev_pow (a := 10) (b := 10) (c := 10000000000) (by decide +kernel) (by decide +kernel)
  | with_reducible exact ev_pow (a := 10) (b := 12) (c := 1000000000000) (by decide +kernel) (by decide +kernel)
  | with_reducible exact ev_pow (a := 10) (b := 17) (c := 100000000000000000) (by decide +kernel) (by decide +kernel)
  | with_reducible exact ev_pow (a := 10) (b := 20) (c := 100000000000000000000) (by decide +kernel) (by decide +kernel)
  | with_reducible exact ev_pow (a := 10) (b := 29) (c := 100000000000000000000000000000) (by decide +kernel) (by decide +kernel)
  | with_reducible exact ev_pow (a := 10) (b := 30) (c := 1000000000000000000000000000000) (by decide +kernel) (by decide +kernel)
  | with_reducible exact ev_pow (a := 10) (b := 40) (c := 10000000000000000000000000000000000000000) (by decide +kernel) (by decide +kernel)
  | with_reducible exact ev_pow (a := 10) (b := 57) (c := 1000000000000000000000000000000000000000000000000000000000) (by decide +kernel) (by decide +kernel)
  | with_reducible exact ev_pow (a := 10) (b := 58) (c := 10000000000000000000000000000000000000000000000000000000000) (by decide +kernel) (by decide +kernel)
  | with_reducible exact ev_pow (a := 10) (b := 59) (c := 100000000000000000000000000000000000000000000000000000000000) (by decide +kernel) (by decide +kernel)
  | with_reducible exact ev_pow (a := 10) (b := 60) (c := 1000000000000000000000000000000000000000000000000000000000000) (by decide +kernel) (by decide +kernel))
local macro_rules | `(tactic| walk_at "call") => `(tactic| (intro H9 e9; first | exact ⟨_, rfl, rfl⟩ | exact ⟨_, _, rfl, rfl⟩ | exact ⟨_, _, _, rfl, rfl⟩ | exact ⟨_, rfl, by walk_at "pl", rfl⟩ | (refine ⟨_, _, _, rfl, ?_, rfl⟩; first | exact Plain.ex e9 (by assumption) | walk_at "pl") | (refine ⟨_, rfl, ?_, rfl⟩; first | exact Plain.ex e9 (by assumption) | walk_at "pl")))
local macro_rules | `(tactic| walk_at "ev") => `(tactic| first
  | with_reducible exact ev_c
  | exact ev_var rfl
  | walk_at "pow"
  | ((with_reducible apply ev_op); walk_at "ev"; walk_at "ev"; walk_at "rv")
  | ((with_reducible apply ev_un); walk_at "ev"; walk_at "rv")
  | ((with_reducible apply ev_cb); walk_at "ea"; walk_at "rc")
  | ((with_reducible apply ev_callP); walk_at "ea"; walk_at "call")
  | ((with_reducible apply ev_chain); walk_at "ev"; walk_at "ev"; walk_at "rv"; walk_at "ev"; walk_at "rv")
  | ((with_reducible apply ev_andV); walk_at "ev"; intro _; walk_at "ev")
  | ((with_reducible apply ev_orV); walk_at "ev"; intro _; walk_at "ev")
  | ((with_reducible apply ev_ite); walk_at "et"; intro _; walk_at "ev"; intro _; walk_at "ev")
  | ((with_reducible apply ev_notV); walk_at "ev"))
local macro_rules | `(tactic| walk_at "et") => `(tactic| first
  | ((with_reducible apply et_test); walk_at "ev")
  | ((with_reducible apply et_B); walk_at "ev")
  | ((with_reducible apply et_and); walk_at "et"; intro _; walk_at "et")
  | ((with_reducible apply et_or); walk_at "et"; intro _; walk_at "et")
  | ((with_reducible apply et_not); walk_at "et"))
/-! ### lucks as numbers -/
theorem stir_cast (n : Nat) : ((n : Int) ^ (5 : Int).toNat + 271829) % 999999937 = ((Pm.stirN n : Nat) : Int) := by
  unfold Pm.stirN
  rw [Int.natCast_emod, Int.natCast_add, Int.natCast_pow]
  rfl
theorem stir_lt (n : Nat) : Pm.stirN n < 999999937 := Nat.mod_lt _ (by decide)
def runN (l e t : Nat) : Nat := Pm.stirN ((Pm.stirN ((Pm.stirN l + e) % Pm.p) + t) % Pm.p)
def spotN (l e t n : Nat) : Nat := Pm.stirN ((runN l e t + n) % Pm.p)
def turnN (l e t v : Nat) : Nat := (Pm.unstirN v + (Pm.p - runN l e t)) % Pm.p
theorem run_lt (l e t : Nat) : runN l e t < 999999937 := Nat.mod_lt _ (by decide)
theorem spot_lt (l e t n : Nat) : spotN l e t n < 999999937 := Nat.mod_lt _ (by decide)
theorem unstir_lt (n : Nat) : Pm.unstirN n < 999999937 := Nat.mod_lt _ (by decide)
theorem unstir_cast {n : Nat} (h : n < 999999937) : (((n : Int) - 271829) % 999999937).toNat ^ 799999949 % Pm.p = Pm.unstirN n := by
  unfold Pm.unstirN
  have e : (((n : Int) - 271829) % 999999937).toNat = (n + (Pm.p - 271829)) % Pm.p := by
    show _ = (n + (999999937 - 271829)) % 999999937
    omega
  rw [e]
theorem turn_cast (l e t v : Nat) : ((Pm.unstirN v : Nat) - (runN l e t : Nat) : Int) % 999999937 = ((turnN l e t v : Nat) : Int) := by
  have h1 := run_lt l e t
  unfold turnN
  show _ = ((( _ + (999999937 - _)) % 999999937 : Nat) : Int)
  omega
section
variable {P : Program} {w : World} {K : PySem.W.Frag} {mg : Str → Option Value} {base : Heap}
def kL (f : Nat → Nat) (vs : List V) (_ : Hp) (z : V) : Prop := ∃ n : Nat, vs = [.int n] ∧ n < 999999937 ∧ z = .int (f n : Nat)
theorem need_luck_at {n : Nat} (h : n < 999999937) (H1 : Hp) : kNeedLuck [.int n] H1 .non := ⟨n, rfl, ⟨by omega, by omega⟩, rfl⟩
theorem need_whole_at {n : Nat} (h : Idx n) (H1 : Hp) : kNeedWhole [.int n] H1 .non := ⟨n, rfl, h, rfl⟩
theorem ok_stir (T : Txt K mg w) : FnOk P w K mg base CX0 1 T.a_stir T.fd_stir ["luck"] (Pure (kL Pm.stirN)) := by
  refine T.F_stir.ok sc_stir (fun vs H Q E h => ?_) (fun cdv A outer s H vs Q E hr h => ?_)
  · obtain ⟨_, ⟨_, rfl, _⟩, _⟩ := h; rfl
  · obtain ⟨_, ⟨n, rfl, hn, rfl⟩, q⟩ := h
    refine ⟨_, (pss_one (ps_ret (pe_op op_mod (pe_op op_add (pe_op op_pow (pv 0) pe_int) (pe_glob (v := .int 271829) rfl T.g_SUMMAND ⟨_, rfl⟩)) (pe_glob (v := .int 999999937) rfl T.g_MODULUS ⟨_, rfl⟩)))), ?_⟩
    refine s_ret (v := .int (Pm.stirN n : Nat)) ?_ q
    have hp : CPow n 5 := ⟨by decide, by decide, by rw [Int.natAbs_natCast]; exact Nat.lt_trans hn (by decide)⟩
    apply ev_is
    walk_at "ev"
    rw [stir_cast]
theorem ok_stirred (T : Txt K mg w) : FnOk P w K mg base CX0 5 T.a_stirred T.fd_stirred ["luck"] (Pure (kL Pm.stirN)) := by
  have G_stir := ok_stir (P := P) (w := w) (base := base) T
  have G_need_luck := ok_need_luck (P := P) (w := w) (base := base) T
  refine T.F_stirred.ok sc_stirred (fun vs H Q E h => ?_) (fun cdv A outer s H vs Q E hr h => ?_)
  · obtain ⟨_, ⟨_, rfl, _⟩, _⟩ := h; rfl
  · obtain ⟨_, ⟨n, rfl, hn, rfl⟩, q⟩ := h
    refine ⟨_, (pss_cons (ps_expr (pe_call G_need_luck (hr.mono (by decide)) (by rfl) T.g_need_luck T.F_need_luck.kp T.b_need_luck .nil pass0 (pa_cons (pv 0) pa_nil)))
  (pss_one (ps_ret (pe_call G_stir (hr.mono (by decide)) (by rfl) T.g_stir T.F_stir.kp T.b_stir .nil pass0 (pa_cons (pv 0) pa_nil))))), ?_⟩
    refine q_drop (v := .non) (ev_callP (by walk_at "ea") fun H1 _ => need_luck_at hn H1) fun H1 e1 => ?_
    exact s_ret (v := .int (Pm.stirN n : Nat)) (ev_callP (by walk_at "ea") fun H1 _ => ⟨n, rfl, hn, rfl⟩) fun H2 e2 => q H2 (e1.trans e2)
theorem ok_unstir (T : Txt K mg w) : FnOk P w K mg base CX0 2 T.a_unstir T.fd_unstir ["luck"] (Pure (kL Pm.unstirN)) := by
  have G_power := ok_power (P := P) (w := w) (base := base) T
  refine T.F_unstir.ok sc_unstir (fun vs H Q E h => ?_) (fun cdv A outer s H vs Q E hr h => ?_)
  · obtain ⟨_, ⟨_, rfl, _⟩, _⟩ := h; rfl
  · obtain ⟨_, ⟨n, rfl, hn, rfl⟩, q⟩ := h
    refine ⟨_, (pss_one (ps_ret (pe_call G_power (hr.mono (by decide)) (by rfl) T.g_power T.F_power.kp T.b_power .nil pass0 (pa_cons (pe_op op_sub (pv 0) (pe_glob (v := .int 271829) rfl T.g_SUMMAND ⟨_, rfl⟩)) (pa_cons (pe_glob (v := .int 799999949) rfl T.g_FIFTH_ROOT ⟨_, rfl⟩) pa_nil))))), ?_⟩
    refine s_ret (v := .int (Pm.unstirN n : Nat)) ?_ q
    exact ev_callP (vs := [.int ((n : Int) - 271829), .int 799999949]) (by walk_at "ea") fun H1 _ => ⟨_, 799999949, rfl, by rw [unstir_cast hn]⟩
theorem ok_unstirred (T : Txt K mg w) : FnOk P w K mg base CX0 5 T.a_unstirred T.fd_unstirred ["luck"] (Pure (kL Pm.unstirN)) := by
  have G_unstir := ok_unstir (P := P) (w := w) (base := base) T
  have G_need_luck := ok_need_luck (P := P) (w := w) (base := base) T
  refine T.F_unstirred.ok sc_unstirred (fun vs H Q E h => ?_) (fun cdv A outer s H vs Q E hr h => ?_)
  · obtain ⟨_, ⟨_, rfl, _⟩, _⟩ := h; rfl
  · obtain ⟨_, ⟨n, rfl, hn, rfl⟩, q⟩ := h
    refine ⟨_, (pss_cons (ps_expr (pe_call G_need_luck (hr.mono (by decide)) (by rfl) T.g_need_luck T.F_need_luck.kp T.b_need_luck .nil pass0 (pa_cons (pv 0) pa_nil)))
  (pss_one (ps_ret (pe_call G_unstir (hr.mono (by decide)) (by rfl) T.g_unstir T.F_unstir.kp T.b_unstir .nil pass0 (pa_cons (pv 0) pa_nil))))), ?_⟩
    refine q_drop (v := .non) (ev_callP (by walk_at "ea") fun H1 _ => need_luck_at hn H1) fun H1 e1 => ?_
    exact s_ret (v := .int (Pm.unstirN n : Nat)) (ev_callP (by walk_at "ea") fun H1 _ => ⟨n, rfl, hn, rfl⟩) fun H2 e2 => q H2 (e1.trans e2)
def kRun (vs : List V) (_ : Hp) (z : V) : Prop := ∃ l e t : Nat, vs = [.int l, .int e, .int t] ∧ l < 999999937 ∧ z = .int (runN l e t : Nat)
theorem add_cast (a b : Nat) : ((a : Int) + b) % 999999937 = (((a + b) % Pm.p : Nat) : Int) := by
  rw [Int.natCast_emod, Int.natCast_add]
  rfl
theorem ok_run_number (T : Txt K mg w) : FnOk P w K mg base CX0 2 T.a_run_number T.fd_run_number ["luck", "entry", "thing"] (Pure kRun) := by
  have G_stir := ok_stir (P := P) (w := w) (base := base) T
  refine T.F_run_number.ok sc_run_number (fun vs H Q E h => ?_) (fun cdv A outer s H vs Q E hr h => ?_)
  · obtain ⟨_, ⟨_, _, _, rfl, _⟩, _⟩ := h; rfl
  · obtain ⟨_, ⟨l, e, t, rfl, hl, rfl⟩, q⟩ := h
    refine ⟨_, (pss_cons (ps_set (i := 3) sc_run_number.nd rfl (.inl rfl) (pe_call G_stir (hr.mono (by decide)) (by rfl) T.g_stir T.F_stir.kp T.b_stir .nil pass0 (pa_cons (pv 0) pa_nil)))
  (pss_cons (ps_set (i := 3) sc_run_number.nd rfl (.inl rfl) (pe_call G_stir (hr.mono (by decide)) (by rfl) T.g_stir T.F_stir.kp T.b_stir .nil pass0 (pa_cons (pe_op op_mod (pe_op op_add (pv 3) (pv 1)) (pe_glob (v := .int 999999937) rfl T.g_MODULUS ⟨_, rfl⟩)) pa_nil)))
  (pss_one (ps_ret (pe_call G_stir (hr.mono (by decide)) (by rfl) T.g_stir T.F_stir.kp T.b_stir .nil pass0 (pa_cons (pe_op op_mod (pe_op op_add (pv 3) (pv 2)) (pe_glob (v := .int 999999937) rfl T.g_MODULUS ⟨_, rfl⟩)) pa_nil)))))), ?_⟩
    refine q_asg (v := .int (Pm.stirN l : Nat)) (ev_callP (by walk_at "ea") fun H1 _ => ⟨l, rfl, hl, rfl⟩) fun H1 e1 => ?_
    refine q_asg (v := .int (Pm.stirN ((Pm.stirN l + e) % Pm.p) : Nat)) (ev_callP (by walk_at "ea") fun H1 _ => ⟨(Pm.stirN l + e) % Pm.p, by rw [add_cast], Nat.mod_lt _ (by decide), rfl⟩) fun H2 e2 => ?_
    refine s_ret (v := .int (runN l e t : Nat)) (ev_callP (by walk_at "ea") fun H1 _ => ⟨(Pm.stirN ((Pm.stirN l + e) % Pm.p) + t) % Pm.p, by rw [add_cast], Nat.mod_lt _ (by decide), rfl⟩) fun H3 e3 => q H3 ((e1.trans e2).trans e3)
def kSpot0 (vs : List V) (_ : Hp) (z : V) : Prop := ∃ l e t n : Nat, vs = [.int l, .int e, .int t, .int n] ∧ l < 999999937 ∧ z = .int (spotN l e t n : Nat)
theorem ok_spot (T : Txt K mg w) : FnOk P w K mg base CX0 3 T.a_spot T.fd_spot ["luck", "entry", "thing", "turn"] (Pure kSpot0) := by
  have G_stir := ok_stir (P := P) (w := w) (base := base) T
  have G_run_number := ok_run_number (P := P) (w := w) (base := base) T
  refine T.F_spot.ok sc_spot (fun vs H Q E h => ?_) (fun cdv A outer s H vs Q E hr h => ?_)
  · obtain ⟨_, ⟨_, _, _, _, rfl, _⟩, _⟩ := h; rfl
  · obtain ⟨_, ⟨l, e, t, n, rfl, hl, rfl⟩, q⟩ := h
    refine ⟨_, (pss_one (ps_ret (pe_call G_stir (hr.mono (by decide)) (by rfl) T.g_stir T.F_stir.kp T.b_stir .nil pass0 (pa_cons (pe_op op_mod (pe_op op_add (pe_call G_run_number (hr.mono (by decide)) (by rfl) T.g_run_number T.F_run_number.kp T.b_run_number .nil pass0 (pa_cons (pv 0) (pa_cons (pv 1) (pa_cons (pv 2) pa_nil)))) (pv 3)) (pe_glob (v := .int 999999937) rfl T.g_MODULUS ⟨_, rfl⟩)) pa_nil)))), ?_⟩
    have hrun : ∀ H1 : Hp, Ev (tCall (Pure kRun) [] E0 (tCons (tVar 0) (tCons (tVar 1) (tCons (tVar 2) tNil)))) (start ["luck", "entry", "thing", "turn"] [.int l, .int e, .int t, .int n]) H1 (.int (runN l e t : Nat)) := fun H1 => ev_callP (by walk_at "ea") fun H1 _ => ⟨l, e, t, rfl, hl, rfl⟩
    refine s_ret (v := .int (spotN l e t n : Nat)) (ev_callP (vs := [.int (((runN l e t + n) % Pm.p : Nat))]) (ea_cons (ev_is (ev_op (ev_op (hrun _) (ev_var rfl) rv_I0) ev_c (rv_I (by decide))) (by rw [add_cast])) ea_nil) fun H1 _ => ⟨_, rfl, Nat.mod_lt _ (by decide), rfl⟩) q
def kSpot (vs : List V) (_ : Hp) (z : V) : Prop := ∃ l e t n : Nat, vs = [.int l, .int e, .int t, .int n] ∧ l < 999999937 ∧ Idx e ∧ Idx t ∧ Idx n ∧ z = .int (spotN l e t n : Nat)
theorem ok_spot_number (T : Txt K mg w) : FnOk P w K mg base CX0 5 T.a_spot_number T.fd_spot_number ["luck", "entry", "thing", "turn"] (Pure kSpot) := by
  have G_spot := ok_spot (P := P) (w := w) (base := base) T
  have G_need_luck := ok_need_luck (P := P) (w := w) (base := base) T
  have G_need_whole := ok_need_whole (P := P) (w := w) (base := base) T
  refine T.F_spot_number.ok sc_spot_number (fun vs H Q E h => ?_) (fun cdv A outer s H vs Q E hr h => ?_)
  · obtain ⟨_, ⟨_, _, _, _, rfl, _⟩, _⟩ := h; rfl
  · obtain ⟨_, ⟨l, e, t, n, rfl, hl, he, ht, hn, rfl⟩, q⟩ := h
    refine ⟨_, (pss_cons (ps_expr (pe_call G_need_luck (hr.mono (by decide)) (by rfl) T.g_need_luck T.F_need_luck.kp T.b_need_luck .nil pass0 (pa_cons (pv 0) pa_nil)))
  (pss_cons (ps_expr (pe_call G_need_whole (hr.mono (by decide)) (by rfl) T.g_need_whole T.F_need_whole.kp T.b_need_whole .nil pass0 (pa_cons (pv 1) pa_nil)))
  (pss_cons (ps_expr (pe_call G_need_whole (hr.mono (by decide)) (by rfl) T.g_need_whole T.F_need_whole.kp T.b_need_whole .nil pass0 (pa_cons (pv 2) pa_nil)))
  (pss_cons (ps_expr (pe_call G_need_whole (hr.mono (by decide)) (by rfl) T.g_need_whole T.F_need_whole.kp T.b_need_whole .nil pass0 (pa_cons (pv 3) pa_nil)))
  (pss_one (ps_ret (pe_call G_spot (hr.mono (by decide)) (by rfl) T.g_spot T.F_spot.kp T.b_spot .nil pass0 (pa_cons (pv 0) (pa_cons (pv 1) (pa_cons (pv 2) (pa_cons (pv 3) pa_nil))))))))))), ?_⟩
    refine q_drop (v := .non) (ev_callP (by walk_at "ea") fun H1 _ => need_luck_at hl H1) fun H1 e1 => ?_
    refine q_drop (v := .non) (ev_callP (by walk_at "ea") fun H1 _ => need_whole_at he H1) fun H2 e2 => ?_
    refine q_drop (v := .non) (ev_callP (by walk_at "ea") fun H1 _ => need_whole_at ht H1) fun H3 e3 => ?_
    refine q_drop (v := .non) (ev_callP (by walk_at "ea") fun H1 _ => need_whole_at hn H1) fun H4 e4 => ?_
    exact s_ret (v := .int (spotN l e t n : Nat)) (ev_callP (by walk_at "ea") fun H1 _ => ⟨l, e, t, n, rfl, hl, rfl⟩) fun H5 e5 => q H5 ((((e1.trans e2).trans e3).trans e4).trans e5)
def kTurn (vs : List V) (_ : Hp) (z : V) : Prop := ∃ l e t v : Nat, vs = [.int l, .int e, .int t, .int v] ∧ l < 999999937 ∧ Idx e ∧ Idx t ∧ v < 999999937 ∧ z = .int (turnN l e t v : Nat)
theorem ok_turn_of (T : Txt K mg w) : FnOk P w K mg base CX0 5 T.a_turn_of T.fd_turn_of ["luck", "entry", "thing", "number"] (Pure kTurn) := by
  have G_unstir := ok_unstir (P := P) (w := w) (base := base) T
  have G_run_number := ok_run_number (P := P) (w := w) (base := base) T
  have G_need_luck := ok_need_luck (P := P) (w := w) (base := base) T
  have G_need_whole := ok_need_whole (P := P) (w := w) (base := base) T
  refine T.F_turn_of.ok sc_turn_of (fun vs H Q E h => ?_) (fun cdv A outer s H vs Q E hr h => ?_)
  · obtain ⟨_, ⟨_, _, _, _, rfl, _⟩, _⟩ := h; rfl
  · obtain ⟨_, ⟨l, e, t, v, rfl, hl, he, ht, hv, rfl⟩, q⟩ := h
    refine ⟨_, (pss_cons (ps_expr (pe_call G_need_luck (hr.mono (by decide)) (by rfl) T.g_need_luck T.F_need_luck.kp T.b_need_luck .nil pass0 (pa_cons (pv 0) pa_nil)))
  (pss_cons (ps_expr (pe_call G_need_whole (hr.mono (by decide)) (by rfl) T.g_need_whole T.F_need_whole.kp T.b_need_whole .nil pass0 (pa_cons (pv 1) pa_nil)))
  (pss_cons (ps_expr (pe_call G_need_whole (hr.mono (by decide)) (by rfl) T.g_need_whole T.F_need_whole.kp T.b_need_whole .nil pass0 (pa_cons (pv 2) pa_nil)))
  (pss_cons (ps_expr (pe_call G_need_luck (hr.mono (by decide)) (by rfl) T.g_need_luck T.F_need_luck.kp T.b_need_luck .nil pass0 (pa_cons (pv 3) pa_nil)))
  (pss_one (ps_ret (pe_op op_mod (pe_op op_sub (pe_call G_unstir (hr.mono (by decide)) (by rfl) T.g_unstir T.F_unstir.kp T.b_unstir .nil pass0 (pa_cons (pv 3) pa_nil)) (pe_call G_run_number (hr.mono (by decide)) (by rfl) T.g_run_number T.F_run_number.kp T.b_run_number .nil pass0 (pa_cons (pv 0) (pa_cons (pv 1) (pa_cons (pv 2) pa_nil))))) (pe_glob (v := .int 999999937) rfl T.g_MODULUS ⟨_, rfl⟩)))))))), ?_⟩
    refine q_drop (v := .non) (ev_callP (by walk_at "ea") fun H1 _ => need_luck_at hl H1) fun H1 e1 => ?_
    refine q_drop (v := .non) (ev_callP (by walk_at "ea") fun H1 _ => need_whole_at he H1) fun H2 e2 => ?_
    refine q_drop (v := .non) (ev_callP (by walk_at "ea") fun H1 _ => need_whole_at ht H1) fun H3 e3 => ?_
    refine q_drop (v := .non) (ev_callP (by walk_at "ea") fun H1 _ => need_luck_at hv H1) fun H4 e4 => ?_
    refine s_ret (v := .int (turnN l e t v : Nat)) ?_ fun H5 e5 => q H5 ((((e1.trans e2).trans e3).trans e4).trans e5)
    refine ev_is (ev_op (ev_op (x := .int (Pm.unstirN v : Nat)) (y := .int (runN l e t : Nat)) (ev_callP (by walk_at "ea") fun H1 _ => ⟨v, rfl, hv, rfl⟩) (ev_callP (by walk_at "ea") fun H1 _ => ⟨l, e, t, rfl, hl, rfl⟩) rv_I0) ev_c (rv_I (by decide))) ?_
    rw [turn_cast]
def drawN (l e t n s : Nat) : Nat := spotN l e t n * s / 999999937
def kDraw0 (vs : List V) (_ : Hp) (z : V) : Prop := ∃ l e t n s : Nat, vs = [.int l, .int e, .int t, .int n, .int s] ∧ l < 999999937 ∧ z = .int (drawN l e t n s : Nat)
theorem ok_draw (T : Txt K mg w) : FnOk P w K mg base CX0 4 T.a_draw T.fd_draw ["luck", "entry", "thing", "turn", "sides"] (Pure kDraw0) := by
  have G_spot := ok_spot (P := P) (w := w) (base := base) T
  refine T.F_draw.ok sc_draw (fun vs H Q E h => ?_) (fun cdv A outer s H vs Q E hr h => ?_)
  · obtain ⟨_, ⟨_, _, _, _, _, rfl, _⟩, _⟩ := h; rfl
  · obtain ⟨_, ⟨l, e, t, n, s, rfl, hl, rfl⟩, q⟩ := h
    refine ⟨_, (pss_one (ps_ret (pe_op op_fdivW (pe_op op_mul (pe_call G_spot (hr.mono (by decide)) (by rfl) T.g_spot T.F_spot.kp T.b_spot .nil pass0 (pa_cons (pv 0) (pa_cons (pv 1) (pa_cons (pv 2) (pa_cons (pv 3) pa_nil))))) (pv 4)) (pe_glob (v := .int 999999937) rfl T.g_MODULUS ⟨_, rfl⟩)))), ?_⟩
    have h1 := spot_lt l e t n
    have hm : CMul (spotN l e t n : Nat) (s : Int) := .inl (by omega)
    refine s_ret (v := .int (drawN l e t n s : Nat)) (ev_is (ev_op (ev_op (x := .int (spotN l e t n : Nat)) (ev_callP (by walk_at "ea") fun H1 _ => ⟨l, e, t, n, rfl, hl, rfl⟩) (ev_var rfl) (rv_I hm)) ev_c (rv_I ⟨by decide, by decide⟩)) ?_) q
    unfold drawN
    rw [Int.natCast_ediv, Int.natCast_mul]
    rfl
def kNeedWithin (vs : List V) (_ : Hp) (z : V) : Prop := ∃ n lo hi : Int, vs = [.int n, .int lo, .int hi] ∧ lo ≤ n ∧ n ≤ hi ∧ -1000000000000 ≤ lo ∧ hi ≤ 1000000000000 ∧ z = .non
theorem ok_need_within (T : Txt K mg w) : FnOk P w K mg base CX0 3 T.a_need_within T.fd_need_within ["value", "low", "high"] (Pure kNeedWithin) := by
  have G_is_within := ok_is_within (P := P) (w := w) (base := base) T
  refine T.F_need_within.ok sc_need_within (fun vs H Q E h => ?_) (fun cdv A outer s H vs Q E hr h => ?_)
  · obtain ⟨_, ⟨_, _, _, rfl, _⟩, _⟩ := h; rfl
  · obtain ⟨_, ⟨n, lo, hi, rfl, h1, h2, h3, h4, rfl⟩, q⟩ := h
    refine ⟨_, (pss_one (ps_if (pt_not (pt_val (pe_call G_is_within (hr.mono (by decide)) (by rfl) T.g_is_within T.F_is_within.kp T.b_is_within .nil pass0 (pa_cons (pv 0) (pa_cons (pv 1) (pa_cons (pv 2) pa_nil)))))) (pss_one ps_never) pss_nil)), ?_⟩
    refine s_when (b := false) ?_ (fun h => by cases h) (fun _ H1 e1 => q H1 e1)
    apply et_is
    walk_at "et"
    have e : isWithin lo hi (.int n) = true := by
      unfold isWithin isIntV
      simp only [Bool.and_eq_true, decide_eq_true_eq]
      omega
    rw [e]
    rfl
def kDraw (vs : List V) (_ : Hp) (z : V) : Prop := ∃ l e t n s : Nat, vs = [.int l, .int e, .int t, .int n, .int s] ∧ l < 999999937 ∧ Idx e ∧ Idx t ∧ Idx n ∧ 1 ≤ s ∧ s ≤ 1000 ∧ z = .int (drawN l e t n s : Nat)
theorem ok_drawn (T : Txt K mg w) : FnOk P w K mg base CX0 5 T.a_drawn T.fd_drawn ["luck", "entry", "thing", "turn", "sides"] (Pure kDraw) := by
  have G_draw := ok_draw (P := P) (w := w) (base := base) T
  have G_need_luck := ok_need_luck (P := P) (w := w) (base := base) T
  have G_need_whole := ok_need_whole (P := P) (w := w) (base := base) T
  have G_need_within := ok_need_within (P := P) (w := w) (base := base) T
  refine T.F_drawn.ok sc_drawn (fun vs H Q E h => ?_) (fun cdv A outer s H vs Q E hr h => ?_)
  · obtain ⟨_, ⟨_, _, _, _, _, rfl, _⟩, _⟩ := h; rfl
  · obtain ⟨_, ⟨l, e, t, n, s, rfl, hl, he, ht, hn, h1, h2, rfl⟩, q⟩ := h
    refine ⟨_, (pss_cons (ps_expr (pe_call G_need_luck (hr.mono (by decide)) (by rfl) T.g_need_luck T.F_need_luck.kp T.b_need_luck .nil pass0 (pa_cons (pv 0) pa_nil)))
  (pss_cons (ps_expr (pe_call G_need_whole (hr.mono (by decide)) (by rfl) T.g_need_whole T.F_need_whole.kp T.b_need_whole .nil pass0 (pa_cons (pv 1) pa_nil)))
  (pss_cons (ps_expr (pe_call G_need_whole (hr.mono (by decide)) (by rfl) T.g_need_whole T.F_need_whole.kp T.b_need_whole .nil pass0 (pa_cons (pv 2) pa_nil)))
  (pss_cons (ps_expr (pe_call G_need_whole (hr.mono (by decide)) (by rfl) T.g_need_whole T.F_need_whole.kp T.b_need_whole .nil pass0 (pa_cons (pv 3) pa_nil)))
  (pss_cons (ps_expr (pe_call G_need_within (hr.mono (by decide)) (by rfl) T.g_need_within T.F_need_within.kp T.b_need_within .nil pass0 (pa_cons (pv 4) (pa_cons pe_int (pa_cons (pe_glob (v := .int 1000) rfl T.g_MAX_SIDES ⟨_, rfl⟩) pa_nil)))))
  (pss_one (ps_ret (pe_call G_draw (hr.mono (by decide)) (by rfl) T.g_draw T.F_draw.kp T.b_draw .nil pass0 (pa_cons (pv 0) (pa_cons (pv 1) (pa_cons (pv 2) (pa_cons (pv 3) (pa_cons (pv 4) pa_nil))))))))))))), ?_⟩
    refine q_drop (v := .non) (ev_callP (by walk_at "ea") fun H1 _ => need_luck_at hl H1) fun H1 e1 => ?_
    refine q_drop (v := .non) (ev_callP (by walk_at "ea") fun H1 _ => need_whole_at he H1) fun H2 e2 => ?_
    refine q_drop (v := .non) (ev_callP (by walk_at "ea") fun H1 _ => need_whole_at ht H1) fun H3 e3 => ?_
    refine q_drop (v := .non) (ev_callP (by walk_at "ea") fun H1 _ => need_whole_at hn H1) fun H4 e4 => ?_
    refine q_drop (v := .non) (ev_callP (by walk_at "ea") fun H1 _ => ⟨s, 1, 1000, rfl, by omega, by omega, by decide, by decide, rfl⟩) fun H5 e5 => ?_
    exact s_ret (v := .int (drawN l e t n s : Nat)) (ev_callP (by walk_at "ea") fun H1 _ => ⟨l, e, t, n, s, rfl, hl, rfl⟩) fun H6 e6 => q H6 (((((e1.trans e2).trans e3).trans e4).trans e5).trans e6)
end
end Kz
set_option Elab.async false
set_option linter.all false
set_option maxRecDepth 100000
set_option maxHeartbeats 4000000
set_option exponentiation.threshold 500
namespace Kz
open PySem PySem.Spec PyProof.Rows L2 Evl Vr
local macro_rules | `(tactic| walk_at "sc") => `(tactic| first | (with_reducible assumption) | (with_reducible exact sc_mul (by omega)) | (with_reducible exact sc_mulr (by omega)) | (with_reducible exact sc_div (by omega) (by decide)) | (show (0 : Int) < _; omega) | (show _ ≠ (0 : Int); omega) | (with_reducible rfl) | decide)
local macro_rules | `(tactic| walk_at "sq") => `(tactic| first | assumption | exact sq_of (by assumption) | exact st_of (by assumption))
local macro_rules | `(tactic| walk_at "pl") => `(tactic| first | assumption | exact pl_int | exact pl_bl | exact pl_str | exact pl_non | exact pl_lst (by assumption) | exact pl_tup (by assumption) | exact pl_dK (by assumption))
local macro_rules | `(tactic| walk_at "rv") => `(tactic| first
  | with_reducible exact rv_I0
  | with_reducible exact ru_neg
  | ((with_reducible apply rv_I); walk_at "sc")
  | ((with_reducible apply rv_ixL); walk_at "sq"; first | rfl | assumption)
  | ((with_reducible apply rv_ixT); walk_at "sq"; first | rfl | assumption)
  | ((with_reducible apply rv_eq); rfl) | ((with_reducible apply rv_ne); rfl))
local macro_rules | `(tactic| walk_at "rc") => `(tactic| first
  | with_reducible exact rc_I1 | with_reducible exact rc_B1 | with_reducible exact rc_I2 | ((with_reducible apply rc_repr); walk_at "sc") | ((with_reducible apply rc_lenL); walk_at "sq")
  | ((with_reducible apply rc_isiInt); walk_at "pl") | ((with_reducible apply rc_isiBool); walk_at "pl"))
local macro_rules | `(tactic| walk_at "ea") => `(tactic| first
  | with_reducible exact ea_nil | ((with_reducible apply ea_cons); walk_at "ev"; walk_at "ea"))
local macro_rules | `(tactic| walk_at "pow") => `(tactic| first
  | with_reducible exact ev_pow (a := 10) (b := 9) (c := 1000000000) (by decide +kernel) (by decide +kernel)
  | with_reducible exact ev_pow (a := 10) (b := 10) (c := 10000000000) (by decide +kernel) (by decide +kernel)
  | with_reducible exact ev_pow (a := 10) (b := 12) (c := 1000000000000) (by decide +kernel) (by decide +kernel)
  | with_reducible exact ev_pow (a := 10) (b := 17) (c := 100000000000000000) (by decide +kernel) (by decide +kernel)
  | with_reducible exact ev_pow (a := 10) (b := 20) (c := 100000000000000000000) (by decide +kernel) (by decide +kernel)
  | with_reducible exact ev_pow (a := 10) (b := 29) (c := 100000000000000000000000000000) (by decide +kernel) (by decide +kernel)
  | with_reducible exact ev_pow (a := 10) (b := 30) (c := 1000000000000000000000000000000) (by decide +kernel) (by decide +kernel)
  | with_reducible exact ev_pow (a := 10) (b := 40) (c := 10000000000000000000000000000000000000000) (by decide +kernel) (by decide +kernel)
  | with_reducible exact ev_pow (a := 10) (b := 57) (c := 1000000000000000000000000000000000000000000000000000000000) (by decide +kernel) (by decide +kernel)
  | with_reducible exact ev_pow (a := 10) (b := 58) (c := 10000000000000000000000000000000000000000000000000000000000) (by decide +kernel) (by decide +kernel)
  | with_reducible exact ev_pow (a := 10) (b := 59) (c := 100000000000000000000000000000000000000000000000000000000000) (by decide +kernel) (by decide +kernel)
  | with_reducible exact ev_pow (a := 10) (b := 60) (c := 1000000000000000000000000000000000000000000000000000000000000) (by decide +kernel) (by decide +kernel))
local macro_rules | `(tactic| walk_at "call") => `(tactic| (intro H9 e9; first | exact ⟨_, rfl, rfl⟩ | exact ⟨_, _, rfl, rfl⟩ | exact ⟨_, _, _, rfl, rfl⟩ | exact ⟨_, rfl, by walk_at "pl", rfl⟩ | (refine ⟨_, _, _, rfl, ?_, rfl⟩; first | exact Plain.ex e9 (by assumption) | walk_at "pl") | (refine ⟨_, rfl, ?_, rfl⟩; first | exact Plain.ex e9 (by assumption) | walk_at "pl")))
local macro_rules | `(tactic| walk_at "ev") => `(tactic| first
  | with_reducible exact ev_c
  | exact ev_var rfl
  | walk_at "pow"
  | ((with_reducible apply ev_op); walk_at "ev"; walk_at "ev"; walk_at "rv")
  | ((with_reducible apply ev_un); walk_at "ev"; walk_at "rv")
  | ((with_reducible apply ev_cb); walk_at "ea"; walk_at "rc")
  | ((with_reducible apply ev_callP); walk_at "ea"; walk_at "call")
  | ((with_reducible apply ev_chain); walk_at "ev"; walk_at "ev"; walk_at "rv"; walk_at "ev"; walk_at "rv")
  | ((with_reducible apply ev_andV); walk_at "ev"; intro _; walk_at "ev")
  | ((with_reducible apply ev_orV); walk_at "ev"; intro _; walk_at "ev")
  | ((with_reducible apply ev_ite); walk_at "et"; intro _; walk_at "ev"; intro _; walk_at "ev")
  | ((with_reducible apply ev_notV); walk_at "ev"))
local macro_rules | `(tactic| walk_at "et") => `(tactic| first
  | ((with_reducible apply et_test); walk_at "ev")
  | ((with_reducible apply et_B); walk_at "ev")
  | ((with_reducible apply et_and); walk_at "et"; intro _; walk_at "et")
  | ((with_reducible apply et_or); walk_at "et"; intro _; walk_at "et")
  | ((with_reducible apply et_not); walk_at "et"))
theorem pow5 (n : Nat) : n ^ 5 = n * n * n * n * n := by simp [Nat.pow_succ]
def foldN (l : Nat) (ts : List Nat) : Nat := ts.foldl (fun f t => Pm.stirN ((f + t) % Pm.p)) (Pm.stirN l)
theorem fold_lt (l : Nat) : ∀ ts : List Nat, foldN l ts < 999999937 := by
  intro ts
  have go : ∀ (ts : List Nat) (f : Nat), f < 999999937 → ts.foldl (fun f t => Pm.stirN ((f + t) % Pm.p)) f < 999999937 := fun ts => by
    induction ts with
    | nil => exact fun f h => h
    | cons t ts ih =>
      intro f h
      rw [List.foldl_cons]
      exact ih (Pm.stirN ((f + t) % Pm.p)) (stir_lt ((f + t) % Pm.p))
  exact go ts (Pm.stirN l) (stir_lt l)
theorem fold_take {l : Nat} {ts : List Nat} {i x : Nat} (h : ts[i]? = some x) : foldN l (ts.take (i + 1)) = Pm.stirN ((foldN l (ts.take i) + x) % Pm.p) := by
  unfold foldN
  rw [List.take_add_one, h]
  show List.foldl _ _ (ts.take i ++ [x]) = _
  rw [List.foldl_append]
  rfl
section
variable {P : Program} {w : World} {K : PySem.W.Frag} {mg : Str → Option Value} {base : Heap}
theorem ok_lk (T : Txt K mg w) : FnOk P w K mg base CX0 1 T.a_law_lk_stirred T.fd_law_lk_stirred ["luck"] (Pure (kL Pm.stirN)) := by
  refine T.F_law_lk_stirred.ok sc_law_lk_stirred (fun vs H Q E h => ?_) (fun cdv A outer s H vs Q E hr h => ?_)
  · obtain ⟨_, ⟨_, rfl, _⟩, _⟩ := h; rfl
  · obtain ⟨_, ⟨n, rfl, hn, rfl⟩, q⟩ := h
    refine ⟨_, (pss_one (ps_ret (pe_op op_mod (pe_callTy c_int (by rfl) T.z_int (by decide +kernel) (pa_cons (pe_op op_add (pe_op op_mul (pe_op op_mul (pe_op op_mul (pe_op op_mul (pv 0) (pv 0)) (pv 0)) (pv 0)) (pv 0)) pe_int) pa_nil)) pe_int))), ?_⟩
    have hm : ∀ x : Int, CMul x n := fun x => .inr (by omega)
    have m1 := hm n
    have m2 := hm (n * n)
    have m3 := hm (n * n * n)
    have m4 := hm (n * n * n * n)
    refine s_ret (v := .int (Pm.stirN n : Nat)) ?_ q
    apply ev_is
    walk_at "ev"
    unfold Pm.stirN
    rw [pow5]
    simp only [Int.natCast_emod, Int.natCast_add, Int.natCast_mul]
    rfl
def LuckV (v : V) : Prop := ∃ n : Nat, v = .int n ∧ n < 999999937
def kOne (R' : V → Prop) (vs : List V) (_ : Hp) (p : Addr) (R : V → Prop) : Prop := vs = [.ref p] ∧ R = R'
theorem dv_roll {p : Addr} {σ : L2.St} {H : Hp} {ta : TE} {m : Int} {i : Nat} (hs : σ[i]? = some (some (.ref p))) (ha : ∀ H1, Ev ta σ H1 (.int m)) (h0 : 0 < m) (h1 : m.natAbs < 2 ^ 400) : Dv p (tCall (Draws kRoll) [] E0 (tCons (tVar i) (tCons ta tNil))) σ H (fun v => ∃ r : Int, v = .int r ∧ 0 ≤ r ∧ r < m) :=
  dv_call (vs := [.ref p, .int m]) (fun H1 _ _ => ea_cons (ev_var hs) (ea_cons (ha H1) ea_nil)) (fun H1 _ _ => ⟨m, rfl, h0, h1, rfl⟩)
theorem ok_luck_drawn (T : Txt K mg w) : FnOk P w K mg base CX0 3 T.a_law_luck_drawn T.fd_law_luck_drawn ["dice"] (Draws (kOne LuckV)) := by
  have G_law_roll := ok_roll (P := P) (w := w) (base := base) T
  have G_law_pick := ok_pick (P := P) (w := w) (base := base) T
  refine T.F_law_luck_drawn.ok sc_law_luck_drawn (fun vs H Q E h => ?_) (fun cdv A outer s H vs Q E hr h => ?_)
  · obtain ⟨p, _, ⟨rfl, _⟩, _⟩ := h; rfl
  · obtain ⟨p, _, ⟨rfl, rfl⟩, hd, q⟩ := h
    refine ⟨_, (pss_one (ps_ret (pe_ifExp (pt_cmpR op_eq (pe_call G_law_roll (hr.mono (by decide)) (by rfl) T.g_law_roll T.F_law_roll.kp T.b_law_roll .nil pass0 (pa_cons (pv 0) (pa_cons pe_int pa_nil))) pe_int (nomark _)) (pe_call G_law_pick (hr.mono (by decide)) (by rfl) T.g_law_pick T.F_law_pick.kp T.b_law_pick .nil pass0 (pa_cons (pv 0) (pa_cons (pe_lst (pa_cons pe_int (pa_cons pe_int (pa_cons pe_int (pa_cons pe_int pa_nil))))) pa_nil))) (pe_call G_law_roll (hr.mono (by decide)) (by rfl) T.g_law_roll T.F_law_roll.kp T.b_law_roll .nil pass0 (pa_cons (pv 0) (pa_cons pe_int pa_nil)))))), ?_⟩
    refine (dv_if (p := p) (R := LuckV) (dvt_eq ((dv_roll (m := 6) rfl (fun H1 => ev_c) (by decide) (by decide)).mono fun v ⟨r, e, _⟩ => ⟨r, e⟩)) ?_ ?_) H (Exd.refl p H) hd _ q
    · refine (dv_pickL (xs := [.int 0, .int 1, .int 999999936, .int 949019055]) (R := fun v => v ∈ [V.int 0, .int 1, .int 999999936, .int 949019055]) rfl (fun H1 _ _ => el_lst (by walk_at "ea") (by decide)) (fun l H1 _ _ hl h => ⟨l, _, rfl, hl, sq_of h, by decide, by decide, rfl⟩)).mono fun v hv => ?_
      simp only [List.mem_cons, List.not_mem_nil, or_false] at hv
      rcases hv with rfl | rfl | rfl | rfl
      · exact ⟨0, rfl, by decide⟩
      · exact ⟨1, rfl, by decide⟩
      · exact ⟨999999936, rfl, by decide⟩
      · exact ⟨949019055, rfl, by decide⟩
    · exact (dv_roll (m := 999999937) rfl (fun H1 => ev_c) (by decide) (by decide)).mono fun v ⟨r, e, h0, h1⟩ => ⟨r.toNat, by rw [e, Int.toNat_of_nonneg h0], by omega⟩
def IdxV (v : V) : Prop := ∃ n : Nat, v = .int n ∧ n < 110000000000000000000000000000000000000000000000000000000000
theorem ok_index_drawn (T : Txt K mg w) : FnOk P w K mg base CX0 2 T.a_law_index_drawn T.fd_law_index_drawn ["dice"] (Draws (kOne IdxV)) := by
  have G_law_roll := ok_roll (P := P) (w := w) (base := base) T
  refine T.F_law_index_drawn.ok sc_law_index_drawn (fun vs H Q E h => ?_) (fun cdv A outer s H vs Q E hr h => ?_)
  · obtain ⟨p, _, ⟨rfl, _⟩, _⟩ := h; rfl
  · obtain ⟨p, _, ⟨rfl, rfl⟩, hd, q⟩ := h
    refine ⟨_, (pss_cons (ps_set (i := 1) sc_law_index_drawn.nd rfl (.inl rfl) (pe_call G_law_roll (hr.mono (by decide)) (by rfl) T.g_law_roll T.F_law_roll.kp T.b_law_roll .nil pass0 (pa_cons (pv 0) (pa_cons pe_int pa_nil))))
  (pss_cons (ps_if (pt_cmpR op_eq (pv 1) pe_int (nomark _)) (pss_one (ps_ret (pe_op op_add (pe_op op_mulW (pe_call G_law_roll (hr.mono (by decide)) (by rfl) T.g_law_roll T.F_law_roll.kp T.b_law_roll .nil pass0 (pa_cons (pv 0) (pa_cons (pe_op op_pow pe_int pe_int) pa_nil))) (pe_op op_pow pe_int pe_int)) (pe_op op_pow pe_int pe_int)))) pss_nil)
  (pss_one (ps_ret (pe_ifExp (pt_cmpR op_eq (pv 1) pe_int (nomark _)) (pe_call G_law_roll (hr.mono (by decide)) (by rfl) T.g_law_roll T.F_law_roll.kp T.b_law_roll .nil pass0 (pa_cons (pv 0) (pa_cons pe_int pa_nil))) (pe_call G_law_roll (hr.mono (by decide)) (by rfl) T.g_law_roll T.F_law_roll.kp T.b_law_roll .nil pass0 (pa_cons (pv 0) (pa_cons pe_int pa_nil)))))))), ?_⟩
    refine q_asgDv (dv_roll (p := p) (m := 6) (i := 0) rfl (fun H1 => ev_c) (by decide) (by decide)) hd fun v H1 hv e1 d1 => ?_
    obtain ⟨way, rfl, hw0, hw1⟩ := hv
    refine q_when (b := decide (way = 0)) ?_ (fun hc H2 e2 => ?_) (fun hc H2 e2 => ?_)
    · apply et_is
      walk_at "et"
      exact decide_eq_decide.mpr ⟨V.int.inj, fun h => by rw [h]⟩
    · refine (dv_op (p := p) (H := H2) (R := IdxV) (R1 := fun v => ∃ n : Nat, v = .int n ∧ n < 100000000000000000000000000000000000000000000000000000000000) (R2' := fun v => v = .int 10000000000000000000000000000000000000000000000000000000000) ?_ (dv_ev (fun H1 _ _ => by walk_at "pow") rfl) ?_) H2 (Exd.refl p H2) (d1.ex e2) _ fun v H3 hv e3 d3 => q v H3 hv ((e1.trans (Exd.of e2)).trans e3) d3
      · refine dv_op (R1 := fun v => ∃ r : Int, v = .int r ∧ 0 ≤ r ∧ r < 1000000000000000000000000000000) (R2' := fun v => v = .int 100000000000000000000000000000) (dv_roll (m := 1000000000000000000000000000000) rfl (fun H1 => by walk_at "pow") (by decide) (by decide)) (dv_ev (fun H1 _ _ => by walk_at "pow") rfl) ?_
        rintro x y H4 ⟨r, rfl, h0, h1⟩ rfl
        refine ⟨_, rv_I (wide_mul (a := 120) (b := 120) (by omega) (by decide) (by decide) (by decide) (by decide)), (r * 100000000000000000000000000000).toNat, by rw [Int.toNat_of_nonneg (by omega)], by omega⟩
      · rintro x y H4 ⟨n, rfl, h1⟩ rfl
        exact ⟨_, rv_I0, n + 10000000000000000000000000000000000000000000000000000000000, by rw [Int.natCast_add]; rfl, by omega⟩
    · refine (dv_if (p := p) (H := H2) (R := IdxV) ?_ ?_ ?_) H2 (Exd.refl p H2) (d1.ex e2) _ fun v H3 hv e3 d3 => q v H3 hv ((e1.trans (Exd.of e2)).trans e3) d3
      · exact dvt_eq (dv_var rfl ⟨way, rfl⟩)
      · exact (dv_roll (m := 999999937) rfl (fun H1 => ev_c) (by decide) (by decide)).mono fun v ⟨r, e, h0, h1⟩ => ⟨r.toNat, by rw [e, Int.toNat_of_nonneg h0], by omega⟩
      · exact (dv_roll (m := 16) rfl (fun H1 => ev_c) (by decide) (by decide)).mono fun v ⟨r, e, h0, h1⟩ => ⟨r.toNat, by rw [e, Int.toNat_of_nonneg h0], by omega⟩
def natsV (ts : List Nat) : List V := ts.map fun t : Nat => V.int t
def kLawSpot (K : PySem.W.Frag) (vs : List V) (H : Hp) (z : V) : Prop := ∃ (l : Nat) (a : Addr) (ts : List Nat), vs = [.int l, .ref a] ∧ l < 999999937 ∧ SqT K H a (natsV ts) ∧ z = .int (foldN l ts : Nat)
theorem ok_law_spot (T : Txt K mg w) : FnOk P w K mg base CX0 2 T.a_law_spot T.fd_law_spot ["luck", "told"] (Pure (kLawSpot K)) := by
  have G_law_lk_stirred := ok_lk (P := P) (w := w) (base := base) T
  refine T.F_law_spot.ok sc_law_spot (fun vs H Q E h => ?_) (fun cdv A outer s H vs Q E hr h => ?_)
  · obtain ⟨_, ⟨_, _, _, rfl, _⟩, _⟩ := h; rfl
  · obtain ⟨_, ⟨l, a, ts, rfl, hl, hT, rfl⟩, q⟩ := h
    refine ⟨_, (pss_cons (ps_set (i := 2) sc_law_spot.nd rfl (.inl rfl) (pe_call G_law_lk_stirred (hr.mono (by decide)) (by rfl) T.g_law_lk_stirred T.F_law_lk_stirred.kp T.b_law_lk_stirred .nil pass0 (pa_cons (pv 0) pa_nil)))
  (pss_cons (ps_for PassesOwn.never rfl (pi_tup (pv 1)) (pg_name (i := 3) sc_law_spot.nd rfl (.inl rfl)) (pss_one (ps_set (i := 2) sc_law_spot.nd rfl (.inl rfl) (pe_call G_law_lk_stirred (hr.mono (by decide)) (by rfl) T.g_law_lk_stirred T.F_law_lk_stirred.kp T.b_law_lk_stirred .nil pass0 (pa_cons (pe_op op_mod (pe_callTy c_int (by rfl) T.z_int (by decide +kernel) (pa_cons (pe_op op_add (pv 2) (pv 3)) pa_nil)) pe_int) pa_nil)))))
  (pss_one (ps_ret (pv 2))))), ?_⟩
    refine q_asg (v := .int (Pm.stirN l : Nat)) (ev_callP (by walk_at "ea") fun H1 _ => ⟨l, rfl, hl, rfl⟩) fun H1 e1 => ?_
    refine q_forT (ev_var rfl) (ex_t e1 hT) (fun i σ' H' => Ex H H' ∧ ∃ z, σ' = [some (.int l), some (.ref a), some (.int (foldN l (ts.take i) : Nat)), z]) (fun H2 e2 => ⟨e1.trans e2, none, rfl⟩) (fun i σ' H' _ h => ex_t h.1 hT) ?_ ?_
    · rintro i x σ' H' hx ⟨e', z, rfl⟩
      obtain ⟨n, hn, rfl⟩ : ∃ n : Nat, ts[i]? = some n ∧ x = .int n := by
        unfold natsV at hx
        rw [List.getElem?_map] at hx
        cases h : ts[i]? with
        | none => rw [h] at hx; cases hx
        | some n => rw [h] at hx; exact ⟨n, rfl, (Option.some.inj hx).symm⟩
      refine s_asg (v := .int (Pm.stirN ((foldN l (ts.take i) + n) % Pm.p) : Nat)) (ev_callP (vs := [.int ((foldN l (ts.take i) + n) % Pm.p : Nat)]) ?_ fun H1 _ => ⟨_, rfl, Nat.mod_lt _ (by decide), rfl⟩) fun H2 e2 => ⟨e'.trans e2, some (.int n), ?_⟩
      · refine ea_cons (ev_is (by walk_at "ev") ?_) ea_nil
        rw [add_cast]
      · rw [fold_take hn]
        rfl
    · rintro σ' H' ⟨e', z, rfl⟩
      have e : ts.take (natsV ts).length = ts := List.take_of_length_le (by unfold natsV; rw [List.length_map]; omega)
      rw [e]
      apply s_ret
      case h => walk_at "ev"
      exact fun H2 e2 => q H2 (e'.trans e2)
def kTrue1 (vs : List V) (_ : Hp) (z : V) : Prop := ∃ n : Nat, vs = [.int n] ∧ n < 999999937 ∧ z = .bl true
theorem ok_stirred_right (T : Txt K mg w) : FnOk P w K mg base CX0 6 T.a_law_stirred_right T.fd_law_stirred_right ["luck"] (Pure kTrue1) := by
  have G_law_lk_stirred := ok_lk (P := P) (w := w) (base := base) T
  have G_stirred := ok_stirred (P := P) (w := w) (base := base) T
  have G_unstirred := ok_unstirred (P := P) (w := w) (base := base) T
  refine T.F_law_stirred_right.ok sc_law_stirred_right (fun vs H Q E h => ?_) (fun cdv A outer s H vs Q E hr h => ?_)
  · obtain ⟨_, ⟨_, rfl, _⟩, _⟩ := h; rfl
  · obtain ⟨_, ⟨n, rfl, hn, rfl⟩, q⟩ := h
    refine ⟨_, (pss_cons (ps_par (i := 1) (j := 2) (by rfl) sc_law_stirred_right.nd rfl rfl (by decide) rfl rfl (pa_cons (pe_call G_stirred (hr.mono (by decide)) (by rfl) T.g_stirred T.F_stirred.kp T.b_stirred .nil pass0 (pa_cons (pv 0) pa_nil)) (pa_cons (pe_call G_unstirred (hr.mono (by decide)) (by rfl) T.g_unstirred T.F_unstirred.kp T.b_unstirred .nil pass0 (pa_cons (pv 0) pa_nil)) pa_nil)) (by rfl))
  (pss_one (ps_ret (pe_and (pe_cmpR op_eq (pv 1) (pe_call G_law_lk_stirred (hr.mono (by decide)) (by rfl) T.g_law_lk_stirred T.F_law_lk_stirred.kp T.b_law_lk_stirred .nil pass0 (pa_cons (pv 0) pa_nil)) (nomark _)) (pe_and (pe_cmpR op_eq (pe_call G_unstirred (hr.mono (by decide)) (by rfl) T.g_unstirred T.F_unstirred.kp T.b_unstirred .nil pass0 (pa_cons (pv 1) pa_nil)) (pv 0) (nomark _)) (pe_and (pe_chain op_le op_lt pe_int (pv 2) pe_int) (pe_one (pe_cmpR op_eq (pe_call G_law_lk_stirred (hr.mono (by decide)) (by rfl) T.g_law_lk_stirred T.F_law_lk_stirred.kp T.b_law_lk_stirred .nil pass0 (pa_cons (pv 2) pa_nil)) (pv 0) (nomark _))))))))), ?_⟩
    refine q_par (v1 := .int (Pm.stirN n : Nat)) (v2 := .int (Pm.unstirN n : Nat)) (ea_cons (ev_callP (by walk_at "ea") fun H1 _ => ⟨n, rfl, hn, rfl⟩) (ea_cons (ev_callP (by walk_at "ea") fun H1 _ => ⟨n, rfl, hn, rfl⟩) ea_nil)) fun H1 e1 => ?_
    refine s_ret (v := .bl true) ?_ fun H2 e2 => q H2 (e1.trans e2)
    have hu := unstir_lt n
    refine ev_andV (a := true) (b := true) ?_ fun _ => ev_andV (a := true) (b := true) ?_ fun _ => ev_andV (a := true) (b := true) ?_ fun _ => ?_
    · refine ev_is (ev_op (ev_var rfl) (y := .int (Pm.stirN n : Nat)) (ev_callP (by walk_at "ea") fun H1 _ => ⟨n, rfl, hn, rfl⟩) (rv_eq rfl)) ?_
      rw [decide_eq_true rfl]
    · refine ev_is (ev_op (x := .int (Pm.unstirN (Pm.stirN n) : Nat)) (ev_callP (by walk_at "ea") fun H1 _ => ⟨_, rfl, stir_lt n, rfl⟩) (ev_var rfl) (rv_eq rfl)) ?_
      rw [Pm.unstir_stir hn, decide_eq_true rfl]
    · apply ev_is
      walk_at "ev"
      rw [decide_eq_true (by omega), decide_eq_true (by omega)]
      rfl
    · refine ev_is (ev_op (x := .int (Pm.stirN (Pm.unstirN n) : Nat)) (ev_callP (by walk_at "ea") fun H1 _ => ⟨_, rfl, unstir_lt n, rfl⟩) (ev_var rfl) (rv_eq rfl)) ?_
      rw [Pm.stir_unstir hn, decide_eq_true rfl]
end
end Kz
set_option Elab.async false
set_option linter.all false
set_option maxRecDepth 100000
set_option maxHeartbeats 4000000
set_option exponentiation.threshold 500
namespace Kz
open PySem PySem.Spec PyProof.Rows L2 Evl Vr
local macro_rules | `(tactic| walk_at "sc") => `(tactic| first | (with_reducible assumption) | (with_reducible exact sc_mul (by omega)) | (with_reducible exact sc_mulr (by omega)) | (with_reducible exact sc_div (by omega) (by decide)) | (show (0 : Int) < _; omega) | (show _ ≠ (0 : Int); omega) | (with_reducible rfl) | decide)
local macro_rules | `(tactic| walk_at "sq") => `(tactic| first | assumption | exact sq_of (by assumption) | exact st_of (by assumption))
local macro_rules | `(tactic| walk_at "pl") => `(tactic| first | assumption | exact pl_int | exact pl_bl | exact pl_str | exact pl_non | exact pl_lst (by assumption) | exact pl_tup (by assumption) | exact pl_dK (by assumption))
local macro_rules | `(tactic| walk_at "rv") => `(tactic| first
  | with_reducible exact rv_I0
  | with_reducible exact ru_neg
  | ((with_reducible apply rv_I); walk_at "sc")
  | ((with_reducible apply rv_ixL); walk_at "sq"; first | rfl | assumption)
  | ((with_reducible apply rv_ixT); walk_at "sq"; first | rfl | assumption)
  | ((with_reducible apply rv_eq); rfl) | ((with_reducible apply rv_ne); rfl))
local macro_rules | `(tactic| walk_at "rc") => `(tactic| first
  | with_reducible exact rc_I1 | with_reducible exact rc_B1 | with_reducible exact rc_I2 | ((with_reducible apply rc_repr); walk_at "sc") | ((with_reducible apply rc_lenL); walk_at "sq")
  | ((with_reducible apply rc_isiInt); walk_at "pl") | ((with_reducible apply rc_isiBool); walk_at "pl"))
local macro_rules | `(tactic| walk_at "ea") => `(tactic| first
  | with_reducible exact ea_nil | ((with_reducible apply ea_cons); walk_at "ev"; walk_at "ea"))
local macro_rules | `(tactic| walk_at "pow") => `(tactic| first
  | with_reducible exact ev_pow (a := 10) (b := 9) (c := 1000000000) (by decide +kernel) (by decide +kernel)
  | with_reducible exact ev_pow (a := 10) (b := 10) (c := 10000000000) (by decide +kernel) (by decide +kernel)
  | with_reducible exact ev_pow (a := 10) (b := 12) (c := 1000000000000) (by decide +kernel) (by decide +kernel)
  | with_reducible exact ev_pow (a := 10) (b := 17) (c := 100000000000000000) (by decide +kernel) (by decide +kernel)
  | with_reducible exact ev_pow (a := 10) (b := 20) (c := 100000000000000000000) (by decide +kernel) (by decide +kernel)
  | with_reducible exact ev_pow (a := 10) (b := 29) (c := 100000000000000000000000000000) (by decide +kernel) (by decide +kernel)
  | with_reducible exact ev_pow (a := 10) (b := 30) (c := 1000000000000000000000000000000) (by decide +kernel) (by decide +kernel)
  | with_reducible exact ev_pow (a := 10) (b := 40) (c := 10000000000000000000000000000000000000000) (by decide +kernel) (by decide +kernel)
  | with_reducible exact ev_pow (a := 10) (b := 57) (c := 1000000000000000000000000000000000000000000000000000000000) (by decide +kernel) (by decide +kernel)
  | with_reducible exact ev_pow (a := 10) (b := 58) (c := 10000000000000000000000000000000000000000000000000000000000) (by decide +kernel) (by decide +kernel)
  | with_reducible exact ev_pow (a := 10) (b := 59) (c := 100000000000000000000000000000000000000000000000000000000000) (by decide +kernel) (by decide +kernel)
  | with_reducible exact ev_pow (a := 10) (b := 60) (c := 1000000000000000000000000000000000000000000000000000000000000) (by decide +kernel) (by decide +kernel))
local macro_rules | `(tactic| walk_at "call") => `(tactic| (intro H9 e9; first | exact ⟨_, rfl, rfl⟩ | exact ⟨_, _, rfl, rfl⟩ | exact ⟨_, _, _, rfl, rfl⟩ | exact ⟨_, rfl, by walk_at "pl", rfl⟩ | (refine ⟨_, _, _, rfl, ?_, rfl⟩; first | exact Plain.ex e9 (by assumption) | walk_at "pl") | (refine ⟨_, rfl, ?_, rfl⟩; first | exact Plain.ex e9 (by assumption) | walk_at "pl")))
local macro_rules | `(tactic| walk_at "ev") => `(tactic| first
  | with_reducible exact ev_c
  | exact ev_var rfl
  | walk_at "pow"
  | ((with_reducible apply ev_op); walk_at "ev"; walk_at "ev"; walk_at "rv")
  | ((with_reducible apply ev_un); walk_at "ev"; walk_at "rv")
  | ((with_reducible apply ev_cb); walk_at "ea"; walk_at "rc")
  | ((with_reducible apply ev_callP); walk_at "ea"; walk_at "call")
  | ((with_reducible apply ev_chain); walk_at "ev"; walk_at "ev"; walk_at "rv"; walk_at "ev"; walk_at "rv")
  | ((with_reducible apply ev_andV); walk_at "ev"; intro _; walk_at "ev")
  | ((with_reducible apply ev_orV); walk_at "ev"; intro _; walk_at "ev")
  | ((with_reducible apply ev_ite); walk_at "et"; intro _; walk_at "ev"; intro _; walk_at "ev")
  | ((with_reducible apply ev_notV); walk_at "ev"))
local macro_rules | `(tactic| walk_at "et") => `(tactic| first
  | ((with_reducible apply et_test); walk_at "ev")
  | ((with_reducible apply et_B); walk_at "ev")
  | ((with_reducible apply et_and); walk_at "et"; intro _; walk_at "et")
  | ((with_reducible apply et_or); walk_at "et"; intro _; walk_at "et")
  | ((with_reducible apply et_not); walk_at "et"))
/-! ### spots that differ -/
theorem add_ne {f t d : Nat} (hf : f < 999999937) (h0 : 0 < d) (h1 : d < 999999937) : (f + (t + d)) % Pm.p ≠ (f + t) % Pm.p := by
  show (f + (t + d)) % 999999937 ≠ (f + t) % 999999937
  omega
theorem stir_ne {x y : Nat} (hx : x < 999999937) (hy : y < 999999937) (h : x ≠ y) : Pm.stirN x ≠ Pm.stirN y := fun e => h (Pm.stir_inj hx hy e)
theorem mod_ne {x y t : Nat} (hx : x < 999999937) (hy : y < 999999937) (h : x ≠ y) : (x + t) % Pm.p ≠ (y + t) % Pm.p := by
  show (x + t) % 999999937 ≠ (y + t) % 999999937
  omega
theorem ml (x : Nat) : x % Pm.p < 999999937 := Nat.mod_lt _ (by decide)
theorem spot_ne_l {l m e t n : Nat} (hl : l < 999999937) (hm : m < 999999937) (h : l ≠ m) : spotN m e t n ≠ spotN l e t n := by
  unfold spotN runN
  exact stir_ne (ml _) (ml _) (mod_ne (stir_lt _) (stir_lt _) (stir_ne (ml _) (ml _) (mod_ne (stir_lt _) (stir_lt _) (stir_ne (ml _) (ml _) (mod_ne (stir_lt _) (stir_lt _) (stir_ne hm hl (Ne.symm h)))))))
theorem spot_ne_e {l e t n d : Nat} (h0 : 0 < d) (h1 : d < 999999937) : spotN l (e + d) t n ≠ spotN l e t n := by
  unfold spotN runN
  exact stir_ne (ml _) (ml _) (mod_ne (stir_lt _) (stir_lt _) (stir_ne (ml _) (ml _) (mod_ne (stir_lt _) (stir_lt _) (stir_ne (ml _) (ml _) (add_ne (stir_lt _) h0 h1)))))
theorem spot_ne_t {l e t n d : Nat} (h0 : 0 < d) (h1 : d < 999999937) : spotN l e (t + d) n ≠ spotN l e t n := by
  unfold spotN runN
  exact stir_ne (ml _) (ml _) (mod_ne (stir_lt _) (stir_lt _) (stir_ne (ml _) (ml _) (add_ne (stir_lt _) h0 h1)))
theorem spot_ne_n {l e t n d : Nat} (h0 : 0 < d) (h1 : d < 999999937) : spotN l e t (n + d) ≠ spotN l e t n := by
  unfold spotN
  exact stir_ne (ml _) (ml _) (add_ne (run_lt _ _ _) h0 h1)
theorem fold3a (l e t n : Nat) : foldN l [e, t, n] = Pm.stirN ((Pm.stirN ((Pm.stirN ((Pm.stirN l + e) % Pm.p) + t) % Pm.p) + n) % Pm.p) := by
  unfold foldN
  rw [List.foldl_cons, List.foldl_cons, List.foldl_cons, List.foldl_nil]
theorem fold3b (l e t n : Nat) : spotN l e t n = Pm.stirN ((Pm.stirN ((Pm.stirN ((Pm.stirN l + e) % Pm.p) + t) % Pm.p) + n) % Pm.p) := by
  unfold spotN runN
  rfl
theorem fold3 (l e t n : Nat) : foldN l [e, t, n] = spotN l e t n := (fold3a l e t n).trans (fold3b l e t n).symm
theorem turn_lt (l e t v : Nat) : turnN l e t v < 999999937 := Nat.mod_lt _ (by decide)
theorem spot_turn {l e t v : Nat} (hv : v < 999999937) : spotN l e t (turnN l e t v) = v := by
  have h1 := run_lt l e t
  have h2 := unstir_lt v
  unfold spotN turnN
  have e1 : (runN l e t + (Pm.unstirN v + (Pm.p - runN l e t)) % Pm.p) % Pm.p = Pm.unstirN v := by
    show (_ + (_ + (999999937 - _)) % 999999937) % 999999937 = _
    omega
  rw [e1, Pm.stir_unstir hv]
theorem turn_spot {l e t n : Nat} : turnN l e t (spotN l e t n) = n % Pm.p := by
  have h1 := run_lt l e t
  unfold turnN spotN
  rw [Pm.unstir_stir (ml _)]
  show ((_ + n) % 999999937 + (999999937 - _)) % 999999937 = n % 999999937
  omega
theorem draw_div {l e t n a b : Nat} (hb : 0 < b) : drawN l e t n (a * b) / b = drawN l e t n a := by
  unfold drawN
  rw [Nat.div_div_eq_div_mul, ← Nat.mul_assoc, Nat.mul_comm 999999937 b, Nat.mul_comm (spotN l e t n * a) b, Nat.mul_div_mul_left _ _ hb]
section
variable {P : Program} {w : World} {K : PySem.W.Frag} {mg : Str → Option Value} {base : Heap}
theorem at3 {e t n : Nat} : ∀ i : Nat, i < 3 → ∃ x : Nat, atI (natsV [e, t, n]) (i : Int) = some (.int x) := fun i hi => by
  match i, hi with
  | 0, _ => exact ⟨e, rfl⟩
  | 1, _ => exact ⟨t, rfl⟩
  | 2, _ => exact ⟨n, rfl⟩
def kTurnRight (K : PySem.W.Frag) (vs : List V) (H : Hp) (z : V) : Prop := ∃ (l g : Nat) (a : Addr) (e t n : Nat), vs = [.int l, .ref a, .int g] ∧ l < 999999937 ∧ g < 999999937 ∧ SqT K H a (natsV [e, t, n]) ∧ Idx e ∧ Idx t ∧ z = .bl true
theorem ok_turn_right (T : Txt K mg w) : FnOk P w K mg base CX0 6 T.a_law_turn_right T.fd_law_turn_right ["luck", "told", "goal"] (Pure (kTurnRight K)) := by
  have G_turn_of := ok_turn_of (P := P) (w := w) (base := base) T
  have G_law_spot := ok_law_spot (P := P) (w := w) (base := base) T
  refine T.F_law_turn_right.ok sc_law_turn_right (fun vs H Q E h => ?_) (fun cdv A outer s H vs Q E hr h => ?_)
  · obtain ⟨_, ⟨_, _, _, _, _, _, rfl, _⟩, _⟩ := h; rfl
  · obtain ⟨_, ⟨l, g, a, e, t, n, rfl, hl, hg, hT, he, ht, rfl⟩, q⟩ := h
    refine ⟨_, (pss_cons (ps_set (i := 3) sc_law_turn_right.nd rfl (.inl rfl) (pe_call G_turn_of (hr.mono (by decide)) (by rfl) T.g_turn_of T.F_turn_of.kp T.b_turn_of .nil pass0 (pa_cons (pv 0) (pa_cons (pe_ix ix_tup (pv 1) pe_int (fun _ _ => rfl)) (pa_cons (pe_ix ix_tup (pv 1) pe_int (fun _ _ => rfl)) (pa_cons (pv 2) pa_nil))))))
  (pss_one (ps_ret (pe_and (pe_chain op_le op_lt pe_int (pv 3) pe_int) (pe_one (pe_cmpR op_eq (pe_call G_law_spot (hr.mono (by decide)) (by rfl) T.g_law_spot T.F_law_spot.kp T.b_law_spot .nil pass0 (pa_cons (pv 0) (pa_cons (pe_tup (pa_cons (pe_ix ix_tup (pv 1) pe_int (fun _ _ => rfl)) (pa_cons (pe_ix ix_tup (pv 1) pe_int (fun _ _ => rfl)) (pa_cons (pv 3) pa_nil)))) pa_nil))) (pv 2) (nomark _))))))), ?_⟩
    have i0 : atI (natsV [e, t, n]) 0 = some (.int e) := rfl
    have i1 : atI (natsV [e, t, n]) 1 = some (.int t) := rfl
    refine q_asg (v := .int (turnN l e t g : Nat)) (ev_callP (vs := [.int l, .int e, .int t, .int g]) (by walk_at "ea") fun H1 _ => ⟨l, e, t, g, rfl, hl, he, ht, hg, rfl⟩) fun H1 e1 => ?_
    have hT := ex_t e1 hT
    have hlt := turn_lt l e t g
    refine s_ret (v := .bl true) (ev_andV (a := true) (b := true) ?_ fun _ => ?_) fun H2 e2 => q H2 (e1.trans e2)
    · apply ev_is
      walk_at "ev"
      rw [decide_eq_true (by omega), decide_eq_true (by omega)]
      rfl
    · refine ev_is (ev_op (x := .int (spotN l e t (turnN l e t g) : Nat)) (ev_callU (xs := [V.int e, V.int t, V.int (turnN l e t g : Nat)]) (ev_var rfl) (eu_tup (by walk_at "ea") (by show 3 ≤ 100000; decide)) fun p H2 e2 h2 => ⟨l, p, [e, t, turnN l e t g], rfl, hl, st_of h2, by rw [fold3]⟩) (ev_var rfl) (rv_eq rfl)) ?_
      rw [spot_turn hg, decide_eq_true rfl]
def kDrawsRight (K : PySem.W.Frag) (vs : List V) (H : Hp) (p : Addr) (R : V → Prop) : Prop := ∃ (l : Nat) (a : Addr) (e t n : Nat), vs = [.ref p, .int l, .ref a] ∧ a ≠ p ∧ l < 999999937 ∧ SqT K H a (natsV [e, t, n]) ∧ Idx e ∧ Idx t ∧ Idx n ∧ R = fun v => v = .bl true
theorem Exd.t {p a : Addr} {xs : List V} {H H' : Hp} (e : Exd p H H') (n : a ≠ p) (h : SqT K H a xs) : SqT K H' a xs := by
  rcases h with (h | ⟨o, h⟩) | h
  · exact .inl (.inl (e _ _ n h))
  · exact .inl (.inr ⟨o, e _ _ n h⟩)
  · exact .inr h
theorem ok_draws_right (T : Txt K mg w) : FnOk P w K mg base CX0 6 T.a_law_draws_right T.fd_law_draws_right ["dice", "luck", "told"] (Draws (kDrawsRight K)) := by
  have G_law_roll := ok_roll (P := P) (w := w) (base := base) T
  have G_drawn := ok_drawn (P := P) (w := w) (base := base) T
  have G_law_spot := ok_law_spot (P := P) (w := w) (base := base) T
  refine T.F_law_draws_right.ok sc_law_draws_right (fun vs H Q E h => ?_) (fun cdv A outer s H vs Q E hr h => ?_)
  · obtain ⟨_, _, ⟨_, _, _, _, _, rfl, _⟩, _⟩ := h; rfl
  · obtain ⟨p, _, ⟨l, a, e, t, n, rfl, hap, hl, hT, he, ht, hn, rfl⟩, hd, q⟩ := h
    refine ⟨_, (pss_cons (ps_par (i := 3) (j := 4) (by rfl) sc_law_draws_right.nd rfl rfl (by decide) rfl rfl (pa_cons (pe_op op_add pe_int (pe_call G_law_roll (hr.mono (by decide)) (by rfl) T.g_law_roll T.F_law_roll.kp T.b_law_roll .nil pass0 (pa_cons (pv 0) (pa_cons pe_int pa_nil)))) (pa_cons (pe_op op_add pe_int (pe_call G_law_roll (hr.mono (by decide)) (by rfl) T.g_law_roll T.F_law_roll.kp T.b_law_roll .nil pass0 (pa_cons (pv 0) (pa_cons pe_int pa_nil)))) pa_nil)) (by rfl))
  (pss_cons (ps_for PassesOwn.never rfl (pi_tup (pe_tup (pa_cons (pv 3) (pa_cons (pv 4) (pa_cons (pe_op op_mul (pv 3) (pv 4)) (pa_cons pe_int (pa_cons pe_int pa_nil))))))) (pg_name (i := 5) sc_law_draws_right.nd rfl (.inl rfl)) (pss_one (ps_if (pt_cmpR op_ne (pe_call G_drawn (hr.mono (by decide)) (by rfl) T.g_drawn T.F_drawn.kp T.b_drawn .nil pass0 (pa_cons (pv 1) (pa_cons (pe_ix ix_tup (pv 2) pe_int (fun _ _ => rfl)) (pa_cons (pe_ix ix_tup (pv 2) pe_int (fun _ _ => rfl)) (pa_cons (pe_ix ix_tup (pv 2) pe_int (fun _ _ => rfl)) (pa_cons (pv 5) pa_nil)))))) (pe_op op_fdivW (pe_op op_mul (pe_call G_law_spot (hr.mono (by decide)) (by rfl) T.g_law_spot T.F_law_spot.kp T.b_law_spot .nil pass0 (pa_cons (pv 1) (pa_cons (pv 2) pa_nil))) (pv 5)) pe_int) (nomark _)) (pss_one (ps_ret pe_bl)) pss_nil)))
  (pss_one (ps_ret (pe_cmpR op_eq (pe_op op_fdivW (pe_call G_drawn (hr.mono (by decide)) (by rfl) T.g_drawn T.F_drawn.kp T.b_drawn .nil pass0 (pa_cons (pv 1) (pa_cons (pe_ix ix_tup (pv 2) pe_int (fun _ _ => rfl)) (pa_cons (pe_ix ix_tup (pv 2) pe_int (fun _ _ => rfl)) (pa_cons (pe_ix ix_tup (pv 2) pe_int (fun _ _ => rfl)) (pa_cons (pe_op op_mul (pv 3) (pv 4)) pa_nil)))))) (pv 4)) (pe_call G_drawn (hr.mono (by decide)) (by rfl) T.g_drawn T.F_drawn.kp T.b_drawn .nil pass0 (pa_cons (pv 1) (pa_cons (pe_ix ix_tup (pv 2) pe_int (fun _ _ => rfl)) (pa_cons (pe_ix ix_tup (pv 2) pe_int (fun _ _ => rfl)) (pa_cons (pe_ix ix_tup (pv 2) pe_int (fun _ _ => rfl)) (pa_cons (pv 3) pa_nil)))))) (nomark _)))))), ?_⟩
    have one : ∀ {m : Int} {te : TE} {σ : L2.St} {H : Hp}, Dv p te σ H (fun v => ∃ r : Int, v = .int r ∧ 0 ≤ r ∧ r < m) → Dv p (tOp (rI0 fun i j => .int (i + j)) (tC (.int 1)) te) σ H (fun v => ∃ r : Nat, v = .int r ∧ 1 ≤ r ∧ r ≤ m.toNat) := fun h =>
      dv_op (R1 := fun v => v = .int 1) (dv_c rfl) h fun x y H1 hx hy => by
        obtain ⟨r, rfl, h0, h1⟩ := hy
        subst hx
        exact ⟨_, rv_I0, (1 + r).toNat, by rw [Int.toNat_of_nonneg (by omega)], by omega, by omega⟩
    refine q_parDv (one (dv_roll (m := 30) rfl (fun H1 => ev_c) (by decide) (by decide))) (one (dv_roll (m := 33) rfl (fun H1 => ev_c) (by decide) (by decide))) hd fun v1 v2 H1 hv1 hv2 e1 d1 => ?_
    obtain ⟨less, rfl, hl1, hl2⟩ := hv1
    obtain ⟨more, rfl, hm1, hm2⟩ := hv2
    have hl2 : less ≤ 30 := hl2
    have hm2 : more ≤ 33 := hm2
    have hT := Exd.t e1 hap hT
    have hlm : 1 ≤ less * more ∧ less * more ≤ 30 * 33 := ⟨Nat.mul_pos hl1 hm1, Nat.mul_le_mul hl2 hm2⟩
    have cm : CMul (less : Int) more := .inl (by omega)
    have hx : ∀ (i : Nat) (x : V), ([V.int less, V.int more, V.int ((less : Int) * more), V.int 1, V.int 1000] : List V)[i]? = some x → ∃ s : Nat, x = .int s ∧ 1 ≤ s ∧ s ≤ 1000 := fun i x h => by
      match i, h with
      | 0, h => exact ⟨less, (Option.some.inj h).symm, by omega, by omega⟩
      | 1, h => exact ⟨more, (Option.some.inj h).symm, by omega, by omega⟩
      | 2, h => exact ⟨less * more, by rw [Int.natCast_mul]; exact (Option.some.inj h).symm, by omega, by omega⟩
      | 3, h => exact ⟨1, (Option.some.inj h).symm, by omega, by omega⟩
      | 4, h => exact ⟨1000, (Option.some.inj h).symm, by omega, by omega⟩
      | i + 5, h => simp at h
    have i0 : atI (natsV [e, t, n]) 0 = some (.int e) := rfl
    have i1 : atI (natsV [e, t, n]) 1 = some (.int t) := rfl
    have i2 : atI (natsV [e, t, n]) 2 = some (.int n) := rfl
    have hfold := fold3 l e t n
    have hsp := spot_lt l e t n
    refine q_forNU (xs := [V.int less, V.int more, V.int ((less : Int) * more), V.int 1, V.int 1000]) (eu_tup (by walk_at "ea") (by show 5 ≤ 100000; decide)) (fun b i σ' H' => Ex H1 H' ∧ H' b = some (.tup [V.int less, V.int more, V.int ((less : Int) * more), V.int 1, V.int 1000]) ∧ ∃ z, σ' = [some (.ref p), some (.int l), some (.ref a), some (.int less), some (.int more), z]) ?_ ?_ ?_ ?_
    · exact fun b H2 _ e2 h2 => ⟨e2, h2, none, rfl⟩
    · exact fun b i σ' H' _ h => st_of h.2.1
    · rintro b i x σ' H' hi ⟨e', hb, z, rfl⟩
      obtain ⟨sd, rfl, hs1, hs2⟩ := hx i x hi
      have hT := ex_t e' hT
      show tIfS _ _ _ _ [some (.ref p), some (.int l), some (.ref a), some (.int less), some (.int more), some (.int sd)] H'
      have cm2 : CMul (spotN l e t n : Nat) (sd : Int) := .inl (by omega)
      refine s_when (b := false) ?_ (fun h => by cases h) (fun _ H3 e3 => ⟨e'.trans e3, e3 _ _ hb, _, rfl⟩)
      refine et_is (et_test (ev_op (x := .int (drawN l e t n sd : Nat)) (y := .int ((spotN l e t n : Nat) * (sd : Int) / 999999937)) (ev_callP (vs := [.int l, .int e, .int t, .int n, .int sd]) (by walk_at "ea") fun H3 _ => ⟨l, e, t, n, sd, rfl, hl, he, ht, hn, hs1, hs2, rfl⟩)
        (ev_op (ev_op (x := .int (spotN l e t n : Nat)) (ev_callP (vs := [.int l, .ref a]) (by walk_at "ea") fun H3 e3 => ⟨l, a, [e, t, n], rfl, hl, ex_t e3 hT, by rw [hfold]⟩) (ev_var rfl) (rv_I cm2)) ev_c (rv_I ⟨by decide, by decide⟩)) (rv_ne rfl))) ?_
      have e2 : V.int (drawN l e t n sd : Nat) = V.int ((spotN l e t n : Nat) * (sd : Int) / 999999937) := by
        unfold drawN
        rw [Int.natCast_ediv, Int.natCast_mul]
        rfl
      rw [decide_eq_true e2]
      rfl
    · rintro b σ' H' ⟨e', _, z, rfl⟩
      have hT := ex_t e' hT
      refine s_ret (v := .bl true) ?_ fun H3 e3 => q _ H3 rfl (e1.trans (Exd.of (e'.trans e3))) (d1.ex (e'.trans e3))
      refine ev_is (ev_op (x := .int ((drawN l e t n (less * more) : Nat) / (more : Int))) (y := .int (drawN l e t n less : Nat)) (ev_op (ev_callP (vs := [.int l, .int e, .int t, .int n, .int ((less : Int) * more)]) (by walk_at "ea") fun H3 _ => ⟨l, e, t, n, less * more, by rw [Int.natCast_mul], hl, he, ht, hn, by omega, by omega, rfl⟩) (ev_var rfl) (rv_I (wide_div (b := 10) (by omega) (by omega) (by decide) (by decide))))
        (ev_callP (vs := [.int l, .int e, .int t, .int n, .int less]) (by walk_at "ea") fun H3 _ => ⟨l, e, t, n, less, rfl, hl, he, ht, hn, by omega, by omega, rfl⟩) (rv_eq rfl)) ?_
      have e2 : V.int ((drawN l e t n (less * more) : Nat) / (more : Int)) = V.int (drawN l e t n less : Nat) := by
        rw [← Int.natCast_ediv, draw_div hm1]
      rw [decide_eq_true e2]
end
end Kz
set_option Elab.async false
set_option linter.all false
set_option maxRecDepth 100000
set_option maxHeartbeats 4000000
set_option exponentiation.threshold 500
namespace Kz
open PySem PySem.Spec PyProof.Rows L2 Evl Vr
local macro_rules | `(tactic| walk_at "sc") => `(tactic| first | (with_reducible assumption) | (with_reducible exact sc_mul (by omega)) | (with_reducible exact sc_mulr (by omega)) | (with_reducible exact sc_div (by omega) (by decide)) | (show (0 : Int) < _; omega) | (show _ ≠ (0 : Int); omega) | (with_reducible rfl) | decide)
local macro_rules | `(tactic| walk_at "sq") => `(tactic| first | assumption | exact sq_of (by assumption) | exact st_of (by assumption))
local macro_rules | `(tactic| walk_at "pl") => `(tactic| first | assumption | exact pl_int | exact pl_bl | exact pl_str | exact pl_non | exact pl_lst (by assumption) | exact pl_tup (by assumption) | exact pl_dK (by assumption))
local macro_rules | `(tactic| walk_at "rv") => `(tactic| first
  | with_reducible exact rv_I0
  | with_reducible exact ru_neg
  | ((with_reducible apply rv_I); walk_at "sc")
  | ((with_reducible apply rv_ixL); walk_at "sq"; first | rfl | assumption)
  | ((with_reducible apply rv_ixT); walk_at "sq"; first | rfl | assumption)
  | ((with_reducible apply rv_eq); rfl) | ((with_reducible apply rv_ne); rfl))
local macro_rules | `(tactic| walk_at "rc") => `(tactic| first
  | with_reducible exact rc_I1 | with_reducible exact rc_B1 | with_reducible exact rc_I2 | ((with_reducible apply rc_repr); walk_at "sc") | ((with_reducible apply rc_lenL); walk_at "sq")
  | ((with_reducible apply rc_isiInt); walk_at "pl") | ((with_reducible apply rc_isiBool); walk_at "pl"))
local macro_rules | `(tactic| walk_at "ea") => `(tactic| first
  | with_reducible exact ea_nil | ((with_reducible apply ea_cons); walk_at "ev"; walk_at "ea"))
local macro_rules | `(tactic| walk_at "pow") => `(tactic| first
  | with_reducible exact ev_pow (a := 10) (b := 9) (c := 1000000000) (by decide +kernel) (by decide +kernel)
  | with_reducible exact ev_pow (a := 10) (b := 10) (c := 10000000000) (by decide +kernel) (by decide +kernel)
  | with_reducible exact ev_pow (a := 10) (b := 12) (c := 1000000000000) (by decide +kernel) (by decide +kernel)
  | with_reducible exact ev_pow (a := 10) (b := 17) (c := 100000000000000000) (by decide +kernel) (by decide +kernel)
  | with_reducible exact ev_pow (a := 10) (b := 20) (c := 100000000000000000000) (by decide +kernel) (by decide +kernel)
  | with_reducible exact ev_pow (a := 10) (b := 29) (c := 100000000000000000000000000000) (by decide +kernel) (by decide +kernel)
  | with_reducible exact ev_pow (a := 10) (b := 30) (c := 1000000000000000000000000000000) (by decide +kernel) (by decide +kernel)
  | with_reducible exact ev_pow (a := 10) (b := 40) (c := 10000000000000000000000000000000000000000) (by decide +kernel) (by decide +kernel)
  | with_reducible exact ev_pow (a := 10) (b := 57) (c := 1000000000000000000000000000000000000000000000000000000000) (by decide +kernel) (by decide +kernel)
  | with_reducible exact ev_pow (a := 10) (b := 58) (c := 10000000000000000000000000000000000000000000000000000000000) (by decide +kernel) (by decide +kernel)
  | with_reducible exact ev_pow (a := 10) (b := 59) (c := 100000000000000000000000000000000000000000000000000000000000) (by decide +kernel) (by decide +kernel)
  | with_reducible exact ev_pow (a := 10) (b := 60) (c := 1000000000000000000000000000000000000000000000000000000000000) (by decide +kernel) (by decide +kernel))
local macro_rules | `(tactic| walk_at "call") => `(tactic| (intro H9 e9; first | exact ⟨_, rfl, rfl⟩ | exact ⟨_, _, rfl, rfl⟩ | exact ⟨_, _, _, rfl, rfl⟩ | exact ⟨_, rfl, by walk_at "pl", rfl⟩ | (refine ⟨_, _, _, rfl, ?_, rfl⟩; first | exact Plain.ex e9 (by assumption) | walk_at "pl") | (refine ⟨_, rfl, ?_, rfl⟩; first | exact Plain.ex e9 (by assumption) | walk_at "pl")))
local macro_rules | `(tactic| walk_at "ev") => `(tactic| first
  | with_reducible exact ev_c
  | exact ev_var rfl
  | walk_at "pow"
  | ((with_reducible apply ev_op); walk_at "ev"; walk_at "ev"; walk_at "rv")
  | ((with_reducible apply ev_un); walk_at "ev"; walk_at "rv")
  | ((with_reducible apply ev_cb); walk_at "ea"; walk_at "rc")
  | ((with_reducible apply ev_callP); walk_at "ea"; walk_at "call")
  | ((with_reducible apply ev_chain); walk_at "ev"; walk_at "ev"; walk_at "rv"; walk_at "ev"; walk_at "rv")
  | ((with_reducible apply ev_andV); walk_at "ev"; intro _; walk_at "ev")
  | ((with_reducible apply ev_orV); walk_at "ev"; intro _; walk_at "ev")
  | ((with_reducible apply ev_ite); walk_at "et"; intro _; walk_at "ev"; intro _; walk_at "ev")
  | ((with_reducible apply ev_notV); walk_at "ev"))
local macro_rules | `(tactic| walk_at "et") => `(tactic| first
  | ((with_reducible apply et_test); walk_at "ev")
  | ((with_reducible apply et_B); walk_at "ev")
  | ((with_reducible apply et_and); walk_at "et"; intro _; walk_at "et")
  | ((with_reducible apply et_or); walk_at "et"; intro _; walk_at "et")
  | ((with_reducible apply et_not); walk_at "et"))
section
variable {P : Program} {w : World} {K : PySem.W.Frag} {mg : Str → Option Value} {base : Heap}
theorem idx_of {n : Nat} (h : n < 110000000000000000000000000000000000000000000000000000000000) : Idx n := ⟨by omega, by omega⟩
theorem idx_of2 {n d : Nat} (h : n < 110000000000000000000000000000000000000000000000000000000000) (hd : d < 999999937) : Idx (n + d : Nat) := ⟨by omega, by omega⟩
/-- one of three numbers is more, by d -/
def NearT (e t n d : Nat) (xs : List V) : Prop := xs = natsV [e + d, t, n] ∨ xs = natsV [e, t + d, n] ∨ xs = natsV [e, t, n + d]
theorem near_at {i : Nat} (hi : i < 3) {e t n d x : Nat} (hx : [e, t, n][i]? = some x) : NearT e t n d (cutV (natsV [e, t, n]) none (some i) ++ [V.int (x + d : Nat)] ++ cutV (natsV [e, t, n]) (some (i + 1)) none) := by
  match i, hi with
  | 0, _ => cases hx; exact .inl rfl
  | 1, _ => cases hx; exact .inr (.inl rfl)
  | 2, _ => cases hx; exact .inr (.inr rfl)
theorem cut_len {xs : List V} {lo hi : Option Int} : (cutV xs lo hi).length ≤ xs.length := by
  unfold cutV
  rw [List.length_take, List.length_drop]
  omega
theorem ok_law_right (T : Txt K mg w) : FnOk P w K mg base CX0 7 T.a_law_right T.fd_law_right ["dice"] (Draws (kOne fun v => v = .bl true)) := by
  have G_law_luck_drawn := ok_luck_drawn (P := P) (w := w) (base := base) T
  have G_law_index_drawn := ok_index_drawn (P := P) (w := w) (base := base) T
  have G_spot_number := ok_spot_number (P := P) (w := w) (base := base) T
  have G_law_spot := ok_law_spot (P := P) (w := w) (base := base) T
  have G_law_stirred_right := ok_stirred_right (P := P) (w := w) (base := base) T
  have G_law_draws_right := ok_draws_right (P := P) (w := w) (base := base) T
  have G_law_roll := ok_roll (P := P) (w := w) (base := base) T
  have G_law_pick := ok_pick (P := P) (w := w) (base := base) T
  have G_stirred := ok_stirred (P := P) (w := w) (base := base) T
  have G_turn_of := ok_turn_of (P := P) (w := w) (base := base) T
  have G_law_turn_right := ok_turn_right (P := P) (w := w) (base := base) T
  refine T.F_law_right.ok sc_law_right (fun vs H Q E h => ?_) (fun cdv A outer s H vs Q E hr h => ?_)
  · obtain ⟨_, _, ⟨rfl, _⟩, _⟩ := h; rfl
  · obtain ⟨p, _, ⟨rfl, rfl⟩, hd, q⟩ := h
    refine ⟨_, (pss_cons (ps_par (i := 1) (j := 2) (by rfl) sc_law_right.nd rfl rfl (by decide) rfl rfl (pa_cons (pe_call G_law_luck_drawn (hr.mono (by decide)) (by rfl) T.g_law_luck_drawn T.F_law_luck_drawn.kp T.b_law_luck_drawn .nil pass0 (pa_cons (pv 0) pa_nil)) (pa_cons (pe_callTy c_tupL (by rfl) T.z_tuple (by decide +kernel) (pa_cons (pe_lc (own := [("place", 8)]) (g := gName 8) (by rfl) sc_law_right.nd (pi_range1 rfl T.z_range (pa_cons pe_int pa_nil)) (blkOk_by (own := [("place", 8)]) (N := ["dice", "luck", "told", "number", "at", "more", "near", "other", "place"]) (sc := defScope s_law_right) (by decide +kernel)) (fun _ _ _ _ _ => pg_name (i := 8) sc_law_right.nd rfl (Or.inl rfl)) (fun _ _ _ _ _ => pts_nil) (fun _ _ _ _ _ => (pe_call G_law_index_drawn (hr.mono (by decide)) (by rfl) T.g_law_index_drawn T.F_law_index_drawn.kp T.b_law_index_drawn .nil pass0 (pa_cons (pv 0) pa_nil)))) pa_nil)) pa_nil)) (by rfl))
  (pss_cons (ps_set (i := 3) sc_law_right.nd rfl (.inl rfl) (pe_call G_spot_number (hr.mono (by decide)) (by rfl) T.g_spot_number T.F_spot_number.kp T.b_spot_number .nil pass0 (pa_cons (pv 1) (pa_cons (pe_ix ix_tup (pv 2) pe_int (fun _ _ => rfl)) (pa_cons (pe_ix ix_tup (pv 2) pe_int (fun _ _ => rfl)) (pa_cons (pe_ix ix_tup (pv 2) pe_int (fun _ _ => rfl)) pa_nil))))))
  (pss_cons (ps_if (PW.pt (pw_or (pt_cmpR op_ne (pv 3) (pe_call G_law_spot (hr.mono (by decide)) (by rfl) T.g_law_spot T.F_law_spot.kp T.b_law_spot .nil pass0 (pa_cons (pv 1) (pa_cons (pv 2) pa_nil))) (nomark _)) (pw_or (pt_not (pt_val (pe_call G_law_stirred_right (hr.mono (by decide)) (by rfl) T.g_law_stirred_right T.F_law_stirred_right.kp T.b_law_stirred_right .nil pass0 (pa_cons (pv 1) pa_nil)))) (pw_or1 (pt_not (pt_val (pe_call G_law_draws_right (hr.mono (by decide)) (by rfl) T.g_law_draws_right T.F_law_draws_right.kp T.b_law_draws_right .nil pass0 (pa_cons (pv 0) (pa_cons (pv 1) (pa_cons (pv 2) pa_nil)))))))))) (pss_one (ps_ret pe_bl)) pss_nil)
  (pss_cons (ps_par (i := 4) (j := 5) (by rfl) sc_law_right.nd rfl rfl (by decide) rfl rfl (pa_cons (pe_call G_law_roll (hr.mono (by decide)) (by rfl) T.g_law_roll T.F_law_roll.kp T.b_law_roll .nil pass0 (pa_cons (pv 0) (pa_cons pe_int pa_nil))) (pa_cons (pe_op op_add pe_int (pe_call G_law_roll (hr.mono (by decide)) (by rfl) T.g_law_roll T.F_law_roll.kp T.b_law_roll .nil pass0 (pa_cons (pv 0) (pa_cons pe_int pa_nil)))) pa_nil)) (by rfl))
  (pss_cons (ps_set (i := 6) sc_law_right.nd rfl (.inl rfl) (pe_op op_catA (pe_op op_catA (pe_slice sl_tupA (pv 2) po_none (po_some (pv 4))) (pe_tup (pa_cons (pe_op op_add (pe_ix ix_tup (pv 2) (pv 4) (fun _ _ => rfl)) (pe_call G_law_pick (hr.mono (by decide)) (by rfl) T.g_law_pick T.F_law_pick.kp T.b_law_pick .nil pass0 (pa_cons (pv 0) (pa_cons (pe_lst (pa_cons pe_int (pa_cons pe_int (pa_cons (pv 5) pa_nil)))) pa_nil)))) pa_nil))) (pe_slice sl_tupA (pv 2) (po_some (pe_op op_add (pv 4) pe_int)) po_none)))
  (pss_cons (ps_if (pt_cmpR op_eq (pe_call G_spot_number (hr.mono (by decide)) (by rfl) T.g_spot_number T.F_spot_number.kp T.b_spot_number .nil pass0 (pa_cons (pv 1) (pa_cons (pe_ix ix_tup (pv 6) pe_int (fun _ _ => rfl)) (pa_cons (pe_ix ix_tup (pv 6) pe_int (fun _ _ => rfl)) (pa_cons (pe_ix ix_tup (pv 6) pe_int (fun _ _ => rfl)) pa_nil))))) (pv 3) (nomark _)) (pss_one (ps_ret pe_bl)) pss_nil)
  (pss_cons (ps_set (i := 7) sc_law_right.nd rfl (.inl rfl) (pe_op op_mod (pe_callTy c_int (by rfl) T.z_int (by decide +kernel) (pa_cons (pe_op op_add (pv 1) (pv 5)) pa_nil)) pe_int))
  (pss_cons (ps_if (PW.pt (pw_or (pt_cmpR op_eq (pe_call G_spot_number (hr.mono (by decide)) (by rfl) T.g_spot_number T.F_spot_number.kp T.b_spot_number .nil pass0 (pa_cons (pv 7) (pa_cons (pe_ix ix_tup (pv 2) pe_int (fun _ _ => rfl)) (pa_cons (pe_ix ix_tup (pv 2) pe_int (fun _ _ => rfl)) (pa_cons (pe_ix ix_tup (pv 2) pe_int (fun _ _ => rfl)) pa_nil))))) (pv 3) (nomark _)) (pw_or1 (pt_cmpR op_eq (pe_call G_stirred (hr.mono (by decide)) (by rfl) T.g_stirred T.F_stirred.kp T.b_stirred .nil pass0 (pa_cons (pv 7) pa_nil)) (pe_call G_stirred (hr.mono (by decide)) (by rfl) T.g_stirred T.F_stirred.kp T.b_stirred .nil pass0 (pa_cons (pv 1) pa_nil)) (nomark _))))) (pss_one (ps_ret pe_bl)) pss_nil)
  (pss_cons (ps_if (pt_cmpR op_ne (pe_call G_turn_of (hr.mono (by decide)) (by rfl) T.g_turn_of T.F_turn_of.kp T.b_turn_of .nil pass0 (pa_cons (pv 1) (pa_cons (pe_ix ix_tup (pv 2) pe_int (fun _ _ => rfl)) (pa_cons (pe_ix ix_tup (pv 2) pe_int (fun _ _ => rfl)) (pa_cons (pv 3) pa_nil))))) (pe_op op_mod (pe_callTy c_int (by rfl) T.z_int (by decide +kernel) (pa_cons (pe_ix ix_tup (pv 2) pe_int (fun _ _ => rfl)) pa_nil)) pe_int) (nomark _)) (pss_one (ps_ret pe_bl)) pss_nil)
  (pss_one (ps_ret (pe_call G_law_turn_right (hr.mono (by decide)) (by rfl) T.g_law_turn_right T.F_law_turn_right.kp T.b_law_turn_right .nil pass0 (pa_cons (pv 1) (pa_cons (pv 2) (pa_cons (pe_call G_law_luck_drawn (hr.mono (by decide)) (by rfl) T.g_law_luck_drawn T.F_law_luck_drawn.kp T.b_law_luck_drawn .nil pass0 (pa_cons (pv 0) pa_nil)) pa_nil))))))))))))))), ?_⟩
    have ld : ∀ {σ : L2.St} {H : Hp}, σ[0]? = some (some (.ref p)) → Dv p (tCall (Draws (kOne LuckV)) [] E0 (tCons (tVar 0) tNil)) σ H LuckV := fun hs => dv_call (vs := [.ref p]) (fun H1 _ _ => ea_cons (ev_var hs) ea_nil) (fun H1 _ _ => ⟨rfl, rfl⟩)
    refine q_parU (R1 := LuckV) (R2' := fun ys => ys.length = 3 ∧ ∀ v ∈ ys, IdxV v) (ld rfl) (du_tupLc (n := 3) (fun _ => rfl) (by decide) fun i hi => dv_call (R := IdxV) (vs := [.ref p]) (fun H1 _ _ => ea_cons (ev_var rfl) ea_nil) (fun H1 _ _ => ⟨rfl, rfl⟩)) hd fun v1 b xs H1 hv1 hx hb e1 d1 hT => ?_
    obtain ⟨l, rfl, hl⟩ := hv1
    obtain ⟨e, t, n, rfl, he, ht, hn⟩ : ∃ e t n : Nat, xs = natsV [e, t, n] ∧ e < 110000000000000000000000000000000000000000000000000000000000 ∧ t < 110000000000000000000000000000000000000000000000000000000000 ∧ n < 110000000000000000000000000000000000000000000000000000000000 := by
      obtain ⟨hlen, hx⟩ := hx
      match xs, hlen with
      | [a, b, c], _ =>
        obtain ⟨e, rfl, he⟩ := hx a (by simp)
        obtain ⟨t, rfl, ht⟩ := hx b (by simp)
        obtain ⟨n, rfl, hn⟩ := hx c (by simp)
        exact ⟨e, t, n, rfl, he, ht, hn⟩
    have i0 : atI (natsV [e, t, n]) 0 = some (.int e) := rfl
    have i1 : atI (natsV [e, t, n]) 1 = some (.int t) := rfl
    have i2 : atI (natsV [e, t, n]) 2 = some (.int n) := rfl
    have hsl := spot_lt l e t n
    refine q_asg (v := .int (spotN l e t n : Nat)) (ev_callP (vs := [.int l, .int e, .int t, .int n]) (by walk_at "ea") fun H2 _ => ⟨l, e, t, n, rfl, hl, idx_of he, idx_of ht, idx_of hn, rfl⟩) fun H2 e2 => ?_
    have hT := ex_t e2 hT
    have d2 := d1.ex e2
    have e2 := e1.trans (Exd.of e2)
    refine q_whenF (p := p) ?_ d2 fun H3 e3 d3 => ?_
    · refine dvf_or (dvf_et fun H3 e3 d3 => ?_) (dvf_or (dvf_et fun H3 e3 d3 => ?_) (dvf_not (b := true) (dvf_B (dv_call (p := p) (R := fun v => v = .bl true) (vs := [.ref p, .int l, .ref b]) (fun H3 e3 d3 => by walk_at "ea") fun H3 e3 d3 => ⟨l, b, e, t, n, rfl, hb, hl, e3.tt hb hT, idx_of he, idx_of ht, idx_of hn, rfl⟩))))
      · refine et_is (et_test (ev_op (y := .int (spotN l e t n : Nat)) (ev_var rfl) (ev_callP (vs := [.int l, .ref b]) (by walk_at "ea") fun H4 e4 => ⟨l, b, [e, t, n], rfl, hl, ex_t e4 (e3.tt hb hT), by rw [fold3]⟩) (rv_ne rfl))) ?_
        rw [decide_eq_true rfl]
        rfl
      · exact et_is (et_not (et_B (b := true) (ev_callP (by walk_at "ea") fun H4 e4 => ⟨l, rfl, hl, rfl⟩))) rfl
    have hT := e3.tt hb hT
    have e3 := e2.trans e3
    have one : ∀ {m : Int} {te : TE} {σ : L2.St} {H : Hp}, Dv p te σ H (fun v => ∃ r : Int, v = .int r ∧ 0 ≤ r ∧ r < m) → Dv p (tOp (rI0 fun i j => .int (i + j)) (tC (.int 1)) te) σ H (fun v => ∃ r : Nat, v = .int r ∧ 1 ≤ r ∧ r ≤ m.toNat) := fun h =>
      dv_op (R1 := fun v => v = .int 1) (dv_c rfl) h fun x y H1 hx hy => by
        obtain ⟨r, rfl, h0, h1⟩ := hy
        subst hx
        exact ⟨_, rv_I0, (1 + r).toNat, by rw [Int.toNat_of_nonneg (by omega)], by omega, by omega⟩
    refine q_parDv (dv_roll (m := 3) rfl (fun H1 => ev_c) (by decide) (by decide)) (one (dv_roll (m := 999999936) rfl (fun H1 => ev_c) (by decide) (by decide))) d3 fun v1 v2 H4 hv1 hv2 e4 d4 => ?_
    obtain ⟨at_, rfl, ha0, ha1⟩ := hv1
    obtain ⟨more, rfl, hm1, hm2⟩ := hv2
    obtain ⟨i, rfl⟩ := Int.eq_ofNat_of_zero_le ha0
    have hi : i < 3 := by omega
    have hm2 : more ≤ 999999936 := hm2
    have hT := e4.tt hb hT
    have e4 := e3.trans e4
    have hmd : more < 999999937 := by omega
    obtain ⟨x, hx⟩ : ∃ x, [e, t, n][i]? = some x := ⟨_, List.getElem?_eq_getElem hi⟩
    have hxa : atI (natsV [e, t, n]) (i : Int) = some (.int x) := atI_nat (by unfold natsV; rw [List.getElem?_map, hx]; rfl)
    refine q_asgU2 (K := K) (p := p) (R := fun xs => ∃ d, 0 < d ∧ d < 999999937 ∧ NearT e t n d xs) ?_ d4 fun c ys H5 hy hc e5 d5 hT5 => ?_
    · refine du_cat (K := K) (R1 := fun xs => ∃ d : Nat, 0 < d ∧ d < 999999937 ∧ xs = cutV (natsV [e, t, n]) none (some i) ++ [V.int (x + d : Nat)]) (R2' := fun xs => xs = cutV (natsV [e, t, n]) (some (i + 1)) none) ?_ (du_sl rfl hb hT (fun H6 => eo_some (by walk_at "ev")) (fun H6 => eo_none) ?_) ?_
      · refine du_cat (K := K) (R1 := fun xs => xs = cutV (natsV [e, t, n]) none (some i)) (R2' := fun xs => ∃ v, xs = [v] ∧ ∃ d : Nat, 0 < d ∧ d < 999999937 ∧ v = V.int (x + d : Nat)) (du_sl rfl hb hT (fun H6 => eo_none) (fun H6 => eo_some (ev_var rfl)) ?_) (du_one (dv_op (R1 := fun v => v = .int x) (R2' := fun v => ∃ d : Nat, 0 < d ∧ d < 999999937 ∧ v = V.int d) ?_ ?_ ?_)) ?_
        · rintro ⟨_, h2⟩
          match i, hi, h2 with
          | 0, _, h2 => exact absurd (show HT.sIx 3 3 (some ((0 : Nat) : Int)) = 3 from h2) (by decide)
          | 1, _, h2 => exact absurd (show HT.sIx 3 3 (some ((1 : Nat) : Int)) = 3 from h2) (by decide)
          | 2, _, h2 => exact absurd (show HT.sIx 3 3 (some ((2 : Nat) : Int)) = 3 from h2) (by decide)
        · exact dv_ev (fun H6 e6 d6 => ev_op (ev_var rfl) (ev_var rfl) (rv_ixT (e6.tt hb hT) hxa)) rfl
        · refine (dv_pickL (xs := [.int 1, .int 2, .int more]) (R := fun v => v ∈ [V.int 1, .int 2, .int more]) rfl (fun H1 _ _ => el_lst (by walk_at "ea") (by show 3 ≤ 100000; decide)) (fun l H1 _ _ hl h => ⟨l, _, rfl, hl, sq_of h, by show 0 < 3; decide, by show 3 < 1000000; decide, rfl⟩)).mono fun v hv => ?_
          simp only [List.mem_cons, List.not_mem_nil, or_false] at hv
          rcases hv with rfl | rfl | rfl
          · exact ⟨1, by decide, by decide, rfl⟩
          · exact ⟨2, by decide, by decide, rfl⟩
          · exact ⟨more, by omega, by omega, rfl⟩
        · rintro x1 y1 H6 rfl ⟨d, h0, h1, rfl⟩
          exact ⟨_, rv_I0, d, h0, h1, by rw [Int.natCast_add]⟩
        · rintro xs ys rfl ⟨v, rfl, d, h0, h1, rfl⟩
          refine ⟨⟨d, h0, h1, rfl⟩, ?_⟩
          have h3 := cut_len (xs := natsV [e, t, n]) (lo := none) (hi := some (i : Int))
          have h4 : (natsV [e, t, n]).length = 3 := rfl
          show _ + 1 ≤ _
          omega
      · rintro ⟨h1, _⟩
        match i, hi, h1 with
        | 0, _, h1 => exact absurd (show HT.sIx 3 0 (some (((0 : Nat) : Int) + 1)) = 0 from h1) (by decide)
        | 1, _, h1 => exact absurd (show HT.sIx 3 0 (some (((1 : Nat) : Int) + 1)) = 0 from h1) (by decide)
        | 2, _, h1 => exact absurd (show HT.sIx 3 0 (some (((2 : Nat) : Int) + 1)) = 0 from h1) (by decide)
      · rintro xs ys ⟨d, h0, h1, rfl⟩ rfl
        refine ⟨⟨d, h0, h1, near_at hi hx⟩, ?_⟩
        have h3 := cut_len (xs := natsV [e, t, n]) (lo := none) (hi := some (i : Int))
        have h5 := cut_len (xs := natsV [e, t, n]) (lo := some ((i : Int) + 1)) (hi := none)
        have h4 : (natsV [e, t, n]).length = 3 := rfl
        rw [List.length_append, List.length_singleton]
        omega
    obtain ⟨d, hd0, hd1, hnear⟩ := hy
    have hT := e5.tt hb hT
    have e5 := e4.trans e5
    obtain ⟨e', t', n', rfl, he', ht', hn', hne⟩ : ∃ e' t' n' : Nat, ys = natsV [e', t', n'] ∧ Idx e' ∧ Idx t' ∧ Idx n' ∧ spotN l e' t' n' ≠ spotN l e t n := by
      rcases hnear with h | h | h
      · exact ⟨_, _, _, h, idx_of2 he hd1, idx_of ht, idx_of hn, spot_ne_e hd0 hd1⟩
      · exact ⟨_, _, _, h, idx_of he, idx_of2 ht hd1, idx_of hn, spot_ne_t hd0 hd1⟩
      · exact ⟨_, _, _, h, idx_of he, idx_of ht, idx_of2 hn hd1, spot_ne_n hd0 hd1⟩
    have j0 : atI (natsV [e', t', n']) 0 = some (.int e') := rfl
    have j1 : atI (natsV [e', t', n']) 1 = some (.int t') := rfl
    have j2 : atI (natsV [e', t', n']) 2 = some (.int n') := rfl
    refine q_when (b := false) ?_ (fun h => by cases h) fun _ H6 e6 => ?_
    · refine et_is (et_test (ev_op (x := .int (spotN l e' t' n' : Nat)) (ev_callP (vs := [.int l, .int e', .int t', .int n']) (by walk_at "ea") fun H6 _ => ⟨l, e', t', n', rfl, hl, he', ht', hn', rfl⟩) (ev_var rfl) (rv_eq rfl))) ?_
      exact decide_eq_false fun z => hne (Int.ofNat.inj (V.int.inj z))
    have hT := ex_t e6 hT
    have d6 := d5.ex e6
    have e6 := e5.trans (Exd.of e6)
    refine q_asg (v := .int ((l + more) % Pm.p : Nat)) ?_ fun H7 e7 => ?_
    · apply ev_is
      walk_at "ev"
      rw [add_cast]
    have hT := ex_t e7 hT
    have d7 := d6.ex e7
    have e7 := e6.trans (Exd.of e7)
    have hol : (l + more) % Pm.p < 999999937 := ml _
    have hon : l ≠ (l + more) % Pm.p := by
      show l ≠ (l + more) % 999999937
      omega
    refine q_when (b := false) ?_ (fun h => by cases h) fun _ H8 e8 => ?_
    · refine et_or (a := false) (b := false) ?_ fun _ => ?_
      · refine et_is (et_test (ev_op (x := .int (spotN ((l + more) % Pm.p) e t n : Nat)) (ev_callP (vs := [.int ((l + more) % Pm.p : Nat), .int e, .int t, .int n]) (by walk_at "ea") fun H6 _ => ⟨_, e, t, n, rfl, hol, idx_of he, idx_of ht, idx_of hn, rfl⟩) (ev_var rfl) (rv_eq rfl))) ?_
        exact decide_eq_false fun z => spot_ne_l hl hol hon (Int.ofNat.inj (V.int.inj z))
      · refine et_is (et_test (ev_op (x := .int (Pm.stirN ((l + more) % Pm.p) : Nat)) (y := .int (Pm.stirN l : Nat)) (ev_callP (by walk_at "ea") fun H6 _ => ⟨_, rfl, hol, rfl⟩) (ev_callP (by walk_at "ea") fun H6 _ => ⟨_, rfl, hl, rfl⟩) (rv_eq rfl))) ?_
        exact decide_eq_false fun z => hon (Pm.stir_inj hl hol (Int.ofNat.inj (V.int.inj z)).symm)
    have hT := ex_t e8 hT
    have d8 := d7.ex e8
    have e8 := e7.trans (Exd.of e8)
    refine q_when (b := false) ?_ (fun h => by cases h) fun _ H9 e9 => ?_
    · refine et_is (et_test (ev_op (x := .int (turnN l e t (spotN l e t n) : Nat)) (ev_callP (vs := [.int l, .int e, .int t, .int (spotN l e t n : Nat)]) (by walk_at "ea") fun H6 _ => ⟨l, e, t, _, rfl, hl, idx_of he, idx_of ht, hsl, rfl⟩) (by walk_at "ev") (rv_ne rfl))) ?_
      rw [turn_spot]
      have e1 : V.int ((n % Pm.p : Nat) : Int) = V.int ((n : Int) % 999999937) := by
        rw [Int.natCast_emod]
        rfl
      rw [decide_eq_true e1]
      rfl
    have hT := ex_t e9 hT
    have d9 := d8.ex e9
    have e9 := e8.trans (Exd.of e9)
    refine s_retCallDv (p := p) (R := LuckV) (z := .bl true) rfl rfl (ld rfl) d9 (fun v H10 hv e10 d10 => ?_) fun H10 e10 d10 => q _ H10 rfl (e9.trans e10) d10
    obtain ⟨g, rfl, hg⟩ := hv
    exact ⟨l, g, b, e, t, n, rfl, hl, hg, e10.tt hb hT, idx_of he, idx_of ht, rfl⟩
end
end Kz
set_option Elab.async false
set_option linter.all false
set_option maxRecDepth 100000
set_option maxHeartbeats 4000000
set_option exponentiation.threshold 500
namespace Kz
open PySem PySem.Spec PyProof.Rows L2 Evl Vr
local macro_rules | `(tactic| walk_at "sc") => `(tactic| first | (with_reducible assumption) | (with_reducible exact sc_mul (by omega)) | (with_reducible exact sc_mulr (by omega)) | (with_reducible exact sc_div (by omega) (by decide)) | (show (0 : Int) < _; omega) | (show _ ≠ (0 : Int); omega) | (with_reducible rfl) | decide)
local macro_rules | `(tactic| walk_at "sq") => `(tactic| first | assumption | exact sq_of (by assumption) | exact st_of (by assumption))
local macro_rules | `(tactic| walk_at "pl") => `(tactic| first | assumption | exact pl_int | exact pl_bl | exact pl_str | exact pl_non | exact pl_lst (by assumption) | exact pl_tup (by assumption) | exact pl_dK (by assumption))
local macro_rules | `(tactic| walk_at "rv") => `(tactic| first
  | with_reducible exact rv_I0
  | with_reducible exact ru_neg
  | ((with_reducible apply rv_I); walk_at "sc")
  | ((with_reducible apply rv_ixL); walk_at "sq"; first | rfl | assumption)
  | ((with_reducible apply rv_ixT); walk_at "sq"; first | rfl | assumption)
  | ((with_reducible apply rv_eq); rfl) | ((with_reducible apply rv_ne); rfl))
local macro_rules | `(tactic| walk_at "rc") => `(tactic| first
  | with_reducible exact rc_I1 | with_reducible exact rc_B1 | with_reducible exact rc_I2 | ((with_reducible apply rc_repr); walk_at "sc") | ((with_reducible apply rc_lenL); walk_at "sq")
  | ((with_reducible apply rc_isiInt); walk_at "pl") | ((with_reducible apply rc_isiBool); walk_at "pl"))
local macro_rules | `(tactic| walk_at "ea") => `(tactic| first
  | with_reducible exact ea_nil | ((with_reducible apply ea_cons); walk_at "ev"; walk_at "ea"))
local macro_rules | `(tactic| walk_at "pow") => `(tactic| first
  | with_reducible exact ev_pow (a := 10) (b := 9) (c := 1000000000) (by decide +kernel) (by decide +kernel)
  | with_reducible exact ev_pow (a := 10) (b := 10) (c := 10000000000) (by decide +kernel) (by decide +kernel)
  | with_reducible exact ev_pow (a := 10) (b := 12) (c := 1000000000000) (by decide +kernel) (by decide +kernel)
  | with_reducible exact ev_pow (a := 10) (b := 17) (c := 100000000000000000) (by decide +kernel) (by decide +kernel)
  | with_reducible exact ev_pow (a := 10) (b := 20) (c := 100000000000000000000) (by decide +kernel) (by decide +kernel)
  | with_reducible exact ev_pow (a := 10) (b := 29) (c := 100000000000000000000000000000) (by decide +kernel) (by decide +kernel)
  | with_reducible exact ev_pow (a := 10) (b := 30) (c := 1000000000000000000000000000000) (by decide +kernel) (by decide +kernel)
  | with_reducible exact ev_pow (a := 10) (b := 40) (c := 10000000000000000000000000000000000000000) (by decide +kernel) (by decide +kernel)
  | with_reducible exact ev_pow (a := 10) (b := 57) (c := 1000000000000000000000000000000000000000000000000000000000) (by decide +kernel) (by decide +kernel)
  | with_reducible exact ev_pow (a := 10) (b := 58) (c := 10000000000000000000000000000000000000000000000000000000000) (by decide +kernel) (by decide +kernel)
  | with_reducible exact ev_pow (a := 10) (b := 59) (c := 100000000000000000000000000000000000000000000000000000000000) (by decide +kernel) (by decide +kernel)
  | with_reducible exact ev_pow (a := 10) (b := 60) (c := 1000000000000000000000000000000000000000000000000000000000000) (by decide +kernel) (by decide +kernel))
local macro_rules | `(tactic| walk_at "call") => `(tactic| (intro H9 e9; first | exact ⟨_, rfl, rfl⟩ | exact ⟨_, _, rfl, rfl⟩ | exact ⟨_, _, _, rfl, rfl⟩ | exact ⟨_, rfl, by walk_at "pl", rfl⟩ | (refine ⟨_, _, _, rfl, ?_, rfl⟩; first | exact Plain.ex e9 (by assumption) | walk_at "pl") | (refine ⟨_, rfl, ?_, rfl⟩; first | exact Plain.ex e9 (by assumption) | walk_at "pl")))
local macro_rules | `(tactic| walk_at "ev") => `(tactic| first
  | with_reducible exact ev_c
  | exact ev_var rfl
  | walk_at "pow"
  | ((with_reducible apply ev_op); walk_at "ev"; walk_at "ev"; walk_at "rv")
  | ((with_reducible apply ev_un); walk_at "ev"; walk_at "rv")
  | ((with_reducible apply ev_cb); walk_at "ea"; walk_at "rc")
  | ((with_reducible apply ev_callP); walk_at "ea"; walk_at "call")
  | ((with_reducible apply ev_chain); walk_at "ev"; walk_at "ev"; walk_at "rv"; walk_at "ev"; walk_at "rv")
  | ((with_reducible apply ev_andV); walk_at "ev"; intro _; walk_at "ev")
  | ((with_reducible apply ev_orV); walk_at "ev"; intro _; walk_at "ev")
  | ((with_reducible apply ev_ite); walk_at "et"; intro _; walk_at "ev"; intro _; walk_at "ev")
  | ((with_reducible apply ev_notV); walk_at "ev"))
local macro_rules | `(tactic| walk_at "et") => `(tactic| first
  | ((with_reducible apply et_test); walk_at "ev")
  | ((with_reducible apply et_B); walk_at "ev")
  | ((with_reducible apply et_and); walk_at "et"; intro _; walk_at "et")
  | ((with_reducible apply et_or); walk_at "et"; intro _; walk_at "et")
  | ((with_reducible apply et_not); walk_at "et"))
open Sl
def rollsN : List Int := (List.range 300).map fun i => (drawN 12345 0 0 i 6 : Nat)
theorem rolls_in : ∀ k ∈ rollsN, k ∈ ([0, 1, 2, 3, 4, 5] : List Int) := by decide +kernel
theorem rolls_all : ∀ k ∈ ([0, 1, 2, 3, 4, 5] : List Int), k ∈ rollsN := by decide +kernel
theorem k_stir : Pm.stirN 2 = 271861 := by decide +kernel
theorem k_unstir : Pm.unstirN 271861 = 2 := by rw [← k_stir, Pm.unstir_stir (by decide)]
theorem k_spot0 : spotN 0 0 0 0 = 754833868 := by decide +kernel
theorem k_spot1 : spotN 0 0 0 1 = 941293244 := by decide +kernel
theorem k_turn : turnN 0 0 0 941293244 = 1 := by
  rw [← k_spot1, turn_spot]
  decide
theorem k_d1 : drawN 0 0 0 0 6 = 4 := by decide +kernel
theorem k_d2 : drawN 0 0 0 1 6 = 5 := by decide +kernel
theorem k_d3 : drawN 7 1 3 1 100 = 99 := by decide +kernel
section
variable {P : Program} {w : World} {K : PySem.W.Frag} {mg : Str → Option Value} {base : Heap}
def spLaw (K : PySem.W.Frag) : Sp := fun vs H Q _ => ∃ (a : Addr) (ns : List Int), vs = [.ref a] ∧ SqL K H a (ns.map V.int) ∧ ns.length ≤ 63 ∧ ∀ H', Q (.bl true) H'
theorem ok_law (T : Txt K mg w) {f : Addr} {fd : FuncData} (F : Fun K "law" "law" s_law f fd) : FnOk P w K mg base CX0 8 f fd ["script"] (spLaw K) := by
  have G_law_dice := ok_dice (P := P) (w := w) (base := base) T
  have G_law_right := ok_law_right (P := P) (w := w) (base := base) T
  have G_stirred := ok_stirred (P := P) (w := w) (base := base) T
  have G_unstirred := ok_unstirred (P := P) (w := w) (base := base) T
  have G_spot_number := ok_spot_number (P := P) (w := w) (base := base) T
  have G_turn_of := ok_turn_of (P := P) (w := w) (base := base) T
  have G_drawn := ok_drawn (P := P) (w := w) (base := base) T
  refine F.ok sc_law (fun vs H Q E h => ?_) (fun cdv A outer s H vs Q E hr h => ?_)
  · obtain ⟨_, _, rfl, _⟩ := h; rfl
  · obtain ⟨a, ns, rfl, hS, hlen, q⟩ := h
    refine ⟨_, (pss_cons (ps_for PassesOwn.never rfl (pi_range1 rfl T.z_range (pa_cons (pe_callB (c_max rfl) (by rfl) T.z_max (by decide +kernel) (pa_cons pe_int (pa_cons (pe_callB (c_min rfl) (by rfl) T.z_min (by decide +kernel) (pa_cons pe_int (pa_cons (pe_callB c_len (by rfl) T.z_len PySem.boot_len (pa_cons (pv 0) pa_nil)) pa_nil))) pa_nil))) pa_nil)) (pg_name (i := 1) sc_law.nd rfl (.inl rfl)) (pss_cons (ps_set (i := 2) sc_law.nd rfl (.inl rfl) (pe_call G_law_dice (hr.mono (by decide)) (by rfl) T.g_law_dice T.F_law_dice.kp T.b_law_dice .nil pass0 (pa_cons (pv 0) (pa_cons (pv 1) pa_nil))))
  (pss_one (ps_if (PW.pt (pw_or (pt_not (pt_val (pe_call G_law_right (hr.mono (by decide)) (by rfl) T.g_law_right T.F_law_right.kp T.b_law_right .nil pass0 (pa_cons (pv 2) pa_nil)))) (pw_or1 (pt_not (pt_val (pe_call G_law_right (hr.mono (by decide)) (by rfl) T.g_law_right T.F_law_right.kp T.b_law_right .nil pass0 (pa_cons (pv 2) pa_nil))))))) (pss_one (ps_ret pe_bl)) pss_nil))))
  (pss_cons (ps_if (pt_cmpR (op_neD hr.units) (pe_lst (pa_cons (pe_call G_stirred (hr.mono (by decide)) (by rfl) T.g_stirred T.F_stirred.kp T.b_stirred .nil pass0 (pa_cons pe_int pa_nil)) (pa_cons (pe_call G_unstirred (hr.mono (by decide)) (by rfl) T.g_unstirred T.F_unstirred.kp T.b_unstirred .nil pass0 (pa_cons pe_int pa_nil)) (pa_cons (pe_call G_spot_number (hr.mono (by decide)) (by rfl) T.g_spot_number T.F_spot_number.kp T.b_spot_number .nil pass0 (pa_cons pe_int (pa_cons pe_int (pa_cons pe_int (pa_cons pe_int pa_nil))))) (pa_cons (pe_call G_spot_number (hr.mono (by decide)) (by rfl) T.g_spot_number T.F_spot_number.kp T.b_spot_number .nil pass0 (pa_cons pe_int (pa_cons pe_int (pa_cons pe_int (pa_cons pe_int pa_nil))))) (pa_cons (pe_call G_turn_of (hr.mono (by decide)) (by rfl) T.g_turn_of T.F_turn_of.kp T.b_turn_of .nil pass0 (pa_cons pe_int (pa_cons pe_int (pa_cons pe_int (pa_cons pe_int pa_nil))))) pa_nil)))))) (pe_lst (pa_cons pe_int (pa_cons pe_int (pa_cons pe_int (pa_cons pe_int (pa_cons pe_int pa_nil)))))) (nomark _)) (pss_one (ps_ret pe_bl)) pss_nil)
  (pss_cons (ps_setLc (i := 3) (own := [("turn", 4)]) (g := gName 4) (by rfl) sc_law.nd rfl rfl (sw_true rfl rfl rfl (by decide +kernel)) (pi_range1 rfl T.z_range (pa_cons pe_int pa_nil)) (blkOk_by (own := [("turn", 4)]) (N := ["script", "spot_v", "dice", "rolls", "turn"]) (sc := defScope s_law) (by decide +kernel)) (fun _ _ _ _ _ => pg_name (i := 4) sc_law.nd rfl (Or.inl rfl)) (fun _ _ _ _ _ => pts_nil) (fun _ _ _ _ _ => (pe_call G_drawn (hr.mono (by decide)) (by rfl) T.g_drawn T.F_drawn.kp T.b_drawn .nil pass0 (pa_cons pe_int (pa_cons pe_int (pa_cons pe_int (pa_cons (pv 4) (pa_cons pe_int pa_nil))))))))
  (pss_one (ps_ret (pe_and (pe_cmpR (op_eqD hr.units) (pe_callB (cr_sortedSet rfl) (by rfl) T.z_sorted (by decide +kernel) (pa_cons (pe_callTy (c_setL rfl) (by rfl) T.z_set (by decide +kernel) (pa_cons (pv 3) pa_nil)) pa_nil)) (pe_lst (pa_cons pe_int (pa_cons pe_int (pa_cons pe_int (pa_cons pe_int (pa_cons pe_int (pa_cons pe_int pa_nil))))))) (nomark _)) (pe_one (pe_cmpR (op_eqD hr.units) (pe_lst (pa_cons (pe_call G_drawn (hr.mono (by decide)) (by rfl) T.g_drawn T.F_drawn.kp T.b_drawn .nil pass0 (pa_cons pe_int (pa_cons pe_int (pa_cons pe_int (pa_cons pe_int (pa_cons pe_int pa_nil)))))) (pa_cons (pe_call G_drawn (hr.mono (by decide)) (by rfl) T.g_drawn T.F_drawn.kp T.b_drawn .nil pass0 (pa_cons pe_int (pa_cons pe_int (pa_cons pe_int (pa_cons pe_int (pa_cons pe_int pa_nil)))))) (pa_cons (pe_call G_drawn (hr.mono (by decide)) (by rfl) T.g_drawn T.F_drawn.kp T.b_drawn .nil pass0 (pa_cons pe_int (pa_cons pe_int (pa_cons pe_int (pa_cons pe_int (pa_cons pe_int pa_nil)))))) pa_nil)))) (pe_lst (pa_cons pe_int (pa_cons pe_int (pa_cons pe_int pa_nil)))) (nomark _))))))))), ?_⟩
    have hcnt : ∃ m : Int, 0 ≤ m ∧ m ≤ 1000 ∧ (if (if (ns.map V.int).length < (3 : Int) then ((ns.map V.int).length : Int) else 3) > 1 then (if (ns.map V.int).length < (3 : Int) then ((ns.map V.int).length : Int) else 3) else 1) = m := ⟨_, by split <;> split <;> omega, by split <;> split <;> omega, rfl⟩
    obtain ⟨m, hm0, hm1, hm⟩ := hcnt
    refine q_forR1 (n := m) (ea_cons (ev_is (by walk_at "ev") (by rw [← hm])) ea_nil) ⟨hm0, by omega⟩ (fun i σ' H' => Ex H H' ∧ ∃ z1 z2, σ' = [some (.ref a), z1, z2, none, none]) (fun H1 e1 => ⟨e1, none, none, rfl⟩) ?_ ?_
    · rintro i σ' H1 hi ⟨e1, z1, z2, rfl⟩
      refine goA (vs := [.ref a, .int (i : Int)]) (by walk_at "ea") fun H2 e2 => ⟨a, ns, i, rfl, ex_l (e1.trans e2) hS, fun p H3 hp e3 d3 => ?_⟩
      dsimp only [gName, List.set]
      have right : DvF p (tNot (tB (tCall (Draws (kOne fun v => v = V.bl true)) [] E0 (tCons (tVar 2) tNil)))) [some (.ref a), some (.int (i : Int)), some (.ref p), none, none] H3 false := dvf_not (b := true) (dvf_B (dv_call (p := p) (R := fun v => v = .bl true) (vs := [.ref p]) (fun H1 _ _ => by walk_at "ea") (fun H1 _ _ => ⟨rfl, rfl⟩)))
      refine s_whenF (p := p) (dvf_or right right) d3 fun H4 e4 d4 => ⟨?_, _, _, rfl⟩
      exact (e1.trans e2).trans (e4.out e3 hp)
    rintro σ' H1 ⟨e1, z1, z2, rfl⟩
    have call1 : ∀ {te : TE} {σ : L2.St} {H : Hp} {n : Nat}, Ev te σ H (.int n) → EvD K te σ H (.int n) := fun h => evd_int h
    refine q_when (b := false) ?_ (fun h => by cases h) fun _ H2 e2 => ?_
    · refine et_is (et_test (ev_neD (d := .list [.int 271861, .int 2, .int 754833868, .int 941293244, .int 1]) (e := .list [.int 271861, .int 2, .int 754833868, .int 941293244, .int 1]) (evd_lst ?_ (by decide)) (evd_lst (evda_cons (evd_int ev_c) (evda_cons (evd_int ev_c) (evda_cons (evd_int ev_c) (evda_cons (evd_int ev_c) (evda_cons (evd_int ev_c) evda_nil))))) (by decide)) (by decide +kernel) (by decide +kernel))) (by decide +kernel)
      refine evda_cons (evd_int (ev_callP (vs := [.int 2]) (by walk_at "ea") fun _ _ => ⟨2, rfl, by decide, by rw [k_stir]; rfl⟩)) (evda_cons (evd_int (ev_callP (vs := [.int 271861]) (by walk_at "ea") fun _ _ => ⟨271861, rfl, by decide, by rw [k_unstir]; rfl⟩)) (evda_cons (evd_int (ev_callP (vs := [.int 0, .int 0, .int 0, .int 0]) (by walk_at "ea") fun _ _ => ⟨0, 0, 0, 0, rfl, by decide, ⟨by decide, by decide⟩, ⟨by decide, by decide⟩, ⟨by decide, by decide⟩, by rw [k_spot0]; rfl⟩)) (evda_cons (evd_int (ev_callP (vs := [.int 0, .int 0, .int 0, .int 1]) (by walk_at "ea") fun _ _ => ⟨0, 0, 0, 1, rfl, by decide, ⟨by decide, by decide⟩, ⟨by decide, by decide⟩, ⟨by decide, by decide⟩, by rw [k_spot1]; rfl⟩)) (evda_cons (evd_int (ev_callP (vs := [.int 0, .int 0, .int 0, .int 941293244]) (by walk_at "ea") fun _ _ => ⟨0, 0, 0, 941293244, rfl, by decide, ⟨by decide, by decide⟩, ⟨by decide, by decide⟩, by decide, by rw [k_turn]; rfl⟩)) evda_nil))))
    refine q_asgL (el_lcR1 (fun _ => true) (fun i => .int (drawN 12345 0 0 i 6 : Nat)) (by walk_at "ea") ⟨by decide, by decide⟩ (fun _ => rfl) (fun i H3 e3 hi => fun H4 e4 Q' q' => q' H4 (Ex.refl H4)) (fun i H3 e3 hi _ => ev_callP (vs := [.int 12345, .int 0, .int 0, .int i, .int 6]) (by walk_at "ea") fun _ _ => ⟨12345, 0, 0, i, 6, rfl, by decide, ⟨by decide, by decide⟩, ⟨by decide, by decide⟩, ⟨by omega, by omega⟩, by decide, by decide, rfl⟩)) fun r H3 hr3 e3 h3 => ?_
    have h3 : H3 r = some (.lst (rollsN.map V.int)) := by
      rw [h3]
      unfold given rollsN
      rw [List.map_map, List.filter_eq_self.mpr (fun _ _ => rfl)]
      rfl
    refine s_ret (v := .bl true) (ev_andV (a := true) (b := true) ?_ fun _ => ?_) fun H4 e4 => q H4
    · refine ev_is (ev_eqD (d := .list ([0, 1, 2, 3, 4, 5].map PyData.int)) (e := .list [.int 0, .int 1, .int 2, .int 3, .int 4, .int 5]) (evd_ints ?_) (evd_lst (evda_cons (evd_int ev_c) (evda_cons (evd_int ev_c) (evda_cons (evd_int ev_c) (evda_cons (evd_int ev_c) (evda_cons (evd_int ev_c) (evda_cons (evd_int ev_c) evda_nil)))))) (by decide)) (by decide +kernel) (by decide +kernel)) (by decide +kernel)
      intro H4 e4 Q4 q4
      refine ⟨.ref r, rfl, r, rollsN, rfl, sq_of (e4 _ _ h3), by decide +kernel, fun b c hb hc => ?_⟩
      refine ⟨b, (fun j => decide (j ∈ rollsN)), c, rfl, upd_same, Nat.lt_of_le_of_lt (hc [0, 1, 2, 3, 4, 5] rolls_in) (by decide), fun ms p up mem len hp => ?_⟩
      have same : ms = [0, 1, 2, 3, 4, 5] := sorted_one up (by decide) fun k => ⟨fun x => rolls_in k (by simpa using (mem k).mp x), fun x => (mem k).mpr (by simpa using rolls_all k x)⟩
      subst same
      have ne : p ≠ b := fun z => by rw [z, upd_same] at hp; cases hp
      exact q4 p _ (by rw [upd_ne ne] at hp; exact hp) ((Ex.new hb).trans (Ex.new hp)) upd_same
    · refine ev_is (ev_eqD (d := .list [.int 4, .int 5, .int 99]) (e := .list [.int 4, .int 5, .int 99]) (evd_lst ?_ (by decide)) (evd_lst (evda_cons (evd_int ev_c) (evda_cons (evd_int ev_c) (evda_cons (evd_int ev_c) evda_nil))) (by decide)) (by decide +kernel) (by decide +kernel)) (by decide +kernel)
      exact evda_cons (evd_int (ev_callP (vs := [.int 0, .int 0, .int 0, .int 0, .int 6]) (by walk_at "ea") fun _ _ => ⟨0, 0, 0, 0, 6, rfl, by decide, ⟨by decide, by decide⟩, ⟨by decide, by decide⟩, ⟨by decide, by decide⟩, by decide, by decide, by rw [k_d1]; rfl⟩)) (evda_cons (evd_int (ev_callP (vs := [.int 0, .int 0, .int 0, .int 1, .int 6]) (by walk_at "ea") fun _ _ => ⟨0, 0, 0, 1, 6, rfl, by decide, ⟨by decide, by decide⟩, ⟨by decide, by decide⟩, ⟨by decide, by decide⟩, by decide, by decide, by rw [k_d2]; rfl⟩)) (evda_cons (evd_int (ev_callP (vs := [.int 7, .int 1, .int 3, .int 1, .int 100]) (by walk_at "ea") fun _ _ => ⟨7, 1, 3, 1, 100, rfl, by decide, ⟨by decide, by decide⟩, ⟨by decide, by decide⟩, ⟨by decide, by decide⟩, by decide, by decide, by rw [k_d3]; rfl⟩)) evda_nil))
end
theorem all_mk {l : PySem.W.OpenLaw} {w : World} {K : PySem.W.Frag} {h : Heap} {mg : Str → Option Value} {fa f0 f1 f2 f3 f4 f5 f6 f7 f8 f9 f10 f11 f12 f13 f14 f15 f16 f17 f18 f19 f20 f21 f22 f23 f24 f25 f26 f27 f28 f29 : Addr} (X : K.In h) (G : h.Ns mainGlobals mg) (hfa : mg "law" = some (.ref fa)) {t_MODULUS : Tok} {t_SUMMAND : Tok} {t_MAX_SIDES : Tok} {t_FIFTH_ROOT : Tok}
    {od0 an0 od1 an1 od2 an2 od3 an3 od4 an4 od5 an5 od6 an6 od7 an7 od8 an8 od9 an9 od10 an10 od11 an11 od12 an12 od13 an13 od14 an14 od15 an15 od16 an16 od17 an17 od18 an18 od19 an19 od20 an20 od21 an21 od22 an22 od23 an23 od24 an24 od25 an25 od26 an26 od27 an27 od28 an28 od29 an29 : Option Addr} {sl0 sl1 sl2 sl3 sl4 sl5 sl6 sl7 sl8 sl9 sl10 sl11 sl12 sl13 sl14 sl15 sl16 sl17 sl18 sl19 sl20 sl21 sl22 sl23 sl24 sl25 sl26 sl27 sl28 sl29 : Array (Option Value)} {oc0 kV0 dc0 pm0 cd0 ct0 oc1 kV1 dc1 pm1 cd1 ct1 oc2 kV2 dc2 pm2 cd2 ct2 oc3 kV3 dc3 pm3 cd3 ct3 oc4 kV4 dc4 pm4 cd4 ct4 oc5 kV5 dc5 pm5 cd5 ct5 oc6 kV6 dc6 pm6 cd6 ct6 oc7 kV7 dc7 pm7 cd7 ct7 oc8 kV8 dc8 pm8 cd8 ct8 oc9 kV9 dc9 pm9 cd9 ct9 oc10 kV10 dc10 pm10 cd10 ct10 oc11 kV11 dc11 pm11 cd11 ct11 oc12 kV12 dc12 pm12 cd12 ct12 oc13 kV13 dc13 pm13 cd13 ct13 oc14 kV14 dc14 pm14 cd14 ct14 oc15 kV15 dc15 pm15 cd15 ct15 oc16 kV16 dc16 pm16 cd16 ct16 oc17 kV17 dc17 pm17 cd17 ct17 oc18 kV18 dc18 pm18 cd18 ct18 oc19 kV19 dc19 pm19 cd19 ct19 oc20 kV20 dc20 pm20 cd20 ct20 oc21 kV21 dc21 pm21 cd21 ct21 oc22 kV22 dc22 pm22 cd22 ct22 oc23 kV23 dc23 pm23 cd23 ct23 oc24 kV24 dc24 pm24 cd24 ct24 oc25 kV25 dc25 pm25 cd25 ct25 oc26 kV26 dc26 pm26 cd26 ct26 oc27 kV27 dc27 pm27 cd27 ct27 oc28 kV28 dc28 pm28 cd28 ct28 oc29 kV29 dc29 pm29 cd29 ct29 : Value}
    (a0 : PySem.W.nsIn K mainGlobals "is_integer" = some (some (.ref f0))) (l0 : K.lookup f0 = some ⟨oc0, od0, .func (PySem.W.fnOf "is_integer" "is_integer" (defArgs s_is_integer) (defBody s_is_integer) (defScope s_is_integer) .none kV0 dc0 pm0 an0 cd0 ct0), sl0⟩) (c0 : PySem.W.codeIn K cd0 "is_integer" = true) (k0 : PySem.W.keepIn K (.ref f0) = true)
    (a1 : PySem.W.nsIn K mainGlobals "is_within" = some (some (.ref f1))) (l1 : K.lookup f1 = some ⟨oc1, od1, .func (PySem.W.fnOf "is_within" "is_within" (defArgs s_is_within) (defBody s_is_within) (defScope s_is_within) .none kV1 dc1 pm1 an1 cd1 ct1), sl1⟩) (c1 : PySem.W.codeIn K cd1 "is_within" = true) (k1 : PySem.W.keepIn K (.ref f1) = true)
    (a2 : PySem.W.nsIn K mainGlobals "is_whole" = some (some (.ref f2))) (l2 : K.lookup f2 = some ⟨oc2, od2, .func (PySem.W.fnOf "is_whole" "is_whole" (defArgs s_is_whole) (defBody s_is_whole) (defScope s_is_whole) .none kV2 dc2 pm2 an2 cd2 ct2), sl2⟩) (c2 : PySem.W.codeIn K cd2 "is_whole" = true) (k2 : PySem.W.keepIn K (.ref f2) = true)
    (a3 : PySem.W.nsIn K mainGlobals "need_whole" = some (some (.ref f3))) (l3 : K.lookup f3 = some ⟨oc3, od3, .func (PySem.W.fnOf "need_whole" "need_whole" (defArgs s_need_whole) (defBody s_need_whole) (defScope s_need_whole) .none kV3 dc3 pm3 an3 cd3 ct3), sl3⟩) (c3 : PySem.W.codeIn K cd3 "need_whole" = true) (k3 : PySem.W.keepIn K (.ref f3) = true)
    (a4 : PySem.W.nsIn K mainGlobals "need_within" = some (some (.ref f4))) (l4 : K.lookup f4 = some ⟨oc4, od4, .func (PySem.W.fnOf "need_within" "need_within" (defArgs s_need_within) (defBody s_need_within) (defScope s_need_within) .none kV4 dc4 pm4 an4 cd4 ct4), sl4⟩) (c4 : PySem.W.codeIn K cd4 "need_within" = true) (k4 : PySem.W.keepIn K (.ref f4) = true)
    (a5 : PySem.W.nsIn K mainGlobals "is_luck" = some (some (.ref f5))) (l5 : K.lookup f5 = some ⟨oc5, od5, .func (PySem.W.fnOf "is_luck" "is_luck" (defArgs s_is_luck) (defBody s_is_luck) (defScope s_is_luck) .none kV5 dc5 pm5 an5 cd5 ct5), sl5⟩) (c5 : PySem.W.codeIn K cd5 "is_luck" = true) (k5 : PySem.W.keepIn K (.ref f5) = true)
    (a6 : PySem.W.nsIn K mainGlobals "need_luck" = some (some (.ref f6))) (l6 : K.lookup f6 = some ⟨oc6, od6, .func (PySem.W.fnOf "need_luck" "need_luck" (defArgs s_need_luck) (defBody s_need_luck) (defScope s_need_luck) .none kV6 dc6 pm6 an6 cd6 ct6), sl6⟩) (c6 : PySem.W.codeIn K cd6 "need_luck" = true) (k6 : PySem.W.keepIn K (.ref f6) = true)
    (a7 : PySem.W.nsIn K mainGlobals "power" = some (some (.ref f7))) (l7 : K.lookup f7 = some ⟨oc7, od7, .func (PySem.W.fnOf "power" "power" (defArgs s_power) (defBody s_power) (defScope s_power) .none kV7 dc7 pm7 an7 cd7 ct7), sl7⟩) (c7 : PySem.W.codeIn K cd7 "power" = true) (k7 : PySem.W.keepIn K (.ref f7) = true)
    (a8 : PySem.W.nsIn K mainGlobals "stirred" = some (some (.ref f8))) (l8 : K.lookup f8 = some ⟨oc8, od8, .func (PySem.W.fnOf "stirred" "stirred" (defArgs s_stirred) (defBody s_stirred) (defScope s_stirred) .none kV8 dc8 pm8 an8 cd8 ct8), sl8⟩) (c8 : PySem.W.codeIn K cd8 "stirred" = true) (k8 : PySem.W.keepIn K (.ref f8) = true)
    (a9 : PySem.W.nsIn K mainGlobals "stir" = some (some (.ref f9))) (l9 : K.lookup f9 = some ⟨oc9, od9, .func (PySem.W.fnOf "stir" "stir" (defArgs s_stir) (defBody s_stir) (defScope s_stir) .none kV9 dc9 pm9 an9 cd9 ct9), sl9⟩) (c9 : PySem.W.codeIn K cd9 "stir" = true) (k9 : PySem.W.keepIn K (.ref f9) = true)
    (a10 : PySem.W.nsIn K mainGlobals "unstirred" = some (some (.ref f10))) (l10 : K.lookup f10 = some ⟨oc10, od10, .func (PySem.W.fnOf "unstirred" "unstirred" (defArgs s_unstirred) (defBody s_unstirred) (defScope s_unstirred) .none kV10 dc10 pm10 an10 cd10 ct10), sl10⟩) (c10 : PySem.W.codeIn K cd10 "unstirred" = true) (k10 : PySem.W.keepIn K (.ref f10) = true)
    (a11 : PySem.W.nsIn K mainGlobals "unstir" = some (some (.ref f11))) (l11 : K.lookup f11 = some ⟨oc11, od11, .func (PySem.W.fnOf "unstir" "unstir" (defArgs s_unstir) (defBody s_unstir) (defScope s_unstir) .none kV11 dc11 pm11 an11 cd11 ct11), sl11⟩) (c11 : PySem.W.codeIn K cd11 "unstir" = true) (k11 : PySem.W.keepIn K (.ref f11) = true)
    (a12 : PySem.W.nsIn K mainGlobals "spot_number" = some (some (.ref f12))) (l12 : K.lookup f12 = some ⟨oc12, od12, .func (PySem.W.fnOf "spot_number" "spot_number" (defArgs s_spot_number) (defBody s_spot_number) (defScope s_spot_number) .none kV12 dc12 pm12 an12 cd12 ct12), sl12⟩) (c12 : PySem.W.codeIn K cd12 "spot_number" = true) (k12 : PySem.W.keepIn K (.ref f12) = true)
    (a13 : PySem.W.nsIn K mainGlobals "spot" = some (some (.ref f13))) (l13 : K.lookup f13 = some ⟨oc13, od13, .func (PySem.W.fnOf "spot" "spot" (defArgs s_spot) (defBody s_spot) (defScope s_spot) .none kV13 dc13 pm13 an13 cd13 ct13), sl13⟩) (c13 : PySem.W.codeIn K cd13 "spot" = true) (k13 : PySem.W.keepIn K (.ref f13) = true)
    (a14 : PySem.W.nsIn K mainGlobals "run_number" = some (some (.ref f14))) (l14 : K.lookup f14 = some ⟨oc14, od14, .func (PySem.W.fnOf "run_number" "run_number" (defArgs s_run_number) (defBody s_run_number) (defScope s_run_number) .none kV14 dc14 pm14 an14 cd14 ct14), sl14⟩) (c14 : PySem.W.codeIn K cd14 "run_number" = true) (k14 : PySem.W.keepIn K (.ref f14) = true)
    (a15 : PySem.W.nsIn K mainGlobals "turn_of" = some (some (.ref f15))) (l15 : K.lookup f15 = some ⟨oc15, od15, .func (PySem.W.fnOf "turn_of" "turn_of" (defArgs s_turn_of) (defBody s_turn_of) (defScope s_turn_of) .none kV15 dc15 pm15 an15 cd15 ct15), sl15⟩) (c15 : PySem.W.codeIn K cd15 "turn_of" = true) (k15 : PySem.W.keepIn K (.ref f15) = true)
    (a16 : PySem.W.nsIn K mainGlobals "drawn" = some (some (.ref f16))) (l16 : K.lookup f16 = some ⟨oc16, od16, .func (PySem.W.fnOf "drawn" "drawn" (defArgs s_drawn) (defBody s_drawn) (defScope s_drawn) .none kV16 dc16 pm16 an16 cd16 ct16), sl16⟩) (c16 : PySem.W.codeIn K cd16 "drawn" = true) (k16 : PySem.W.keepIn K (.ref f16) = true)
    (a17 : PySem.W.nsIn K mainGlobals "draw" = some (some (.ref f17))) (l17 : K.lookup f17 = some ⟨oc17, od17, .func (PySem.W.fnOf "draw" "draw" (defArgs s_draw) (defBody s_draw) (defScope s_draw) .none kV17 dc17 pm17 an17 cd17 ct17), sl17⟩) (c17 : PySem.W.codeIn K cd17 "draw" = true) (k17 : PySem.W.keepIn K (.ref f17) = true)
    (a18 : PySem.W.nsIn K mainGlobals "_law_dice" = some (some (.ref f18))) (l18 : K.lookup f18 = some ⟨oc18, od18, .func (PySem.W.fnOf "_law_dice" "_law_dice" (defArgs s_law_dice) (defBody s_law_dice) (defScope s_law_dice) .none kV18 dc18 pm18 an18 cd18 ct18), sl18⟩) (c18 : PySem.W.codeIn K cd18 "_law_dice" = true) (k18 : PySem.W.keepIn K (.ref f18) = true)
    (a19 : PySem.W.nsIn K mainGlobals "_law_roll" = some (some (.ref f19))) (l19 : K.lookup f19 = some ⟨oc19, od19, .func (PySem.W.fnOf "_law_roll" "_law_roll" (defArgs s_law_roll) (defBody s_law_roll) (defScope s_law_roll) .none kV19 dc19 pm19 an19 cd19 ct19), sl19⟩) (c19 : PySem.W.codeIn K cd19 "_law_roll" = true) (k19 : PySem.W.keepIn K (.ref f19) = true)
    (a20 : PySem.W.nsIn K mainGlobals "_law_pick" = some (some (.ref f20))) (l20 : K.lookup f20 = some ⟨oc20, od20, .func (PySem.W.fnOf "_law_pick" "_law_pick" (defArgs s_law_pick) (defBody s_law_pick) (defScope s_law_pick) .none kV20 dc20 pm20 an20 cd20 ct20), sl20⟩) (c20 : PySem.W.codeIn K cd20 "_law_pick" = true) (k20 : PySem.W.keepIn K (.ref f20) = true)
    (a21 : PySem.W.nsIn K mainGlobals "_law_lk_stirred" = some (some (.ref f21))) (l21 : K.lookup f21 = some ⟨oc21, od21, .func (PySem.W.fnOf "_law_lk_stirred" "_law_lk_stirred" (defArgs s_law_lk_stirred) (defBody s_law_lk_stirred) (defScope s_law_lk_stirred) .none kV21 dc21 pm21 an21 cd21 ct21), sl21⟩) (c21 : PySem.W.codeIn K cd21 "_law_lk_stirred" = true) (k21 : PySem.W.keepIn K (.ref f21) = true)
    (a22 : PySem.W.nsIn K mainGlobals "_law_luck_drawn" = some (some (.ref f22))) (l22 : K.lookup f22 = some ⟨oc22, od22, .func (PySem.W.fnOf "_law_luck_drawn" "_law_luck_drawn" (defArgs s_law_luck_drawn) (defBody s_law_luck_drawn) (defScope s_law_luck_drawn) .none kV22 dc22 pm22 an22 cd22 ct22), sl22⟩) (c22 : PySem.W.codeIn K cd22 "_law_luck_drawn" = true) (k22 : PySem.W.keepIn K (.ref f22) = true)
    (a23 : PySem.W.nsIn K mainGlobals "_law_index_drawn" = some (some (.ref f23))) (l23 : K.lookup f23 = some ⟨oc23, od23, .func (PySem.W.fnOf "_law_index_drawn" "_law_index_drawn" (defArgs s_law_index_drawn) (defBody s_law_index_drawn) (defScope s_law_index_drawn) .none kV23 dc23 pm23 an23 cd23 ct23), sl23⟩) (c23 : PySem.W.codeIn K cd23 "_law_index_drawn" = true) (k23 : PySem.W.keepIn K (.ref f23) = true)
    (a24 : PySem.W.nsIn K mainGlobals "_law_spot" = some (some (.ref f24))) (l24 : K.lookup f24 = some ⟨oc24, od24, .func (PySem.W.fnOf "_law_spot" "_law_spot" (defArgs s_law_spot) (defBody s_law_spot) (defScope s_law_spot) .none kV24 dc24 pm24 an24 cd24 ct24), sl24⟩) (c24 : PySem.W.codeIn K cd24 "_law_spot" = true) (k24 : PySem.W.keepIn K (.ref f24) = true)
    (a25 : PySem.W.nsIn K mainGlobals "_law_stirred_right" = some (some (.ref f25))) (l25 : K.lookup f25 = some ⟨oc25, od25, .func (PySem.W.fnOf "_law_stirred_right" "_law_stirred_right" (defArgs s_law_stirred_right) (defBody s_law_stirred_right) (defScope s_law_stirred_right) .none kV25 dc25 pm25 an25 cd25 ct25), sl25⟩) (c25 : PySem.W.codeIn K cd25 "_law_stirred_right" = true) (k25 : PySem.W.keepIn K (.ref f25) = true)
    (a26 : PySem.W.nsIn K mainGlobals "_law_turn_right" = some (some (.ref f26))) (l26 : K.lookup f26 = some ⟨oc26, od26, .func (PySem.W.fnOf "_law_turn_right" "_law_turn_right" (defArgs s_law_turn_right) (defBody s_law_turn_right) (defScope s_law_turn_right) .none kV26 dc26 pm26 an26 cd26 ct26), sl26⟩) (c26 : PySem.W.codeIn K cd26 "_law_turn_right" = true) (k26 : PySem.W.keepIn K (.ref f26) = true)
    (a27 : PySem.W.nsIn K mainGlobals "_law_draws_right" = some (some (.ref f27))) (l27 : K.lookup f27 = some ⟨oc27, od27, .func (PySem.W.fnOf "_law_draws_right" "_law_draws_right" (defArgs s_law_draws_right) (defBody s_law_draws_right) (defScope s_law_draws_right) .none kV27 dc27 pm27 an27 cd27 ct27), sl27⟩) (c27 : PySem.W.codeIn K cd27 "_law_draws_right" = true) (k27 : PySem.W.keepIn K (.ref f27) = true)
    (a28 : PySem.W.nsIn K mainGlobals "_law_right" = some (some (.ref f28))) (l28 : K.lookup f28 = some ⟨oc28, od28, .func (PySem.W.fnOf "_law_right" "_law_right" (defArgs s_law_right) (defBody s_law_right) (defScope s_law_right) .none kV28 dc28 pm28 an28 cd28 ct28), sl28⟩) (c28 : PySem.W.codeIn K cd28 "_law_right" = true) (k28 : PySem.W.keepIn K (.ref f28) = true)
    (a29 : PySem.W.nsIn K mainGlobals "law" = some (some (.ref f29))) (l29 : K.lookup f29 = some ⟨oc29, od29, .func (PySem.W.fnOf "law" "law" (defArgs s_law) (defBody s_law) (defScope s_law) .none kV29 dc29 pm29 an29 cd29 ct29), sl29⟩) (c29 : PySem.W.codeIn K cd29 "law" = true) (k29 : PySem.W.keepIn K (.ref f29) = true)
    (z_abs : PySem.W.nsIn K mainGlobals "abs" = some none)
    (z_max : PySem.W.nsIn K mainGlobals "max" = some none)
    (z_min : PySem.W.nsIn K mainGlobals "min" = some none)
    (z_int : PySem.W.nsIn K mainGlobals "int" = some none)
    (z_len : PySem.W.nsIn K mainGlobals "len" = some none)
    (z_range : PySem.W.nsIn K mainGlobals "range" = some none)
    (z_isinstance : PySem.W.nsIn K mainGlobals "isinstance" = some none)
    (z_sorted : PySem.W.nsIn K mainGlobals "sorted" = some none)
    (z_bool : PySem.W.nsIn K mainGlobals "bool" = some none)
    (z_tuple : PySem.W.nsIn K mainGlobals "tuple" = some none)
    (z_set : PySem.W.nsIn K mainGlobals "set" = some none)
    (v_MODULUS : PySem.W.nsIn K mainGlobals "MODULUS" = some (some (.int 999999937 t_MODULUS)))
    (v_SUMMAND : PySem.W.nsIn K mainGlobals "SUMMAND" = some (some (.int 271829 t_SUMMAND)))
    (v_MAX_SIDES : PySem.W.nsIn K mainGlobals "MAX_SIDES" = some (some (.int 1000 t_MAX_SIDES)))
    (v_FIFTH_ROOT : PySem.W.nsIn K mainGlobals "FIFTH_ROOT" = some (some (.int 799999949 t_FIFTH_ROOT)))
    : ∃ fd : FuncData, (∀ (s : Shared) (v : Value), BindsTo s fd ⟨[v], []⟩ [("script", v)]) ∧ ∀ base : Heap, K.In base → base.Ns mainGlobals mg → FnOk l.prog w K mg base CX0 8 fa fd ["script"] (spLaw K) := by
  have e := hfa.symm.trans (PySem.W.mg_of X G a29)
  cases e
  have F0 := fun_mk (st := s_is_integer) l0 c0 k0
  have b0 := F0.binds (ps := ["value"]) fun _ _ _ _ _ _ us hl => match us, hl with | [_], _ => rfl
  have F1 := fun_mk (st := s_is_within) l1 c1 k1
  have b1 := F1.binds (ps := ["value", "low", "high"]) fun _ _ _ _ _ _ us hl => match us, hl with | [_, _, _], _ => rfl
  have F2 := fun_mk (st := s_is_whole) l2 c2 k2
  have b2 := F2.binds (ps := ["value"]) fun _ _ _ _ _ _ us hl => match us, hl with | [_], _ => rfl
  have F3 := fun_mk (st := s_need_whole) l3 c3 k3
  have b3 := F3.binds (ps := ["value"]) fun _ _ _ _ _ _ us hl => match us, hl with | [_], _ => rfl
  have F4 := fun_mk (st := s_need_within) l4 c4 k4
  have b4 := F4.binds (ps := ["value", "low", "high"]) fun _ _ _ _ _ _ us hl => match us, hl with | [_, _, _], _ => rfl
  have F5 := fun_mk (st := s_is_luck) l5 c5 k5
  have b5 := F5.binds (ps := ["value"]) fun _ _ _ _ _ _ us hl => match us, hl with | [_], _ => rfl
  have F6 := fun_mk (st := s_need_luck) l6 c6 k6
  have b6 := F6.binds (ps := ["value"]) fun _ _ _ _ _ _ us hl => match us, hl with | [_], _ => rfl
  have F7 := fun_mk (st := s_power) l7 c7 k7
  have b7 := F7.binds (ps := ["base", "exponent"]) fun _ _ _ _ _ _ us hl => match us, hl with | [_, _], _ => rfl
  have F8 := fun_mk (st := s_stirred) l8 c8 k8
  have b8 := F8.binds (ps := ["luck"]) fun _ _ _ _ _ _ us hl => match us, hl with | [_], _ => rfl
  have F9 := fun_mk (st := s_stir) l9 c9 k9
  have b9 := F9.binds (ps := ["luck"]) fun _ _ _ _ _ _ us hl => match us, hl with | [_], _ => rfl
  have F10 := fun_mk (st := s_unstirred) l10 c10 k10
  have b10 := F10.binds (ps := ["luck"]) fun _ _ _ _ _ _ us hl => match us, hl with | [_], _ => rfl
  have F11 := fun_mk (st := s_unstir) l11 c11 k11
  have b11 := F11.binds (ps := ["luck"]) fun _ _ _ _ _ _ us hl => match us, hl with | [_], _ => rfl
  have F12 := fun_mk (st := s_spot_number) l12 c12 k12
  have b12 := F12.binds (ps := ["luck", "entry", "thing", "turn"]) fun _ _ _ _ _ _ us hl => match us, hl with | [_, _, _, _], _ => rfl
  have F13 := fun_mk (st := s_spot) l13 c13 k13
  have b13 := F13.binds (ps := ["luck", "entry", "thing", "turn"]) fun _ _ _ _ _ _ us hl => match us, hl with | [_, _, _, _], _ => rfl
  have F14 := fun_mk (st := s_run_number) l14 c14 k14
  have b14 := F14.binds (ps := ["luck", "entry", "thing"]) fun _ _ _ _ _ _ us hl => match us, hl with | [_, _, _], _ => rfl
  have F15 := fun_mk (st := s_turn_of) l15 c15 k15
  have b15 := F15.binds (ps := ["luck", "entry", "thing", "number"]) fun _ _ _ _ _ _ us hl => match us, hl with | [_, _, _, _], _ => rfl
  have F16 := fun_mk (st := s_drawn) l16 c16 k16
  have b16 := F16.binds (ps := ["luck", "entry", "thing", "turn", "sides"]) fun _ _ _ _ _ _ us hl => match us, hl with | [_, _, _, _, _], _ => rfl
  have F17 := fun_mk (st := s_draw) l17 c17 k17
  have b17 := F17.binds (ps := ["luck", "entry", "thing", "turn", "sides"]) fun _ _ _ _ _ _ us hl => match us, hl with | [_, _, _, _, _], _ => rfl
  have F18 := fun_mk (st := s_law_dice) l18 c18 k18
  have b18 := F18.binds (ps := ["script", "spot_v"]) fun _ _ _ _ _ _ us hl => match us, hl with | [_, _], _ => rfl
  have F19 := fun_mk (st := s_law_roll) l19 c19 k19
  have b19 := F19.binds (ps := ["dice", "total"]) fun _ _ _ _ _ _ us hl => match us, hl with | [_, _], _ => rfl
  have F20 := fun_mk (st := s_law_pick) l20 c20 k20
  have b20 := F20.binds (ps := ["dice", "items"]) fun _ _ _ _ _ _ us hl => match us, hl with | [_, _], _ => rfl
  have F21 := fun_mk (st := s_law_lk_stirred) l21 c21 k21
  have b21 := F21.binds (ps := ["luck"]) fun _ _ _ _ _ _ us hl => match us, hl with | [_], _ => rfl
  have F22 := fun_mk (st := s_law_luck_drawn) l22 c22 k22
  have b22 := F22.binds (ps := ["dice"]) fun _ _ _ _ _ _ us hl => match us, hl with | [_], _ => rfl
  have F23 := fun_mk (st := s_law_index_drawn) l23 c23 k23
  have b23 := F23.binds (ps := ["dice"]) fun _ _ _ _ _ _ us hl => match us, hl with | [_], _ => rfl
  have F24 := fun_mk (st := s_law_spot) l24 c24 k24
  have b24 := F24.binds (ps := ["luck", "told"]) fun _ _ _ _ _ _ us hl => match us, hl with | [_, _], _ => rfl
  have F25 := fun_mk (st := s_law_stirred_right) l25 c25 k25
  have b25 := F25.binds (ps := ["luck"]) fun _ _ _ _ _ _ us hl => match us, hl with | [_], _ => rfl
  have F26 := fun_mk (st := s_law_turn_right) l26 c26 k26
  have b26 := F26.binds (ps := ["luck", "told", "goal"]) fun _ _ _ _ _ _ us hl => match us, hl with | [_, _, _], _ => rfl
  have F27 := fun_mk (st := s_law_draws_right) l27 c27 k27
  have b27 := F27.binds (ps := ["dice", "luck", "told"]) fun _ _ _ _ _ _ us hl => match us, hl with | [_, _, _], _ => rfl
  have F28 := fun_mk (st := s_law_right) l28 c28 k28
  have b28 := F28.binds (ps := ["dice"]) fun _ _ _ _ _ _ us hl => match us, hl with | [_], _ => rfl
  have F29 := fun_mk (st := s_law) l29 c29 k29
  let T : Txt K mg w := {
    a_is_integer := f0
    fd_is_integer := _
    F_is_integer := F0
    g_is_integer := PySem.W.mg_of X G a0
    b_is_integer := b0
    a_is_within := f1
    fd_is_within := _
    F_is_within := F1
    g_is_within := PySem.W.mg_of X G a1
    b_is_within := b1
    a_is_whole := f2
    fd_is_whole := _
    F_is_whole := F2
    g_is_whole := PySem.W.mg_of X G a2
    b_is_whole := b2
    a_need_whole := f3
    fd_need_whole := _
    F_need_whole := F3
    g_need_whole := PySem.W.mg_of X G a3
    b_need_whole := b3
    a_need_within := f4
    fd_need_within := _
    F_need_within := F4
    g_need_within := PySem.W.mg_of X G a4
    b_need_within := b4
    a_is_luck := f5
    fd_is_luck := _
    F_is_luck := F5
    g_is_luck := PySem.W.mg_of X G a5
    b_is_luck := b5
    a_need_luck := f6
    fd_need_luck := _
    F_need_luck := F6
    g_need_luck := PySem.W.mg_of X G a6
    b_need_luck := b6
    a_power := f7
    fd_power := _
    F_power := F7
    g_power := PySem.W.mg_of X G a7
    b_power := b7
    a_stirred := f8
    fd_stirred := _
    F_stirred := F8
    g_stirred := PySem.W.mg_of X G a8
    b_stirred := b8
    a_stir := f9
    fd_stir := _
    F_stir := F9
    g_stir := PySem.W.mg_of X G a9
    b_stir := b9
    a_unstirred := f10
    fd_unstirred := _
    F_unstirred := F10
    g_unstirred := PySem.W.mg_of X G a10
    b_unstirred := b10
    a_unstir := f11
    fd_unstir := _
    F_unstir := F11
    g_unstir := PySem.W.mg_of X G a11
    b_unstir := b11
    a_spot_number := f12
    fd_spot_number := _
    F_spot_number := F12
    g_spot_number := PySem.W.mg_of X G a12
    b_spot_number := b12
    a_spot := f13
    fd_spot := _
    F_spot := F13
    g_spot := PySem.W.mg_of X G a13
    b_spot := b13
    a_run_number := f14
    fd_run_number := _
    F_run_number := F14
    g_run_number := PySem.W.mg_of X G a14
    b_run_number := b14
    a_turn_of := f15
    fd_turn_of := _
    F_turn_of := F15
    g_turn_of := PySem.W.mg_of X G a15
    b_turn_of := b15
    a_drawn := f16
    fd_drawn := _
    F_drawn := F16
    g_drawn := PySem.W.mg_of X G a16
    b_drawn := b16
    a_draw := f17
    fd_draw := _
    F_draw := F17
    g_draw := PySem.W.mg_of X G a17
    b_draw := b17
    a_law_dice := f18
    fd_law_dice := _
    F_law_dice := F18
    g_law_dice := PySem.W.mg_of X G a18
    b_law_dice := b18
    a_law_roll := f19
    fd_law_roll := _
    F_law_roll := F19
    g_law_roll := PySem.W.mg_of X G a19
    b_law_roll := b19
    a_law_pick := f20
    fd_law_pick := _
    F_law_pick := F20
    g_law_pick := PySem.W.mg_of X G a20
    b_law_pick := b20
    a_law_lk_stirred := f21
    fd_law_lk_stirred := _
    F_law_lk_stirred := F21
    g_law_lk_stirred := PySem.W.mg_of X G a21
    b_law_lk_stirred := b21
    a_law_luck_drawn := f22
    fd_law_luck_drawn := _
    F_law_luck_drawn := F22
    g_law_luck_drawn := PySem.W.mg_of X G a22
    b_law_luck_drawn := b22
    a_law_index_drawn := f23
    fd_law_index_drawn := _
    F_law_index_drawn := F23
    g_law_index_drawn := PySem.W.mg_of X G a23
    b_law_index_drawn := b23
    a_law_spot := f24
    fd_law_spot := _
    F_law_spot := F24
    g_law_spot := PySem.W.mg_of X G a24
    b_law_spot := b24
    a_law_stirred_right := f25
    fd_law_stirred_right := _
    F_law_stirred_right := F25
    g_law_stirred_right := PySem.W.mg_of X G a25
    b_law_stirred_right := b25
    a_law_turn_right := f26
    fd_law_turn_right := _
    F_law_turn_right := F26
    g_law_turn_right := PySem.W.mg_of X G a26
    b_law_turn_right := b26
    a_law_draws_right := f27
    fd_law_draws_right := _
    F_law_draws_right := F27
    g_law_draws_right := PySem.W.mg_of X G a27
    b_law_draws_right := b27
    a_law_right := f28
    fd_law_right := _
    F_law_right := F28
    g_law_right := PySem.W.mg_of X G a28
    b_law_right := b28
    z_abs := PySem.W.mg_none_of X G z_abs
    z_max := PySem.W.mg_none_of X G z_max
    z_min := PySem.W.mg_none_of X G z_min
    z_int := PySem.W.mg_none_of X G z_int
    z_len := PySem.W.mg_none_of X G z_len
    z_range := PySem.W.mg_none_of X G z_range
    z_isinstance := PySem.W.mg_none_of X G z_isinstance
    z_sorted := PySem.W.mg_none_of X G z_sorted
    z_bool := PySem.W.mg_none_of X G z_bool
    z_tuple := PySem.W.mg_none_of X G z_tuple
    z_set := PySem.W.mg_none_of X G z_set
    t_MODULUS := t_MODULUS
    g_MODULUS := PySem.W.mg_of X G v_MODULUS
    t_SUMMAND := t_SUMMAND
    g_SUMMAND := PySem.W.mg_of X G v_SUMMAND
    t_MAX_SIDES := t_MAX_SIDES
    g_MAX_SIDES := PySem.W.mg_of X G v_MAX_SIDES
    t_FIFTH_ROOT := t_FIFTH_ROOT
    g_FIFTH_ROOT := PySem.W.mg_of X G v_FIFTH_ROOT
  }
  exact ⟨PySem.W.fnOf "law" "law" (defArgs s_law) (defBody s_law) (defScope s_law) .none kV29 dc29 pm29 an29 cd29 ct29, fun s v => .of_eq rfl, fun base _ _ => ok_law T F29⟩
end Kz
open PySem PySem.W PyProof.Rows
set_option maxHeartbeats 0 in
theorem PySem.Challenge.cw_settledplay_k04_whole_stirred_lucks_and_holds : PySem.Challenge.rw_settledplay_k04_whole_stirred_lucks_and.Holds := by
  w_on; o_law; k_head; (case hw => w_witness2)
  k_fill
  refine L2.walk_of (l := PySem.Challenge.rw_settledplay_k04_whole_stirred_lucks_and) (n := 63) (k := 8) (x := "script") (CX := fun _ => L2.CX0) (sp := fun w => Kz.spLaw _) rfl (by decide) rfl ⟨rfl, by decide, by decide⟩ (fun w h Y => PySem.W.kIn_of Y) ?F (fun _ _ a ns hl _ hS => ⟨a, ns, rfl, hS, hl, fun _ => rfl⟩) (fun _ _ _ _ _ h => h)
  case F =>
    intro w mg fa h KX G hmg
    refine' Kz.all_mk KX G hmg ?a0 ?l0 ?c0 ?k0 ?a1 ?l1 ?c1 ?k1 ?a2 ?l2 ?c2 ?k2 ?a3 ?l3 ?c3 ?k3 ?a4 ?l4 ?c4 ?k4 ?a5 ?l5 ?c5 ?k5 ?a6 ?l6 ?c6 ?k6 ?a7 ?l7 ?c7 ?k7 ?a8 ?l8 ?c8 ?k8 ?a9 ?l9 ?c9 ?k9 ?a10 ?l10 ?c10 ?k10 ?a11 ?l11 ?c11 ?k11 ?a12 ?l12 ?c12 ?k12 ?a13 ?l13 ?c13 ?k13 ?a14 ?l14 ?c14 ?k14 ?a15 ?l15 ?c15 ?k15 ?a16 ?l16 ?c16 ?k16 ?a17 ?l17 ?c17 ?k17 ?a18 ?l18 ?c18 ?k18 ?a19 ?l19 ?c19 ?k19 ?a20 ?l20 ?c20 ?k20 ?a21 ?l21 ?c21 ?k21 ?a22 ?l22 ?c22 ?k22 ?a23 ?l23 ?c23 ?k23 ?a24 ?l24 ?c24 ?k24 ?a25 ?l25 ?c25 ?k25 ?a26 ?l26 ?c26 ?k26 ?a27 ?l27 ?c27 ?k27 ?a28 ?l28 ?c28 ?k28 ?a29 ?l29 ?c29 ?k29 ?z_abs ?z_max ?z_min ?z_int ?z_len ?z_range ?z_isinstance ?z_sorted ?z_bool ?z_tuple ?z_set ?v_MODULUS ?v_SUMMAND ?v_MAX_SIDES ?v_FIFTH_ROOT
    (case a0 => k_is)
    (case l0 => k_is)
    (case c0 => k_is)
    (case k0 => k_is)
    (case a1 => k_is)
    (case l1 => k_is)
    (case c1 => k_is)
    (case k1 => k_is)
    (case a2 => k_is)
    (case l2 => k_is)
    (case c2 => k_is)
    (case k2 => k_is)
    (case a3 => k_is)
    (case l3 => k_is)
    (case c3 => k_is)
    (case k3 => k_is)
    (case a4 => k_is)
    (case l4 => k_is)
    (case c4 => k_is)
    (case k4 => k_is)
    (case a5 => k_is)
    (case l5 => k_is)
    (case c5 => k_is)
    (case k5 => k_is)
    (case a6 => k_is)
    (case l6 => k_is)
    (case c6 => k_is)
    (case k6 => k_is)
    (case a7 => k_is)
    (case l7 => k_is)
    (case c7 => k_is)
    (case k7 => k_is)
    (case a8 => k_is)
    (case l8 => k_is)
    (case c8 => k_is)
    (case k8 => k_is)
    (case a9 => k_is)
    (case l9 => k_is)
    (case c9 => k_is)
    (case k9 => k_is)
    (case a10 => k_is)
    (case l10 => k_is)
    (case c10 => k_is)
    (case k10 => k_is)
    (case a11 => k_is)
    (case l11 => k_is)
    (case c11 => k_is)
    (case k11 => k_is)
    (case a12 => k_is)
    (case l12 => k_is)
    (case c12 => k_is)
    (case k12 => k_is)
    (case a13 => k_is)
    (case l13 => k_is)
    (case c13 => k_is)
    (case k13 => k_is)
    (case a14 => k_is)
    (case l14 => k_is)
    (case c14 => k_is)
    (case k14 => k_is)
    (case a15 => k_is)
    (case l15 => k_is)
    (case c15 => k_is)
    (case k15 => k_is)
    (case a16 => k_is)
    (case l16 => k_is)
    (case c16 => k_is)
    (case k16 => k_is)
    (case a17 => k_is)
    (case l17 => k_is)
    (case c17 => k_is)
    (case k17 => k_is)
    (case a18 => k_is)
    (case l18 => k_is)
    (case c18 => k_is)
    (case k18 => k_is)
    (case a19 => k_is)
    (case l19 => k_is)
    (case c19 => k_is)
    (case k19 => k_is)
    (case a20 => k_is)
    (case l20 => k_is)
    (case c20 => k_is)
    (case k20 => k_is)
    (case a21 => k_is)
    (case l21 => k_is)
    (case c21 => k_is)
    (case k21 => k_is)
    (case a22 => k_is)
    (case l22 => k_is)
    (case c22 => k_is)
    (case k22 => k_is)
    (case a23 => k_is)
    (case l23 => k_is)
    (case c23 => k_is)
    (case k23 => k_is)
    (case a24 => k_is)
    (case l24 => k_is)
    (case c24 => k_is)
    (case k24 => k_is)
    (case a25 => k_is)
    (case l25 => k_is)
    (case c25 => k_is)
    (case k25 => k_is)
    (case a26 => k_is)
    (case l26 => k_is)
    (case c26 => k_is)
    (case k26 => k_is)
    (case a27 => k_is)
    (case l27 => k_is)
    (case c27 => k_is)
    (case k27 => k_is)
    (case a28 => k_is)
    (case l28 => k_is)
    (case c28 => k_is)
    (case k28 => k_is)
    (case a29 => k_is)
    (case l29 => k_is)
    (case c29 => k_is)
    (case k29 => k_is)
    (case z_abs => k_is)
    (case z_max => k_is)
    (case z_min => k_is)
    (case z_int => k_is)
    (case z_len => k_is)
    (case z_range => k_is)
    (case z_isinstance => k_is)
    (case z_sorted => k_is)
    (case z_bool => k_is)
    (case z_tuple => k_is)
    (case z_set => k_is)
    (case v_MODULUS => k_is)
    (case v_SUMMAND => k_is)
    (case v_MAX_SIDES => k_is)
    (case v_FIFTH_ROOT => k_is)
