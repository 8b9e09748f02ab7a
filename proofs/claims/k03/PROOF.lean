import PyProof.Rows.All
import Wide.All
import OpenK.AllK
import Wide.FinOn
import HandS.ForMost
import HandS.Wide
import HandS.Evl
import HandS.IsInst
import HandS.RaiseMore
import HandS.More
import HandS.CallLocal
import HandS.Style
import HandS.TupAny
import HandS.Strs
import PySem.Challenge.RW_settledplay_k03_whole_luck_goes_round
set_option Elab.async false
set_option linter.all false
set_option maxRecDepth 100000
set_option maxHeartbeats 4000000
namespace Vr
open PySem PySem.Spec PyProof.Rows L2 Evl
/-! ### rules of calls whose answer is one -/
section
variable {X : Cx}
def rI1 (g : Int → V) : List V → Hp → VK → Prop := fun xs H Q => ∃ i, xs = [.int i] ∧ Q (g i) H
def rB1 (g : Bool → V) : List V → Hp → VK → Prop := fun xs H Q => ∃ i, xs = [.bl i] ∧ Q (g i) H
def rI2 (g : Int → Int → V) : List V → Hp → VK → Prop := fun xs H Q => ∃ i j, xs = [.int i, .int j] ∧ Q (g i j) H
theorem callR_mono {f : Value} {r r' : List V → Hp → VK → Prop} (h : CallR X f r) (k : ∀ vs H Q, r' vs H Q → r vs H Q) : CallR X f r' :=
  fun pins s σ H xs us Q I rv q => h pins s σ H xs us Q I rv (k _ _ _ q)
theorem c_int : CallR X (.type "int") (rI1 fun i => .int i) := callR_mono call_int1 fun _ _ _ h => .inl h
theorem c_intB : CallR X (.type "int") (rB1 fun k => .int (if k then 1 else 0)) := callR_mono call_int1 fun _ _ _ h => .inr h
theorem c_abs : CallR X (.builtin "abs") (rI1 fun i => .int (if i < 0 then -i else i)) := call_abs
theorem c_max (hc : X.calm = true) : CallR X (.builtin "max") (rI2 fun i j => .int (if j > i then j else i)) := call_max2 hc
theorem c_min (hc : X.calm = true) : CallR X (.builtin "min") (rI2 fun i j => .int (if j < i then j else i)) := call_min2 hc
def rRepr : List V → Hp → VK → Prop := fun xs H Q => ∃ i : Int, xs = [.int i] ∧ i.natAbs.log2 < 1920 ∧ Q (.str (toString i)) H
theorem c_repr : CallR X (.builtin "repr") rRepr := SkE.call_repr_int
theorem c_len : CallR X (.builtin "len") (rLenS X.K) := call_len_seq
end
section
variable {K : PySem.W.Frag} {σ : L2.St} {H H' : Hp} {ta tb tc te : TE} {t u : TT} {x y z v : V} {r r' : R2} {D : Ends}
theorem sc_mul {i j : Int} (h : -18446744073709551616 < i ∧ i < 18446744073709551616) : CMul i j := .inl h
theorem sc_div {i j : Int} (h : 0 < j) (h2 : j.natAbs.log2 < 9000) : CDivW i j := ⟨h, h2⟩
theorem rc_I1 {g : Int → V} {i : Int} : RC (rI1 g) [.int i] H (g i) := fun H1 _ _ q => ⟨i, rfl, q H1 (Ex.refl H1)⟩
theorem rc_B1 {g : Bool → V} {i : Bool} : RC (rB1 g) [.bl i] H (g i) := fun H1 _ _ q => ⟨i, rfl, q H1 (Ex.refl H1)⟩
theorem rc_I2 {g : Int → Int → V} {i j : Int} : RC (rI2 g) [.int i, .int j] H (g i j) := fun H1 _ _ q => ⟨i, j, rfl, q H1 (Ex.refl H1)⟩
theorem rc_repr {i : Int} (h : i.natAbs.log2 < 1920) : RC rRepr [.int i] H (.str (toString i)) := fun H1 _ _ q => ⟨i, rfl, h, q H1 (Ex.refl H1)⟩
theorem rc_lenL {p : Addr} {xs : List V} (h : SqL K H p xs) : RC (rLenS K) [.ref p] H (.int (xs.length : Int)) := fun H1 e _ q => ⟨p, xs, rfl, .inl (ex_l e h), q H1 (Ex.refl H1)⟩
theorem ev_chain {a b : Bool} (h1 : Ev ta σ H x) (h2 : Ev tb σ H y) (r1 : RV r x y H (.bl a)) (h3 : Ev tc σ H z) (r2 : RV r' y z H (.bl b)) : Ev (tChain r r' ta tb tc) σ H (.bl (a && b)) := fun H1 e Q q =>
  h1 H1 e _ fun H2 e2 => h2 H2 (e.trans e2) _ fun H3 e3 => r1 H3 ((e.trans e2).trans e3) _ fun H4 e4 => ⟨a, rfl, by
    cases a with
    | true =>
      rw [if_pos rfl]
      exact h3 H4 (((e.trans e2).trans e3).trans e4) _ fun H5 e5 => r2 H5 ((((e.trans e2).trans e3).trans e4).trans e5) _ fun H6 e6 => q H6 ((((e2.trans e3).trans e4).trans e5).trans e6)
    | false =>
      rw [if_neg Bool.false_ne_true]
      exact q H4 ((e2.trans e3).trans e4)⟩
/-- an expression that evaluates, then what follows -/
theorem go {Q : VK} (h : Ev te σ H v) (k : ∀ H1, Ex H H1 → Q v H1) : te σ H Q := h H (Ex.refl H) Q k
theorem goT {b : Bool} {Q : Bool → Hp → Prop} (h : EvT t σ H b) (k : ∀ H1, Ex H H1 → Q b H1) : t σ H Q := h H (Ex.refl H) Q k
theorem goA {ts : TA} {vs : List V} {Q : List V → Hp → Prop} (h : EvA ts σ H vs) (k : ∀ H1, Ex H H1 → Q vs H1) : ts σ H Q := h H (Ex.refl H) Q k
/-! ### promises of defs that answer by their arguments, whatever else they make -/
def Pure (ok : List V → Hp → V → Prop) : Sp := fun vs H Q _ => ∃ z, ok vs H z ∧ ∀ H', Ex H H' → Q z H'
theorem ev_callP {ok : List V → Hp → V → Prop} {E : XK} {ts : TA} {vs : List V} (h : EvA ts σ H vs) (ho : ∀ H1, Ex H H1 → ok vs H1 z) : Ev (tCall (Pure ok) [] E ts) σ H z := fun H1 e Q q =>
  h H1 e _ fun H2 e2 => by
    show Pure ok (vs ++ []) H2 Q E
    rw [List.append_nil]
    exact ⟨z, ho H2 (e.trans e2), fun H3 e3 => q H3 (e2.trans e3)⟩
theorem fin {Q : VK} (k : ∀ H', Ex H H' → Q z H') (e : Ex H H') : Q z H' := k H' e
/-! ### the dice: a list of three ints at p, all else as it was -/
def Exd (p : Addr) (H H' : Hp) : Prop := ∀ a o, a ≠ p → H a = some o → H' a = some o
theorem Exd.refl (p : Addr) (H : Hp) : Exd p H H := fun _ _ _ h => h
theorem Exd.trans {p : Addr} {H H1 H2 : Hp} (a : Exd p H H1) (b : Exd p H1 H2) : Exd p H H2 := fun c o n h => b c o n (a c o n h)
theorem Exd.of {p : Addr} (e : Ex H H') : Exd p H H' := fun a o _ h => e a o h
theorem Exd.upd {p : Addr} {o : HO} : Exd p H (upd H p o) := fun a u n h => by rw [upd_ne n]; exact h
def Dice (p : Addr) (H : Hp) : Prop := ∃ a b c : Int, H p = some (.lst [.int a, .int b, .int c])
theorem Dice.ex {p : Addr} (e : Ex H H') (d : Dice p H) : Dice p H' := by
  obtain ⟨a, b, c, h⟩ := d
  exact ⟨a, b, c, e _ _ h⟩
theorem Exd.l {p a : Addr} {xs : List V} (e : Exd p H H') (n : a ≠ p) (h : SqL K H a xs) : SqL K H' a xs := by
  rcases h with (h | ⟨o, h⟩) | h
  · exact .inl (.inl (e _ _ n h))
  · exact .inl (.inr ⟨o, e _ _ n h⟩)
  · exact .inr h
/-! ### more values -/
theorem ev_ite {b : Bool} {v1 v2 : V} (h : EvT t σ H b) (h1 : b = true → Ev ta σ H v1) (h2 : b = false → Ev tb σ H v2) : Ev (tIf t ta tb) σ H (if b = true then v1 else v2) :=
  ev_if h (fun e => by rw [if_pos e]; exact h1 e) (fun e => by rw [if_neg (by rw [e]; exact Bool.false_ne_true)]; exact h2 e)
theorem ev_pow {a b c : Int} (h : 0 ≤ b ∧ b ≤ 1000000 ∧ a.natAbs < 2 ^ 64) (e : a ^ b.toNat = c) : Ev (tOp (rI CPow fun i j => .int (i ^ j.toNat)) (tC (.int a)) (tC (.int b))) σ H (.int c) := by
  rw [← e]
  exact ev_op ev_c ev_c (rv_I h)
/-- the type of a value, and what isinstance says of int and bool -/
def isIB : V → Bool
  | .int _ => true
  | .bl _ => true
  | _ => false
def isB : V → Bool
  | .bl _ => true
  | _ => false
def isS : V → Bool
  | .str _ => true
  | _ => false
/-- a plain value: its type is a built-in one -/
def Plain (K : PySem.W.Frag) (H : Hp) (x : V) : Prop := ∃ n, TyX K H x (.type n)
theorem isi_int {n : String} (h : TyX K H x (.type n)) : PySem.W.kitOne K (.type n) (.type "int") = some (isIB x) := by
  cases h with
  | base b => cases b <;> first | exact kit_ty (r := false) (by decide +kernel) | exact kit_ty (r := true) (by decide +kernel)
  | byt _ => first | exact kit_ty (r := false) (by decide +kernel) | exact kit_ty (r := true) (by decide +kernel)
  | set _ => first | exact kit_ty (r := false) (by decide +kernel) | exact kit_ty (r := true) (by decide +kernel)
  | kList _ _ => first | exact kit_ty (r := false) (by decide +kernel) | exact kit_ty (r := true) (by decide +kernel)
  | kTuple _ _ => first | exact kit_ty (r := false) (by decide +kernel) | exact kit_ty (r := true) (by decide +kernel)
  | kDict _ _ => first | exact kit_ty (r := false) (by decide +kernel) | exact kit_ty (r := true) (by decide +kernel)
  | fTuple _ => first | exact kit_ty (r := false) (by decide +kernel) | exact kit_ty (r := true) (by decide +kernel)
  | fDict _ => first | exact kit_ty (r := false) (by decide +kernel) | exact kit_ty (r := true) (by decide +kernel)
theorem isi_bool {n : String} (h : TyX K H x (.type n)) : PySem.W.kitOne K (.type n) (.type "bool") = some (isB x) := by
  cases h with
  | base b => cases b <;> first | exact kit_ty (r := false) (by decide +kernel) | exact kit_ty (r := true) (by decide +kernel)
  | byt _ => first | exact kit_ty (r := false) (by decide +kernel) | exact kit_ty (r := true) (by decide +kernel)
  | set _ => first | exact kit_ty (r := false) (by decide +kernel) | exact kit_ty (r := true) (by decide +kernel)
  | kList _ _ => first | exact kit_ty (r := false) (by decide +kernel) | exact kit_ty (r := true) (by decide +kernel)
  | kTuple _ _ => first | exact kit_ty (r := false) (by decide +kernel) | exact kit_ty (r := true) (by decide +kernel)
  | kDict _ _ => first | exact kit_ty (r := false) (by decide +kernel) | exact kit_ty (r := true) (by decide +kernel)
  | fTuple _ => first | exact kit_ty (r := false) (by decide +kernel) | exact kit_ty (r := true) (by decide +kernel)
  | fDict _ => first | exact kit_ty (r := false) (by decide +kernel) | exact kit_ty (r := true) (by decide +kernel)
theorem ty_ex {u : Value} (e : Ex H H') (h : TyX K H x u) : TyX K H' x u := by
  cases h with
  | base b =>
    cases b with
    | non => exact .base .non
    | bl y => exact .base (.bl y)
    | int y => exact .base (.int y)
    | str y => exact .base (.str y)
    | flt y => exact .base (.flt y)
    | lst h => exact .base (.lst (e _ _ h))
    | frz h => exact .base (.frz (e _ _ h))
    | tup h => exact .base (.tup (e _ _ h))
    | dK h => exact .base (.dK (e _ _ h))
    | dT h => exact .base (.dT (e _ _ h))
    | ins h a b c d f => exact .base (.ins (e _ _ h) a b c d f)
  | byt b => exact .byt b
  | set h => exact .set (e _ _ h)
  | kList h c => exact .kList h c
  | kTuple h c => exact .kTuple h c
  | kDict h c => exact .kDict h c
  | fTuple h => exact .fTuple (e _ _ h)
  | fDict h => exact .fDict (e _ _ h)
theorem Plain.ex (e : Ex H H') (h : Plain K H x) : Plain K H' x := by
  obtain ⟨n, h⟩ := h
  exact ⟨n, ty_ex e h⟩
theorem rc_isiInt (h : Plain K H x) : RC (rIsi K) [x, .ty "int"] H (.bl (isIB x)) := fun H1 e Q q => by
  obtain ⟨n, h⟩ := h.ex e
  exact ⟨x, .ty "int", .type n, .type "int", _, rfl, .ty _, h, isi_int h, q H1 (Ex.refl H1)⟩
theorem rc_isiBool (h : Plain K H x) : RC (rIsi K) [x, .ty "bool"] H (.bl (isB x)) := fun H1 e Q q => by
  obtain ⟨n, h⟩ := h.ex e
  exact ⟨x, .ty "bool", .type n, .type "bool", _, rfl, .ty _, h, isi_bool h, q H1 (Ex.refl H1)⟩
/-- an integer of at most sixty digits -/
def isIntV : V → Bool
  | .int i => decide (-1000000000000000000000000000000000000000000000000000000000000 < i) && decide (i < 1000000000000000000000000000000000000000000000000000000000000)
  | _ => false
def isWithin (lo hi : Int) : V → Bool
  | .int i => isIntV (.int i) && (decide (lo ≤ i) && decide (i ≤ hi))
  | _ => false
theorem pl_int {i : Int} : Plain K H (.int i) := ⟨_, .base (.int i)⟩
theorem pl_bl {i : Bool} : Plain K H (.bl i) := ⟨_, .base (.bl i)⟩
theorem pl_str {i : Str} : Plain K H (.str i) := ⟨_, .base (.str i)⟩
theorem pl_non : Plain K H .non := ⟨_, .base .non⟩
theorem pl_lst {a : Addr} {xs : List V} (h : H a = some (.lst xs)) : Plain K H (.ref a) := ⟨_, .base (.lst h)⟩
theorem pl_tup {a : Addr} {xs : List V} (h : H a = some (.tup xs)) : Plain K H (.ref a) := ⟨_, .base (.tup h)⟩
theorem pl_dK {a : Addr} {xs : List (Key × V)} (h : H a = some (.dK xs)) : Plain K H (.ref a) := ⟨_, .base (.dK h)⟩
/-! ### loops over a new tuple -/
variable {tu tw tz : TS} {g : TG}
theorem s_forNU {xs : List V} {tl : TE} (h : EvU tl σ H xs) (Pv : Addr → Nat → L2.St → Hp → Prop) (h0 : ∀ p H1, H p = none → Ex H H1 → H1 p = some (.tup xs) → Pv p 0 σ H1) (hl : ∀ p i σ' H', i ≤ xs.length → Pv p i σ' H' → SqT K H' p xs)
    (hs : ∀ p i x σ' H', xs[i]? = some x → Pv p i σ' H' → g x σ' H' fun σ2 H2 => tu { D with nx := Pv p (i + 1), ct := Pv p (i + 1), bk := D.nx } σ2 H2) (hd : ∀ p σ' H', Pv p xs.length σ' H' → D.nx σ' H') : tFor (iTup K tl) g tu D σ H :=
  h H (Ex.refl H) _ fun p H1 hp e h1 => ⟨p, rfl, ⟨xs, st_of h1⟩, for_tup (Pv p) (h0 p H1 hp e h1) (hl p) (hs p) (hd p)⟩
theorem q_forNU {xs : List V} {tl : TE} (h : EvU tl σ H xs) (Pv : Addr → Nat → L2.St → Hp → Prop) (h0 : ∀ p H1, H p = none → Ex H H1 → H1 p = some (.tup xs) → Pv p 0 σ H1) (hl : ∀ p i σ' H', i ≤ xs.length → Pv p i σ' H' → SqT K H' p xs)
    (hs : ∀ p i x σ' H', xs[i]? = some x → Pv p i σ' H' → g x σ' H' fun σ2 H2 => tu { D with nx := Pv p (i + 1), ct := Pv p (i + 1), bk := tz D } σ2 H2) (hd : ∀ p σ' H', Pv p xs.length σ' H' → tz D σ' H') : tSeq (tFor (iTup K tl) g tu) tz D σ H :=
  s_forNU (D := { D with nx := tz D }) h Pv h0 hl hs hd
/-! ### what draws from the dice -/
def Dv (p : Addr) (te : TE) (σ : L2.St) (H : Hp) (R : V → Prop) : Prop := ∀ H1, Exd p H H1 → Dice p H1 → ∀ Q : VK, (∀ v H2, R v → Exd p H1 H2 → Dice p H2 → Q v H2) → te σ H1 Q
def DvA (p : Addr) (ta : TA) (σ : L2.St) (H : Hp) (R : List V → Prop) : Prop := ∀ H1, Exd p H H1 → Dice p H1 → ∀ Q : List V → Hp → Prop, (∀ v H2, R v → Exd p H1 H2 → Dice p H2 → Q v H2) → ta σ H1 Q
theorem dv_ev {p : Addr} {R : V → Prop} (h : ∀ H1, Exd p H H1 → Dice p H1 → Ev te σ H1 v) (hr : R v) : Dv p te σ H R := fun H1 e d Q q => h H1 e d H1 (Ex.refl H1) Q fun H2 e2 => q v H2 hr (Exd.of e2) (d.ex e2)
theorem Dv.mono {p : Addr} {R R' : V → Prop} (h : Dv p te σ H R) (k : ∀ v, R v → R' v) : Dv p te σ H R' := fun H1 e d Q q => h H1 e d Q fun v H2 r => q v H2 (k v r)
theorem da_nil {p : Addr} {P : V → Prop} : DvA p tNil σ H (fun vs => vs.length = 0 ∧ ∀ v ∈ vs, P v) := fun H1 e d Q q => q [] H1 ⟨rfl, fun _ h => by cases h⟩ (Exd.refl p H1) d
theorem da_cons {p : Addr} {n : Nat} {P : V → Prop} {tr : TA} (h : Dv p te σ H P) (hr : DvA p tr σ H (fun vs => vs.length = n ∧ ∀ v ∈ vs, P v)) : DvA p (tCons te tr) σ H (fun vs => vs.length = n + 1 ∧ ∀ v ∈ vs, P v) := fun H1 e d Q q =>
  h H1 e d _ fun v H2 r e2 d2 => hr H2 (e.trans e2) d2 _ fun vs H3 rs e3 d3 => q (v :: vs) H3 ⟨by rw [List.length_cons, rs.1], fun x hx => by
    rcases List.mem_cons.mp hx with z | z
    · rw [z]; exact r
    · exact rs.2 x z⟩ (e2.trans e3) d3
theorem Exd.none {p a : Addr} (e : Exd p H H') (n : a ≠ p) (h : H' a = none) : H a = none := by
  cases q : H a with
  | none => rfl
  | some o => rw [e a o n q] at h; cases h
theorem Dice.ne {p a : Addr} (d : Dice p H) (h : H a = none) : a ≠ p := by
  obtain ⟨x, y, z, hp⟩ := d
  intro e
  rw [e, hp] at h
  cases h
/-- the call of a def that draws: what it promises of its answer -/
def Draws (ok : List V → Hp → Addr → (V → Prop) → Prop) : Sp := fun vs H Q _ => ∃ (p : Addr) (R : V → Prop), ok vs H p R ∧ Dice p H ∧ ∀ v H', R v → Exd p H H' → Dice p H' → Q v H'
theorem dv_call {ok : List V → Hp → Addr → (V → Prop) → Prop} {E : XK} {ts : TA} {p : Addr} {R : V → Prop} {vs : List V} (h : ∀ H1, Exd p H H1 → Dice p H1 → EvA ts σ H1 vs) (ho : ∀ H1, Exd p H H1 → Dice p H1 → ok vs H1 p R) : Dv p (tCall (Draws ok) [] E ts) σ H R := fun H1 e d Q q =>
  h H1 e d H1 (Ex.refl H1) _ fun H2 e2 => by
    show Draws ok (vs ++ []) H2 Q E
    rw [List.append_nil]
    exact ⟨p, R, ho H2 (e.trans (Exd.of e2)) (d.ex e2), d.ex e2, fun v H3 r e3 d3 => q v H3 r ((Exd.of e2).trans e3) d3⟩
theorem sc_mulr {i j : Int} (h : -18446744073709551616 < j ∧ j < 18446744073709551616) : CMul i j := .inr h
theorem q_asgI {i : Nat} (h : ∃ c : Int, Ev te σ H (.int c)) (k : ∀ (c : Int) H1, Ex H H1 → tz D (σ.set i (some (.int c))) H1) : tSeq (tAsg te (gName i)) tz D σ H := by
  obtain ⟨c, h⟩ := h
  exact q_asg h (k c)
/-! ### data of any depth -/
mutual
theorem dp_ex (e : Ex H H') : ∀ {d : PyData} {x : V}, Dp K H x d → Dp K H' x d
  | _, _, .non => .non
  | _, _, .bl b => .bl b
  | _, _, .int i => .int i
  | _, _, .str z => .str z
  | _, _, .lst h a => .lst (ex_l e h) (dpa_ex e a)
  | _, _, .tup h a => .tup (ex_t e h) (dpa_ex e a)
theorem dpa_ex (e : Ex H H') : ∀ {ds : List PyData} {xs : List V}, DpAll K H xs ds → DpAll K H' xs ds
  | _, _, .nil => .nil
  | _, _, .cons h t => .cons (dp_ex e h) (dpa_ex e t)
end
def EvD (K : PySem.W.Frag) (te : TE) (σ : L2.St) (H : Hp) (d : PyData) : Prop := ∀ H1, Ex H H1 → ∀ Q : VK, (∀ v H2, Ex H1 H2 → Dp K H2 v d → Q v H2) → te σ H1 Q
def EvDA (K : PySem.W.Frag) (ta : TA) (σ : L2.St) (H : Hp) (ds : List PyData) : Prop := ∀ H1, Ex H H1 → ∀ Q : List V → Hp → Prop, (∀ vs H2, Ex H1 H2 → DpAll K H2 vs ds → Q vs H2) → ta σ H1 Q
theorem dpa_len : ∀ {vs : List V} {ds : List PyData}, DpAll K H vs ds → vs.length = ds.length
  | _, _, .nil => rfl
  | _, _, .cons _ t => congrArg (· + 1) (dpa_len t)
theorem evd_of {d : PyData} (h : Ev te σ H v) (hd : ∀ H1, Ex H H1 → Dp K H1 v d) : EvD K te σ H d := fun H1 e Q q => h H1 e Q fun H2 e2 => q v H2 e2 (hd H2 (e.trans e2))
theorem evd_int {i : Int} (h : Ev te σ H (.int i)) : EvD K te σ H (.int i) := evd_of h fun _ _ => .int i
theorem evd_bl {b : Bool} (h : Ev te σ H (.bl b)) : EvD K te σ H (.bool b) := evd_of h fun _ _ => .bl b
theorem evd_str {z : Str} (h : Ev te σ H (.str z)) : EvD K te σ H (.str z) := evd_of h fun _ _ => .str z
theorem evd_non (h : Ev te σ H .non) : EvD K te σ H .none := evd_of h fun _ _ => .non
theorem evda_nil : EvDA K tNil σ H [] := fun H1 _ _ q => q [] H1 (Ex.refl H1) .nil
theorem evda_cons {d : PyData} {ds : List PyData} {tr : TA} (h : EvD K te σ H d) (hr : EvDA K tr σ H ds) : EvDA K (tCons te tr) σ H (d :: ds) := fun H1 e Q q =>
  h H1 e _ fun v H2 e2 hv => hr H2 (e.trans e2) _ fun vs H3 e3 hs => q (v :: vs) H3 (e2.trans e3) (.cons (dp_ex e3 hv) hs)
theorem evd_tup {ds : List PyData} {ts : TA} (h : EvDA K ts σ H ds) (hl : ds.length ≤ 100000) : EvD K (tTup ts) σ H (.tuple ds) := fun H1 e Q q =>
  h H1 e _ fun vs H2 e2 hs => ⟨by rw [dpa_len hs]; exact sz_of hl, fun p hp => q _ _ (e2.trans (Ex.new hp)) (.tup (st_of upd_same) (dpa_ex (Ex.new hp) hs))⟩
theorem evd_lst {ds : List PyData} {ts : TA} (h : EvDA K ts σ H ds) (hl : ds.length ≤ 100000) : EvD K (tLst ts) σ H (.list ds) := fun H1 e Q q =>
  h H1 e _ fun vs H2 e2 hs => ⟨by rw [dpa_len hs]; exact sz_of hl, fun p hp => q _ _ (e2.trans (Ex.new hp)) (.lst (sq_of upd_same) (dpa_ex (Ex.new hp) hs))⟩
theorem ev_eqD {d e : PyData} (h1 : EvD K ta σ H d) (h2 : EvD K tb σ H e) (s1 : SeqAt.shaped d = true) (s2 : SeqAt.shaped e = true) : Ev (tOp (rEqD K) ta tb) σ H (.bl (PyData.eqv d e)) := fun H1 x Q q =>
  h1 H1 x _ fun v H2 x2 hv => h2 H2 (x.trans x2) _ fun u H3 x3 hu => ⟨d, e, dp_ex x3 hv, hu, s1, s2, q H3 (x2.trans x3)⟩
theorem ev_neD {d e : PyData} (h1 : EvD K ta σ H d) (h2 : EvD K tb σ H e) (s1 : SeqAt.shaped d = true) (s2 : SeqAt.shaped e = true) : Ev (tOp (rNeD K) ta tb) σ H (.bl (!PyData.eqv d e)) := fun H1 x Q q =>
  h1 H1 x _ fun v H2 x2 hv => h2 H2 (x.trans x2) _ fun u H3 x3 hu => ⟨d, e, dp_ex x3 hv, hu, s1, s2, q H3 (x2.trans x3)⟩
/-! ### dicts laid on the way -/
def EvPs (trs : List (TE × TE)) (σ : L2.St) (H : Hp) (ps : List (V × V)) : Prop := ∀ H1, Ex H H1 → ∀ Q : List (V × V) → Hp → Prop, (∀ H2, Ex H1 H2 → Q ps H2) → tPairs trs σ H1 Q
theorem eps_nil : EvPs [] σ H [] := fun H1 _ _ q => q H1 (Ex.refl H1)
theorem eps_cons {trs : List (TE × TE)} {ps : List (V × V)} (h1 : Ev ta σ H x) (h2 : Ev tb σ H y) (hr : EvPs trs σ H ps) : EvPs ((ta, tb) :: trs) σ H ((x, y) :: ps) := fun H1 e Q q =>
  h1 H1 e _ fun H2 e2 => h2 H2 (e.trans e2) _ fun H3 e3 => hr H3 ((e.trans e2).trans e3) _ fun H4 e4 => q H4 ((e2.trans e3).trans e4)
def EvK (te : TE) (σ : L2.St) (H : Hp) (kvs : List (Key × V)) : Prop := ∀ H1, Ex H H1 → ∀ Q : VK, (∀ p H2, H1 p = none → Ex H1 H2 → H2 p = some (.dK kvs) → Q (.ref p) H2) → te σ H1 Q
theorem ek_disp {trs : List (TE × TE)} {ps : List (V × V)} (kvs : List (Key × V)) (h : EvPs trs σ H ps) (e : ps = kvs.map fun kv => (kV kv.1, kv.2)) (hl : kvs.length ≤ 15) : EvK (tDisp trs) σ H (mergeK [] kvs) := fun H1 x Q q p hp =>
  h (upd H1 p (.dK [])) (x.trans (Ex.new hp)) _ fun H2 x2 => ⟨x2 _ _ upd_same, kvs, e, hl, q p _ hp (fun a o ha => by rw [upd_ne (ne_of_none ha hp)]; exact x2 _ _ (Ex.new hp _ _ ha)) upd_same⟩
theorem ev_dgetK {kvs : List (Key × V)} {k : Key} (h1 : EvK ta σ H kvs) (h2 : Ev tb σ H (kV k)) (hv : valV kvs k = some v) : Ev (tDGet ta tb) σ H v := fun H1 e Q q =>
  h1 H1 e _ fun p H2 hp e2 h => h2 H2 (e.trans e2) _ fun H3 e3 => ⟨p, v, rfl, by rw [← hv]; exact DGet.k (e3 _ _ h), q H3 (e2.trans e3)⟩
/-! ### sorted ints, an item of a new list -/
theorem el_sorted {tl : TE} {ns ms : List Int} (h : EvL tl σ H (ns.map V.int)) (hl : ns.length < 64) (hp : ms.Perm ns) (hs : ms.Pairwise (· ≤ ·)) : EvL (tCB (rSorted K) (tCons tl tNil)) σ H (ms.map V.int) := fun H1 e Q q =>
  h H1 e _ fun p H2 hp2 e2 h2 => ⟨p, ns, rfl, sq_of h2, hl, fun ns' a hp' hs' ha => by
    have z : ns' = ms := PySem.W.ksm_same (hp'.trans hp.symm) hs' hs
    rw [z]
    exact q a _ (fresh_back e2 ha) (e2.trans (Ex.new ha)) upd_same⟩
theorem ev_ixN {xs : List V} {i : Int} (h : EvL ta σ H xs) (hb : ∀ H1, Ex H H1 → Ev tb σ H1 (.int i)) (ha : atI xs i = some v) : Ev (tOp (rIxL K) ta tb) σ H v := ev_opL1 h hb fun p H1 hp _ => rv_ixL (sq_of hp) ha
theorem q_asgDL {p : Addr} {i : Nat} {ts : TA} {R : List V → Prop} (h : DvA p ts σ H R) (hd : Dice p H) (hl : ∀ vs, R vs → vs.length ≤ 100000) (k : ∀ l xs H1, R xs → Exd p H H1 → Dice p H1 → H1 l = some (.lst xs) → l ≠ p → tz D (σ.set i (some (.ref l))) H1) : tSeq (tAsg (tLst ts) (gName i)) tz D σ H :=
  h H (Exd.refl p H) hd _ fun xs H1 hx e1 d1 => ⟨sz_of (hl xs hx), fun l hl => k l xs _ hx (e1.trans (Exd.of (Ex.new hl))) (d1.ex (Ex.new hl)) upd_same (d1.ne hl)⟩
/-- xs + [drawn things]: a new list of both -/
theorem cat_go {p : Addr} {ts : TA} {R : List V → Prop} {l : Addr} {i : Nat} {xs : List V} {Q : VK} (h : DvA p ts σ H R) (hd : Dice p H) (hx : H l = some (.lst xs)) (hlp : l ≠ p) (hi : σ[i]? = some (some (.ref l))) (hl : ∀ ys, R ys → xs.length + ys.length ≤ 100000)
    (k : ∀ ys l4 H', R ys → Exd p H H' → Dice p H' → H' l4 = some (.lst (xs ++ ys)) → l4 ≠ p → Q (.ref l4) H') : tOp rCat (tVar i) (tLst ts) σ H Q :=
  ⟨.ref l, hi, h H (Exd.refl p H) hd _ fun ys H3 hy e3 d3 => ⟨sz_of (Nat.le_trans (Nat.le_add_left _ _) (hl ys hy)), fun l2 hl2 => ⟨l, l2, xs, ys, rfl, rfl, Ex.new hl2 _ _ (e3 _ _ hlp hx), upd_same, sz_of (hl ys hy), fun l4 hl4 =>
    k ys l4 _ hy (e3.trans ((Exd.of (Ex.new hl2)).trans (Exd.of (Ex.new hl4)))) ((d3.ex (Ex.new hl2)).ex (Ex.new hl4)) upd_same ((d3.ex (Ex.new hl2)).ne hl4)⟩⟩⟩
/-- a if t else b, as a test -/
def tIfT (t u1 u2 : TT) : TT := fun σ H Q => t σ H fun c H1 => if c = true then u1 σ H1 Q else u2 σ H1 Q
theorem pt_ifExp {X : Cx} {c a b : Expr} {pos : Pos} {tA t1 t2 : TT} (hc : PT X c tA) (ha : PT X a t1) (hb : PT X b t2) : PT X (.IfExp c a b pos) (tIfT tA t1 t2) := by
  refine ⟨fun pins s σ H Q I h => ?_⟩
  refine isTrue_IfExp (thn (hc.run pins s σ H _ I h) fun d s1 ⟨H1, I1, q1⟩ => ?_)
  cases d with
  | true => exact ha.run pins s1 σ H1 Q I1 q1
  | false => exact hb.run pins s1 σ H1 Q I1 q1
theorem et_ifT {u1 u2 : TT} {b c : Bool} (h : EvT t σ H b) (h1 : b = true → EvT u1 σ H c) (h2 : b = false → EvT u2 σ H c) : EvT (tIfT t u1 u2) σ H c := fun H1 e Q q => h H1 e _ fun H2 e2 => by
  cases b with
  | true =>
    rw [if_pos rfl]
    exact h1 rfl H2 (e.trans e2) Q fun H3 e3 => q H3 (e2.trans e3)
  | false =>
    rw [if_neg Bool.false_ne_true]
    exact h2 rfl H2 (e.trans e2) Q fun H3 e3 => q H3 (e2.trans e3)
/-- a, b = a new tuple of two -/
theorem q_asg2U {i j : Nat} {v1 v2 : V} (h : EvU te σ H [v1, v2]) (k : ∀ H1, Ex H H1 → tz D ((σ.set i (some v1)).set j (some v2)) H1) : tSeq (tAsg te (gTup K 2 (gCons (gName i) (gCons (gName j) gNil)))) tz D σ H :=
  h H (Ex.refl H) _ fun p H1 hp e hl => ⟨p, [v1, v2], rfl, st_of hl, rfl, v1, [v2], rfl, v2, [], rfl, rfl, k H1 e⟩
/-! ### tests that hang on the dice, calls with a new tuple -/
def DvT (p : Addr) (t : TT) (σ : L2.St) (H : Hp) : Prop := ∀ H1, Exd p H H1 → Dice p H1 → ∀ Q : Bool → Hp → Prop, (∀ b H2, Exd p H1 H2 → Dice p H2 → Q b H2) → t σ H1 Q
def IntV (v : V) : Prop := ∃ n : Int, v = .int n
theorem dvt_eq {p : Addr} {k : Int} (h : Dv p ta σ H IntV) : DvT p (tTest (tOp rEq ta (tC (.int k)))) σ H := fun H1 e d Q q =>
  h H1 e d _ fun v H2 hv e2 d2 => by
    obtain ⟨n, rfl⟩ := hv
    exact ⟨rfl, _, rfl, q _ H2 e2 d2⟩
theorem dv_if {p : Addr} {R : V → Prop} (h : DvT p t σ H) (h1 : Dv p ta σ H R) (h2 : Dv p tb σ H R) : Dv p (tIf t ta tb) σ H R := fun H1 e d Q q =>
  h H1 e d _ fun b H2 e2 d2 => by
    cases b with
    | true =>
      rw [if_pos rfl]
      exact h1 H2 (e.trans e2) d2 Q fun v H3 r e3 d3 => q v H3 r (e2.trans e3) d3
    | false =>
      rw [if_neg Bool.false_ne_true]
      exact h2 H2 (e.trans e2) d2 Q fun v H3 r e3 d3 => q v H3 r (e2.trans e3) d3
theorem dv_op {p : Addr} {R1 R2' R : V → Prop} (h1 : Dv p ta σ H R1) (h2 : Dv p tb σ H R2') (hr : ∀ x y H1, R1 x → R2' y → ∃ z, RV r x y H1 z ∧ R z) : Dv p (tOp r ta tb) σ H R := fun H1 e d Q q =>
  h1 H1 e d _ fun x H2 hx e2 d2 => h2 H2 (e.trans e2) d2 _ fun y H3 hy e3 d3 => by
    obtain ⟨z, hz, rz⟩ := hr x y H3 hx hy
    exact hz H3 (Ex.refl H3) Q fun H4 e4 => q z H4 rz ((e2.trans e3).trans (Exd.of e4)) (d3.ex e4)
theorem dv_c {p : Addr} {R : V → Prop} (hr : R v) : Dv p (tC v) σ H R := dv_ev (fun H1 _ _ => ev_c) hr
theorem dv_var {p : Addr} {i : Nat} {R : V → Prop} (h : σ[i]? = some (some v)) (hr : R v) : Dv p (tVar i) σ H R := dv_ev (fun H1 _ _ => ev_var h) hr
theorem ev_callU {ok : List V → Hp → V → Prop} {E : XK} {xs : List V} (h1 : Ev ta σ H x) (h2 : EvU tb σ H xs) (ho : ∀ p H1, Ex H H1 → H1 p = some (.tup xs) → ok [x, .ref p] H1 z) : Ev (tCall (Pure ok) [] E (tCons ta (tCons tb tNil))) σ H z := fun H1 e Q q =>
  h1 H1 e _ fun H2 e2 => h2 H2 (e.trans e2) _ fun p H3 hp e3 h3 => ⟨z, ho p H3 ((e.trans e2).trans e3) h3, fun H4 e4 => q H4 ((e2.trans e3).trans e4)⟩
/-- a call that draws, whose last argument is a new list -/
theorem dv_pickL {ok : List V → Hp → Addr → (V → Prop) → Prop} {E : XK} {p : Addr} {R : V → Prop} {xs : List V} {i : Nat} (hs : σ[i]? = some (some (.ref p))) (h : ∀ H1, Exd p H H1 → Dice p H1 → EvL tb σ H1 xs) (ho : ∀ l H1, Exd p H H1 → Dice p H1 → l ≠ p → H1 l = some (.lst xs) → ok [.ref p, .ref l] H1 p R) :
    Dv p (tCall (Draws ok) [] E (tCons (tVar i) (tCons tb tNil))) σ H R := fun H1 e d Q q => ⟨.ref p, hs, h H1 e d H1 (Ex.refl H1) _ fun l H2 hl e2 h2 => ⟨p, R, ho l H2 (e.trans (Exd.of e2)) (d.ex e2) (d.ne hl) h2, d.ex e2, fun v H3 r e3 d3 => q v H3 r ((Exd.of e2).trans e3) d3⟩⟩
theorem q_asgDv {p : Addr} {i : Nat} {R : V → Prop} (h : Dv p te σ H R) (hd : Dice p H) (k : ∀ v H1, R v → Exd p H H1 → Dice p H1 → tz D (σ.set i (some v)) H1) : tSeq (tAsg te (gName i)) tz D σ H := h H (Exd.refl p H) hd _ fun v H1 r e1 d1 => k v H1 r e1 d1
theorem s_retDv {p : Addr} {R : V → Prop} (h : Dv p te σ H R) (hd : Dice p H) (k : ∀ v H1, R v → Exd p H H1 → Dice p H1 → D.rt v H1) : tRet te D σ H := h H (Exd.refl p H) hd _ fun v H1 r e1 d1 => k v H1 r e1 d1
theorem q_par {ts : TA} {i j : Nat} {v1 v2 : V} (h : EvA ts σ H [v1, v2]) (k : ∀ H1, Ex H H1 → tz D ((σ.set i (some v1)).set j (some v2)) H1) : tSeq (tPar i j ts) tz D σ H := h H (Ex.refl H) _ fun H1 e1 => ⟨v1, v2, rfl, k H1 e1⟩
theorem q_parDv {p : Addr} {i j : Nat} {R1 R2' : V → Prop} (h1 : Dv p ta σ H R1) (h2 : Dv p tb σ H R2') (hd : Dice p H) (k : ∀ v1 v2 H1, R1 v1 → R2' v2 → Exd p H H1 → Dice p H1 → tz D ((σ.set i (some v1)).set j (some v2)) H1) : tSeq (tPar i j (tCons ta (tCons tb tNil))) tz D σ H :=
  h1 H (Exd.refl p H) hd _ fun v1 H1 r1 e1 d1 => h2 H1 e1 d1 _ fun v2 H2 r2 e2 d2 => ⟨v1, v2, rfl, k v1 v2 H2 r1 r2 (e1.trans e2) d2⟩
/-! ### tests that are known, whatever the dice did -/
def DvF (p : Addr) (t : TT) (σ : L2.St) (H : Hp) (b : Bool) : Prop := ∀ H1, Exd p H H1 → Dice p H1 → ∀ Q : Bool → Hp → Prop, (∀ H2, Exd p H1 H2 → Dice p H2 → Q b H2) → t σ H1 Q
theorem dvf_et {p : Addr} {b : Bool} (h : ∀ H1, Exd p H H1 → Dice p H1 → EvT t σ H1 b) : DvF p t σ H b := fun H1 e d Q q => h H1 e d H1 (Ex.refl H1) Q fun H2 e2 => q H2 (Exd.of e2) (d.ex e2)
theorem dvf_or {p : Addr} {b : Bool} (h1 : DvF p t σ H false) (h2 : DvF p u σ H b) : DvF p (tOr t u) σ H b := fun H1 e d Q q => h1 H1 e d _ fun H2 e2 d2 => by
  rw [if_neg Bool.false_ne_true]
  exact h2 H2 (e.trans e2) d2 Q fun H3 e3 d3 => q H3 (e2.trans e3) d3
theorem dvf_not {p : Addr} {b : Bool} (h : DvF p t σ H b) : DvF p (tNot t) σ H (!b) := fun H1 e d Q q => h H1 e d _ fun H2 e2 d2 => q H2 e2 d2
theorem dvf_B {p : Addr} {b : Bool} (h : Dv p te σ H (fun v => v = .bl b)) : DvF p (tB te) σ H b := fun H1 e d Q q => h H1 e d _ fun v H2 hv e2 d2 => ⟨b, hv, q H2 e2 d2⟩
theorem q_whenF {p : Addr} (h : DvF p t σ H false) (hd : Dice p H) (k : ∀ H1, Exd p H H1 → Dice p H1 → tz D σ H1) : tSeq (tIfS t tu tNext) tz D σ H := h H (Exd.refl p H) hd _ fun H1 e1 d1 => by
  rw [if_neg Bool.false_ne_true]
  exact k H1 e1 d1
/-! ### tuples, whatever the dice did -/
def DvU (K : PySem.W.Frag) (p : Addr) (te : TE) (σ : L2.St) (H : Hp) (R : List V → Prop) : Prop := ∀ H1, Exd p H H1 → Dice p H1 → ∀ Q : VK, (∀ b xs H2, R xs → b ≠ p → Exd p H1 H2 → Dice p H2 → SqT K H2 b xs → Q (.ref b) H2) → te σ H1 Q
theorem Exd.tt {p a : Addr} {xs : List V} (e : Exd p H H') (n : a ≠ p) (h : SqT K H a xs) : SqT K H' a xs := by
  rcases h with (h | ⟨o, h⟩) | h
  · exact .inl (.inl (e _ _ n h))
  · exact .inl (.inr ⟨o, e _ _ n h⟩)
  · exact .inr h
theorem du_sl {p a : Addr} {i : Nat} {xs : List V} {lo hi : Option Int} {tl th : TO} (hs : σ[i]? = some (some (.ref a))) (hap : a ≠ p) (hT : SqT K H a xs) (hl : ∀ H1, EvO tl σ H1 lo) (hh : ∀ H1, EvO th σ H1 hi) (hc : HT.sIx xs.length 0 lo = 0 ∧ HT.sIx xs.length xs.length hi = xs.length → cutV xs lo hi = xs) :
    DvU K p (tSl (rSlA K) (tVar i) tl th) σ H (fun ys => ys = cutV xs lo hi) := fun H1 e d Q q => ⟨.ref a, hs, hl H1 H1 (Ex.refl H1) _ fun H2 e2 => hh H2 H2 (Ex.refl H2) _ fun H3 e3 => ⟨a, xs, rfl, ex_t (e2.trans e3) (e.tt hap hT),
  fun z => q a xs H3 (hc z).symm hap (Exd.of (e2.trans e3)) (d.ex (e2.trans e3)) (ex_t (e2.trans e3) (e.tt hap hT)),
  fun _ b hb => q b _ _ rfl ((d.ex (e2.trans e3)).ne hb) (Exd.of ((e2.trans e3).trans (Ex.new hb))) (d.ex ((e2.trans e3).trans (Ex.new hb))) (st_of upd_same)⟩⟩
theorem du_one {p : Addr} {R : V → Prop} (h : Dv p te σ H R) : DvU K p (tTup (tCons te tNil)) σ H (fun ys => ∃ v, ys = [v] ∧ R v) := fun H1 e d Q q => h H1 e d _ fun v H2 hv e2 d2 => ⟨by show 1 ≤ sizeLine; decide, fun b hb => q b [v] _ ⟨v, rfl, hv⟩ (d2.ne hb) (e2.trans (Exd.of (Ex.new hb))) (d2.ex (Ex.new hb)) (st_of upd_same)⟩
theorem du_cat {p : Addr} {R1 R2' R : List V → Prop} (h1 : DvU K p ta σ H R1) (h2 : DvU K p tb σ H R2') (hr : ∀ xs ys, R1 xs → R2' ys → R (xs ++ ys) ∧ xs.length + ys.length ≤ 100000) : DvU K p (tOp (rCatA K) ta tb) σ H R := fun H1 e d Q q =>
  h1 H1 e d _ fun a xs H2 hx ha e2 d2 h2x => h2 H2 (e.trans e2) d2 _ fun b ys H3 hy hb e3 d3 h3y => by
    obtain ⟨r1, r2⟩ := hr xs ys hx hy
    refine ⟨a, b, xs, ys, rfl, rfl, e3.tt ha h2x, h3y, sz_of r2, fun z => ?_, fun _ z => ?_, fun _ _ c hc => ?_⟩
    · subst z
      exact q b ys H3 r1 hb (e2.trans e3) d3 h3y
    · subst z
      rw [List.append_nil] at r1
      exact q a xs H3 r1 ha (e2.trans e3) d3 (e3.tt ha h2x)
    · exact q c _ _ r1 (d3.ne hc) ((e2.trans e3).trans (Exd.of (Ex.new hc))) (d3.ex (Ex.new hc)) (st_of upd_same)
theorem q_asgU2 {p : Addr} {i : Nat} {R : List V → Prop} (h : DvU K p te σ H R) (hd : Dice p H) (k : ∀ b xs H1, R xs → b ≠ p → Exd p H H1 → Dice p H1 → SqT K H1 b xs → tz D (σ.set i (some (.ref b))) H1) : tSeq (tAsg te (gName i)) tz D σ H := h H (Exd.refl p H) hd _ fun b xs H1 hx hb e1 d1 hT => k b xs H1 hx hb e1 d1 hT
def rTupL (K : PySem.W.Frag) : List V → Hp → VK → Prop := fun xs H Q => ∃ p ys, xs = [.ref p] ∧ SqL K H p ys ∧ ∀ l, H l = none → Q (.ref l) (upd H l (.tup ys))
theorem c_tupL {X : Cx} : CallR X (.type "tuple") (rTupL X.K) := callR_mono call_tuple_of fun vs H Q h => by
  obtain ⟨p, ys, e, hs, k⟩ := h
  exact ⟨p, ys, e, .inl ⟨hs, k⟩⟩
/-- [e for x in range(n)], each e drawn -/
theorem dl_lcR {p : Addr} {n j : Nat} {vs : List Nat} {R : V → Prop} {Q : VK} (hw : ∀ x, wipe ((wipe σ vs).set j (some x)) vs = wipe σ vs) (hn : n ≤ 1000) (he : ∀ i : Nat, i < n → Dv p te ((wipe σ vs).set j (some (.int (0 + (i : Int))))) H R) (hd : Dice p H)
    (k : ∀ l xs H2, (xs.length = n ∧ ∀ v ∈ xs, R v) → l ≠ p → Exd p H H2 → Dice p H2 → H2 l = some (.lst xs) → Q (.ref l) H2) : tLc (iRng1 (tCons (tC (.int n)) tNil)) (gName j) tYes te vs σ H Q :=
  ⟨n, rfl, by omega, by omega, fun Dl hD => by
    have hDp : Dl ≠ p := hd.ne hD
    rw [show ((n : Int).toNat) = n from Int.toNat_natCast n]
    refine lc_range (fun i H' => Exd p H H' ∧ Dice p H' ∧ ∃ acc, H' Dl = some (.lst acc) ∧ acc.length = i ∧ ∀ v ∈ acc, R v) ⟨Exd.of (Ex.new hD), hd.ex (Ex.new hD), [], upd_same, rfl, fun _ h => by cases h⟩ ?_ ?_
    · rintro i H' hi ⟨e', d', acc, hacc, hlen, hR⟩
      refine ⟨hw _, ?_⟩
      unfold tYes
      dsimp only
      rw [if_pos rfl]
      refine he i hi H' e' d' _ fun v H4 hv e4 d4 => ⟨acc, e4 _ _ hDp hacc, sz_lt (by omega), fun a o ha ho => ?_, ?_, acc ++ [v], upd_same, by rw [List.length_append, hlen]; rfl, fun x hx => ?_⟩
      · rw [upd_ne (ne_of_none ho hD)]
        exact e4 _ _ ha (e' _ _ ha ho)
      · obtain ⟨x, y, z, h⟩ := d4
        exact ⟨x, y, z, by rw [upd_ne (Ne.symm hDp)]; exact h⟩
      · rcases List.mem_append.mp hx with z | z
        · exact hR x z
        · rw [List.mem_singleton.mp z]; exact hv
    · rintro H' ⟨e', d', acc, hacc, hlen, hR⟩
      exact k Dl acc H' ⟨hlen, hR⟩ hDp e' d' hacc⟩
theorem du_tupLc {p : Addr} {n j : Nat} {vs : List Nat} {R : V → Prop} (hw : ∀ x, wipe ((wipe σ vs).set j (some x)) vs = wipe σ vs) (hn : n ≤ 1000) (he : ∀ i : Nat, i < n → Dv p te ((wipe σ vs).set j (some (.int (0 + (i : Int))))) H R) :
    DvU K p (tCB (rTupL K) (tCons (tLc (iRng1 (tCons (tC (.int n)) tNil)) (gName j) tYes te vs) tNil)) σ H (fun ys => ys.length = n ∧ ∀ v ∈ ys, R v) := fun H1 e d Q q =>
  dl_lcR (Q := fun x H2 => rTupL K [x] H2 Q) hw hn (fun i hi H2 e2 => he i hi H2 (e.trans e2)) d fun l xs H2 hx hl e2 d2 h2 => ⟨l, xs, rfl, sq_of h2, fun b hb => q b xs _ hx (d2.ne hb) (e2.trans (Exd.of (Ex.new hb))) (d2.ex (Ex.new hb)) (st_of upd_same)⟩
theorem q_parU {p : Addr} {i j : Nat} {R1 : V → Prop} {R2' : List V → Prop} (h1 : Dv p ta σ H R1) (h2 : DvU K p tb σ H R2') (hd : Dice p H) (k : ∀ v1 b xs H1, R1 v1 → R2' xs → b ≠ p → Exd p H H1 → Dice p H1 → SqT K H1 b xs → tz D ((σ.set i (some v1)).set j (some (.ref b))) H1) : tSeq (tPar i j (tCons ta (tCons tb tNil))) tz D σ H :=
  h1 H (Exd.refl p H) hd _ fun v1 H1 r1 e1 d1 => h2 H1 e1 d1 _ fun b xs H2 hx hb e2 d2 hT => ⟨v1, .ref b, rfl, k v1 b xs H2 r1 hx hb (e1.trans e2) d2 hT⟩
theorem s_retCallDv {p : Addr} {ok : List V → Hp → V → Prop} {E : XK} {R : V → Prop} {i j : Nat} {x1 x2 : V} (h1 : σ[i]? = some (some x1)) (h2 : σ[j]? = some (some x2)) (h3 : Dv p te σ H R) (hd : Dice p H) (k : ∀ v H1, R v → Exd p H H1 → Dice p H1 → ok [x1, x2, v] H1 z) (q : ∀ H1, Exd p H H1 → Dice p H1 → D.rt z H1) :
    tRet (tCall (Pure ok) [] E (tCons (tVar i) (tCons (tVar j) (tCons te tNil)))) D σ H := ⟨x1, h1, x2, h2, h3 H (Exd.refl p H) hd _ fun v H1 r e1 d1 => ⟨z, k v H1 r e1 d1, fun H2 e2 => q H2 (e1.trans (Exd.of e2)) (d1.ex e2)⟩⟩
theorem s_whenF {p : Addr} (h : DvF p t σ H false) (hd : Dice p H) (k : ∀ H1, Exd p H H1 → Dice p H1 → D.nx σ H1) : tIfS t tu tNext D σ H := h H (Exd.refl p H) hd _ fun H1 e1 d1 => by
  rw [if_neg Bool.false_ne_true]
  exact k H1 e1 d1
/-- what the dice did is nothing to a heap that has not got them -/
theorem Exd.out {p : Addr} {H0 : Hp} (e : Exd p H H') (e0 : Ex H0 H) (h : H0 p = Option.none) : Ex H0 H' := fun a o ho => e a o (fun z => by rw [z, h] at ho; cases ho) (e0 a o ho)
theorem dpa_ints : ∀ ns : List Int, DpAll K H (ns.map V.int) (ns.map PyData.int)
  | [] => .nil
  | n :: ns => .cons (.int n) (dpa_ints ns)
theorem evd_ints {ns : List Int} (h : EvL te σ H (ns.map V.int)) : EvD K te σ H (.list (ns.map PyData.int)) := fun H1 e Q q => h H1 e Q fun p H2 _ e2 h2 => q _ H2 e2 (.lst (sq_of h2) (dpa_ints ns))
end
end Vr
set_option linter.all false
set_option maxRecDepth 100000
namespace Pm
/-! ### 999999937 is a prime number -/
def chk : Nat → Nat → Bool
  | 0, lo => 999999937 % lo != 0
  | k + 1, lo => chk k lo && chk k (lo + 2 ^ k)
theorem chk_ok : ∀ {k lo : Nat}, chk k lo = true → ∀ d, lo ≤ d → d < lo + 2 ^ k → 999999937 % d ≠ 0
  | 0, lo, h, d, h1, h2 => by
    have e : d = lo := by simp at h2; omega
    subst e
    simpa [chk] using h
  | k + 1, lo, h, d, h1, h2 => by
    have h := Bool.and_eq_true_iff.mp (show (chk k lo && chk k (lo + 2 ^ k)) = true from h)
    by_cases hd : d < lo + 2 ^ k
    · exact chk_ok h.1 d h1 hd
    · exact chk_ok h.2 d (by omega) (by rw [Nat.pow_succ] at h2; omega)
theorem chk_all : chk 15 2 = true := by decide +kernel
abbrev p : Nat := 999999937
theorem dvd_p {d : Nat} (h : d ∣ p) : d = 1 ∨ d = p := by
  obtain ⟨e, he⟩ := h
  have no : ∀ x, x ∣ p → 2 ≤ x → x < 32770 → False := fun x hx h2 h3 => chk_ok chk_all x h2 (by omega) (Nat.mod_eq_zero_of_dvd hx)
  by_cases h1 : d < 2
  · have : d ≠ 0 := by rintro rfl; simp at he
    left; omega
  · by_cases h2 : d < 32770
    · exact (no d ⟨e, he⟩ (by omega) h2).elim
    · by_cases h3 : e < 2
      · have : e ≠ 0 := by rintro rfl; simp at he
        have e1 : e = 1 := by omega
        subst e1
        right; omega
      · by_cases h4 : e < 32770
        · exact (no e ⟨d, by rw [he, Nat.mul_comm]⟩ (by omega) h4).elim
        · have h5 : 32770 * 32770 ≤ d * e := Nat.mul_le_mul (by omega) (by omega)
          have h6 : 999999937 = d * e := he
          omega
theorem euclid {a b : Nat} (h : p ∣ a * b) : p ∣ a ∨ p ∣ b := by
  rcases dvd_p (Nat.gcd_dvd_left p a) with e | e
  · exact .inr (Nat.Coprime.dvd_of_dvd_mul_left (show Nat.Coprime p a from e) h)
  · exact .inl (e ▸ Nat.gcd_dvd_right p a)
theorem dvd_small {a : Nat} (h : p ∣ a) (h1 : a < p) : a = 0 := Nat.eq_zero_of_dvd_of_lt h h1
theorem cancel {a x y : Nat} (ha : ¬ p ∣ a) (h : a * x % p = a * y % p) : x % p = y % p := by
  have go : ∀ {x y : Nat}, x ≤ y → a * x % p = a * y % p → x % p = y % p := fun {x y} hxy h => by
    have hd : p ∣ a * (y - x) := by
      rw [Nat.mul_sub]
      exact Nat.dvd_of_mod_eq_zero (Nat.sub_mod_eq_zero_of_mod_eq h.symm)
    rcases euclid hd with z | z
    · exact absurd z ha
    · obtain ⟨k, hk⟩ := z
      have e : y = x + p * k := by omega
      rw [e, Nat.add_mul_mod_self_left]
  rcases Nat.le_total x y with q | q
  · exact go q h
  · exact (go q h.symm).symm
/-! ### products -/
def prod (l : List Nat) : Nat := l.foldr (· * ·) 1
theorem prod_perm {l m : List Nat} (h : l.Perm m) : prod l = prod m := by
  induction h with
  | nil => rfl
  | cons x _ ih => exact congrArg (x * ·) ih
  | swap x y l => show y * (x * prod l) = x * (y * prod l); rw [Nat.mul_left_comm]
  | trans _ _ h1 h2 => exact h1.trans h2
theorem prod_map (a : Nat) : ∀ l : List Nat, prod (l.map fun i => a * i % p) % p = a ^ l.length * prod l % p
  | [] => by simp [prod]
  | x :: l => by
    show (a * x % p) * prod (l.map fun i => a * i % p) % p = a ^ (l.length + 1) * (x * prod l) % p
    rw [Nat.mul_mod, prod_map a l, Nat.mod_mod, ← Nat.mul_mod]
    congr 1
    rw [Nat.pow_succ]
    simp only [Nat.mul_assoc, Nat.mul_left_comm, Nat.mul_comm]
theorem prod_no : ∀ l : List Nat, (∀ x ∈ l, ¬ p ∣ x) → ¬ p ∣ prod l
  | [], _ => by decide
  | x :: l, h => fun hd => by
    rcases euclid (show p ∣ x * prod l from hd) with z | z
    · exact h x (by simp) z
    · exact prod_no l (fun y hy => h y (by simp [hy])) z
/-! ### Fermat -/
/-- a map of the numbers 1 .. p - 1 into themselves that parts them is onto -/
theorem onto {l : List Nat} (hn : l.Nodup) (hs : ∀ x ∈ l, 1 ≤ x ∧ x < p) (hl : l.length = p - 1) {x : Nat} (h1 : 1 ≤ x) (h2 : x < p) : x ∈ l := by
  by_cases h : x ∈ l
  · exact h
  · have h3 : (x :: l).Nodup := List.nodup_cons.mpr ⟨h, hn⟩
    have h4 : (x :: l) ⊆ List.range' 1 (p - 1) := fun y hy => by
      rw [List.mem_range'_1]
      rcases List.mem_cons.mp hy with z | z
      · subst z; exact ⟨h1, by simp only [p] at *; omega⟩
      · have := hs y z; exact ⟨this.1, by simp only [p] at *; omega⟩
    have h5 := h3.length_le_of_subset h4
    rw [List.length_cons, List.length_range', hl] at h5
    omega
theorem nodup_map {f : Nat → Nat} {l : List Nat} (hn : l.Nodup) (hf : ∀ x ∈ l, ∀ y ∈ l, f x = f y → x = y) : (l.map f).Nodup := by
  rw [List.Nodup, List.pairwise_map]
  exact hn.imp_of_mem fun {a b} ha hb hab e => hab (hf a ha b hb e)
theorem fermat {a : Nat} (ha : ¬ p ∣ a) : a ^ (p - 1) % p = 1 := by
  generalize hL : List.range' 1 (p - 1) = L
  have mem : ∀ x, x ∈ L ↔ 1 ≤ x ∧ x < p := fun x => by
    rw [← hL, List.mem_range'_1]
    simp only [p]
  have nd : L.Nodup := by rw [← hL]; exact List.nodup_range' 1
  have len : L.length = p - 1 := by rw [← hL, List.length_range']
  have nm : (L.map fun i => a * i % p).Nodup := nodup_map nd fun x hx y hy e => by
    have := cancel ha e
    rwa [Nat.mod_eq_of_lt ((mem x).mp hx).2, Nat.mod_eq_of_lt ((mem y).mp hy).2] at this
  have sub : ∀ x ∈ L.map fun i => a * i % p, 1 ≤ x ∧ x < p := fun x hx => by
    obtain ⟨i, hi, rfl⟩ := List.mem_map.mp hx
    refine ⟨?_, Nat.mod_lt _ (by decide)⟩
    by_cases h0 : a * i % p = 0
    · rcases euclid (Nat.dvd_of_mod_eq_zero h0) with z | z
      · exact absurd z ha
      · have := (mem i).mp hi
        have := dvd_small z this.2
        omega
    · omega
  have hp : (L.map fun i => a * i % p).Perm L := (List.perm_ext_iff_of_nodup nm nd).mpr fun x => ⟨fun h => (mem x).mpr (sub x h), fun h => onto nm sub (by rw [List.length_map, len]) ((mem x).mp h).1 ((mem x).mp h).2⟩
  have h1 := prod_map a L
  rw [prod_perm hp, len] at h1
  have h2 : prod L * (a ^ (p - 1)) % p = prod L * 1 % p := by rw [Nat.mul_comm, Nat.mul_one, ← h1]
  have h3 := cancel (prod_no L fun x hx z => by
    have := (mem x).mp hx
    have := dvd_small z this.2
    omega) h2
  rw [h3]
  rfl
/-! ### the fifth power, there and back -/
def stirN (x : Nat) : Nat := (x ^ 5 + 271829) % p
theorem pow_root {x : Nat} (h : x < p) : x ^ (5 * 799999949) % p = x := by
  by_cases h0 : x = 0
  · subst h0
    rw [Nat.zero_pow (by decide)]
    rfl
  · have ha : ¬ p ∣ x := fun z => h0 (dvd_small z h)
    have e : 5 * 799999949 = (p - 1) * 4 + 1 := by decide
    rw [e, Nat.pow_succ, Nat.pow_mul, Nat.mul_mod, Nat.pow_mod, fermat ha, Nat.one_pow, show 1 % p = 1 from rfl, Nat.one_mul, Nat.mod_mod, Nat.mod_eq_of_lt h]
def unstirN (y : Nat) : Nat := ((y + (p - 271829)) % p) ^ 799999949 % p
theorem unstir_stir {x : Nat} (h : x < p) : unstirN (stirN x) = x := by
  unfold unstirN stirN
  have e : ((x ^ 5 + 271829) % p + (p - 271829)) % p = x ^ 5 % p := by
    rw [Nat.mod_add_mod, Nat.add_assoc, show 271829 + (p - 271829) = p from by decide, Nat.add_mod_right]
  rw [e, ← Nat.pow_mod, ← Nat.pow_mul, pow_root h]
theorem stir_unstir {y : Nat} (h : y < p) : stirN (unstirN y) = y := by
  unfold unstirN stirN
  have hz : (y + (p - 271829)) % p < p := Nat.mod_lt _ (by decide)
  have e : (((y + (p - 271829)) % p) ^ 799999949 % p) ^ 5 % p = (y + (p - 271829)) % p := by
    rw [← Nat.pow_mod, ← Nat.pow_mul, Nat.mul_comm, pow_root hz]
  rw [Nat.add_mod, e, ← Nat.add_mod, Nat.add_assoc, show p - 271829 + 271829 = p from by decide, Nat.add_mod_right, Nat.mod_eq_of_lt h]
theorem stir_inj {x y : Nat} (hx : x < p) (hy : y < p) (h : stirN x = stirN y) : x = y := by
  rw [← unstir_stir hx, ← unstir_stir hy, h]
end Pm
set_option linter.all false
set_option maxRecDepth 100000
set_option maxHeartbeats 4000000
set_option exponentiation.threshold 500
namespace Pg
open Pm
/-- a power by squares, to be reckoned -/
def mp : Nat → Nat → Nat → Nat → Nat
  | 0, r, s, e => r * s ^ e % p
  | k + 1, r, s, e => if e = 0 then r % p else mp k (if e % 2 = 1 then r * s % p else r) (s * s % p) (e / 2)
theorem half {r s e : Nat} : (if e % 2 = 1 then r * s % p else r) * (s * s % p) ^ (e / 2) % p = r * s ^ e % p := by
  rw [Nat.mul_mod, ← Nat.pow_mod, ← Nat.mul_mod]
  have e1 : s ^ e = (s * s) ^ (e / 2) * s ^ (e % 2) := by
    rw [show s * s = s ^ 2 from (Nat.pow_two s).symm, ← Nat.pow_mul, ← Nat.pow_add, Nat.div_add_mod]
  split
  · rename_i h1
    rw [e1, h1, Nat.pow_one, Nat.mod_mul_mod]
    congr 1
    rw [Nat.mul_assoc, Nat.mul_comm s]
  · rename_i h1
    have h0 : e % 2 = 0 := by omega
    rw [e1, h0, Nat.pow_zero, Nat.mul_one]
theorem mp_eq : ∀ {k r s e : Nat}, mp k r s e = r * s ^ e % p
  | 0, _, _, _ => rfl
  | k + 1, r, s, e => by
    unfold mp
    split
    · rename_i h; rw [h, Nat.pow_zero, Nat.mul_one]
    · rw [mp_eq, half]
theorem pw {s e : Nat} (k : Nat) : s ^ e % p = mp k 1 s e := by rw [mp_eq, Nat.one_mul]
theorem p_eq : p = 999999937 := rfl
/-! ### orders -/
theorem no_pow {a : Nat} (ha : ¬ p ∣ a) : ∀ k : Nat, ¬ p ∣ a ^ k
  | 0 => fun z => by rw [Nat.pow_zero] at z; have := Nat.le_of_dvd (by decide) z; exact absurd this (by decide)
  | k + 1 => fun z => by
    rw [Nat.pow_succ] at z
    rcases euclid z with y | y
    · exact no_pow ha k y
    · exact ha y
theorem ord {h P : Nat} (h1 : h ^ P % p = 1) (hP : 0 < P) (h2 : ∀ t < P, h ^ t % p = 1 → t = 0) {k : Nat} (hk : h ^ k % p = 1) : k % P = 0 := by
  refine h2 _ (Nat.mod_lt _ hP) ?_
  rw [← hk]
  conv => rhs; rw [← Nat.div_add_mod k P, Nat.pow_add, Nat.pow_mul, Nat.mul_mod, Nat.pow_mod (h ^ P), h1, Nat.one_pow]
  rw [show 1 % p = 1 from by decide, Nat.one_mul, Nat.mod_mod]
theorem inj1 {h P a b : Nat} (hz : ¬ p ∣ h) (h1 : h ^ P % p = 1) (hP : 0 < P) (h2 : ∀ t < P, h ^ t % p = 1 → t = 0) (hab : a ≤ b) (he : h ^ a % p = h ^ b % p) : a % P = b % P := by
  obtain ⟨d, rfl⟩ := Nat.exists_eq_add_of_le hab
  have e : h ^ a * 1 % p = h ^ a * h ^ d % p := by rw [Nat.mul_one, ← Nat.pow_add]; exact he
  have e2 := cancel (no_pow hz a) e
  have e3 := ord h1 hP h2 (k := d) (by rw [← e2]; decide)
  rw [Nat.add_mod, e3, Nat.add_zero, Nat.mod_mod]
theorem inj {h P a b : Nat} (hz : ¬ p ∣ h) (h1 : h ^ P % p = 1) (hP : 0 < P) (h2 : ∀ t < P, h ^ t % p = 1 → t = 0) (he : h ^ a % p = h ^ b % p) : a % P = b % P := by
  rcases Nat.le_total a b with x | x
  · exact inj1 hz h1 hP h2 x he
  · exact (inj1 hz h1 hP h2 x he.symm).symm
/-! ### the parts of the ring -/
def parts : List Nat := [64, 9, 13, 83, 1609]
def shr (P : Nat) : Nat := 999999936 / P
def inv : Nat → Nat
  | 64 => 23
  | 9 => 5
  | 13 => 8
  | 83 => 33
  | 1609 => 116
  | _ => 1
theorem parts_mul : ∀ P ∈ parts, shr P * P = p - 1 ∧ 0 < P ∧ P < 2000 ∧ 1 ≤ inv P ∧ inv P ≤ 116 ∧ inv P * shr P % P = 1 ∧ shr P < 999999937 := by decide +kernel
theorem parts_inv : ∀ P ∈ parts, ∀ c, c < inv P → 1 ≤ c → c * shr P % P ≠ 1 := by decide +kernel
theorem parts_pow : ∀ P ∈ parts, mp 40 1 48274 (shr P) = (if P = 64 then 177526091 else if P = 9 then 529298157 else if P = 13 then 432339058 else if P = 83 then 708878908 else 480708104) := by decide +kernel
def gen (P : Nat) : Nat := if P = 64 then 177526091 else if P = 9 then 529298157 else if P = 13 then 432339058 else if P = 83 then 708878908 else 480708104
theorem gen_eq {P : Nat} (h : P ∈ parts) : 48274 ^ shr P % p = gen P := by rw [pw 40, parts_pow P h]; rfl
/-- is there a 1 among the next k powers -/
def noOne : Nat → Nat → Nat → Bool
  | 0, _, _ => true
  | k + 1, h, r => r != 1 && noOne k h (r * h % p)
theorem noOne_ok : ∀ {k h r : Nat}, noOne k h r = true → ∀ t < k, r * h ^ t % p ≠ 1 ∨ r ≥ p
  | k + 1, h, r, e, t, ht => by
    unfold noOne at e
    simp only [Bool.and_eq_true, bne_iff_ne, ne_eq] at e
    match t with
    | 0 =>
      rw [Nat.pow_zero, Nat.mul_one]
      rcases Nat.lt_or_ge r p with x | x
      · rw [Nat.mod_eq_of_lt x]; exact .inl e.1
      · exact .inr x
    | t + 1 =>
      rcases noOne_ok e.2 t (by omega) with x | x
      · refine .inl ?_
        rw [Nat.mod_mul_mod, Nat.mul_assoc, ← Nat.pow_succ'] at x
        exact x
      · exact absurd (Nat.mod_lt (r * h) (show p > 0 by decide)) (by omega)
theorem parts_ord : ∀ P ∈ parts, noOne (P - 1) (gen P) (gen P) = true := by decide +kernel
theorem gen_lt : ∀ P ∈ parts, gen P < p ∧ 0 < gen P := by decide +kernel
theorem gen_no {P : Nat} (h : P ∈ parts) : ∀ t < P, gen P ^ t % p = 1 → t = 0 := by
  intro t ht e
  match t with
  | 0 => rfl
  | t + 1 =>
    rcases noOne_ok (parts_ord P h) t (by omega) with x | x
    · rw [← Nat.pow_succ'] at x; exact absurd e x
    · exact absurd (gen_lt P h).1 (by omega)
theorem f_no : ¬ p ∣ 48274 := fun z => absurd (Nat.le_of_dvd (by decide) z) (by decide)
theorem gen_nd {P : Nat} (h : P ∈ parts) : ¬ p ∣ gen P := fun z => by
  have := Nat.le_of_dvd (gen_lt P h).2 z
  have := (gen_lt P h).1
  omega
theorem f_one : 48274 ^ (p - 1) % p = 1 := fermat f_no
theorem gen_one {P : Nat} (h : P ∈ parts) : gen P ^ P % p = 1 := by
  rw [← gen_eq h, ← Nat.pow_mod, ← Nat.pow_mul, (parts_mul P h).1]
  exact f_one
theorem part_inj {P a b : Nat} (h : P ∈ parts) (e : gen P ^ a % p = gen P ^ b % p) : a % P = b % P := inj (gen_nd h) (gen_one h) (parts_mul P h).2.1 (gen_no h) e
theorem share {P x : Nat} (h : P ∈ parts) : (48274 ^ x % p) ^ shr P % p = gen P ^ x % p := by
  rw [← gen_eq h, ← Nat.pow_mod, ← Nat.pow_mod, ← Nat.pow_mul, ← Nat.pow_mul, Nat.mul_comm]
theorem share' {P r : Nat} (h : P ∈ parts) : 48274 ^ (r * shr P) % p = gen P ^ r % p := by rw [← share h, ← Nat.pow_mod, ← Nat.pow_mul]
theorem log_mod {a b : Nat} (e : 48274 ^ a % p = 48274 ^ b % p) {P : Nat} (h : P ∈ parts) : a % P = b % P := by
  refine part_inj h ?_
  rw [← share h, ← share h, e]
theorem crt1 {a b : Nat} (hab : a ≤ b) (h : ∀ P ∈ parts, a % P = b % P) : a % 999999936 = b % 999999936 := by
  have z : ∀ P ∈ parts, P ∣ b - a := fun P hP => Nat.dvd_of_mod_eq_zero (Nat.sub_mod_eq_zero_of_mod_eq (h P hP).symm)
  have h1 := Nat.Coprime.mul_dvd_of_dvd_of_dvd (by decide +kernel) (z 64 (by decide)) (z 9 (by decide))
  have h2 := Nat.Coprime.mul_dvd_of_dvd_of_dvd (by decide +kernel) h1 (z 13 (by decide))
  have h3 := Nat.Coprime.mul_dvd_of_dvd_of_dvd (by decide +kernel) h2 (z 83 (by decide))
  have h4 := Nat.Coprime.mul_dvd_of_dvd_of_dvd (by decide +kernel) h3 (z 1609 (by decide))
  obtain ⟨q, hq⟩ := h4
  have e : b = a + 999999936 * q := by omega
  rw [e, Nat.add_mul_mod_self_left]
theorem crt {a b : Nat} (h : ∀ P ∈ parts, a % P = b % P) : a % 999999936 = b % 999999936 := by
  rcases Nat.le_total a b with x | x
  · exact crt1 x h
  · exact (crt1 x fun P hP => (h P hP).symm).symm
theorem log_inj {a b : Nat} (e : 48274 ^ a % p = 48274 ^ b % p) : a % 999999936 = b % 999999936 := crt fun P h => log_mod e h
theorem log_ex {r : Nat} (h1 : 1 ≤ r) (h2 : r < p) : ∃ x < 999999936, 48274 ^ x % p = r := by
  have m := onto (l := (List.range 999999936).map fun x => 48274 ^ x % p) (nodup_map List.nodup_range fun x hx y hy e => by
      have := log_inj e
      rw [List.mem_range] at hx hy
      rwa [Nat.mod_eq_of_lt hx, Nat.mod_eq_of_lt hy] at this) (fun x hx => by
      obtain ⟨k, _, rfl⟩ := List.mem_map.mp hx
      refine ⟨Nat.pos_of_ne_zero fun z => no_pow f_no k (Nat.dvd_of_mod_eq_zero z), Nat.mod_lt _ (by decide)⟩) (by rw [List.length_map, List.length_range]; rfl) h1 h2
  obtain ⟨x, hx, e⟩ := List.mem_map.mp m
  exact ⟨x, List.mem_range.mp hx, e⟩
/-! ### the sum of the shares -/
def summed (x : Nat) : Nat → Nat
  | 0 => 0
  | i + 1 => summed x i + x % parts.getD i 1 * shr (parts.getD i 1) * inv (parts.getD i 1)
theorem summed5 (x : Nat) : summed x 5 = 0 + x % 64 * 15624999 * 23 + x % 9 * 111111104 * 5 + x % 13 * 76923072 * 8 + x % 83 * 12048192 * 33 + x % 1609 * 621504 * 116 := rfl
theorem summed_ok {x : Nat} (h : x < 999999936) : summed x 5 % 999999936 = x := by
  rw [summed5]
  conv => rhs; rw [← Nat.mod_eq_of_lt h]
  refine crt fun P hP => ?_
  have h1 : P = 64 ∨ P = 9 ∨ P = 13 ∨ P = 83 ∨ P = 1609 := by simpa [parts] using hP
  rcases h1 with rfl | rfl | rfl | rfl | rfl <;> omega
/-! ### lucks: how far from the still one -/
def sh (x : Nat) : Nat := (x + 50980882) % 999999937
def al (x m : Nat) : Nat := (sh x * 48274 ^ m + 949019055) % 999999937
theorem al_lt (x m : Nat) : al x m < 999999937 := Nat.mod_lt _ (by decide)
theorem sh_al (x m : Nat) : sh (al x m) = sh x * 48274 ^ m % 999999937 := by
  unfold al
  generalize sh x * 48274 ^ m = A
  unfold sh
  omega
theorem sh_inj {x y : Nat} (hx : x < 999999937) (hy : y < 999999937) (h : sh x = sh y) : x = y := by
  unfold sh at h
  omega
theorem sh_lt (x : Nat) : sh x < 999999937 := Nat.mod_lt _ (by decide)
theorem sh_zero {x : Nat} (hx : x < 999999937) : sh x = 0 ↔ x = 949019055 := by
  unfold sh
  omega
theorem sh_nd {x : Nat} (hx : x < 999999937) (h : x ≠ 949019055) : ¬ p ∣ sh x := fun z => h ((sh_zero hx).mp (dvd_small z (sh_lt x)))
theorem al_of {x y m : Nat} (hy : y < 999999937) (h : sh x * 48274 ^ m % 999999937 = sh y) : al x m = y := sh_inj (al_lt x m) hy (by rw [sh_al, h])
theorem al_al (x m k : Nat) : al (al x m) k = al x (m + k) := sh_inj (al_lt _ _) (al_lt _ _) (by rw [sh_al, sh_al, sh_al, Nat.mod_mul_mod, Nat.pow_add, Nat.mul_assoc])
theorem al_one {x m : Nat} (hx : x < 999999937) (h : 48274 ^ m % p = 1) : al x m = x := al_of hx (by
  rw [Nat.mul_mod, show 48274 ^ m % 999999937 = 1 from h, Nat.mul_one, Nat.mod_mod]
  exact Nat.mod_eq_of_lt (sh_lt x))
theorem pow_round (m : Nat) : 48274 ^ m % p = 48274 ^ (m % (p - 1)) % p := by
  conv => lhs; rw [← Nat.div_add_mod m (p - 1), Nat.pow_add, Nat.pow_mul, Nat.mul_mod, Nat.pow_mod (48274 ^ (p - 1)), f_one, Nat.one_pow]
  rw [show 1 % p = 1 from by decide, Nat.one_mul, Nat.mod_mod]
theorem al_round {x m : Nat} (hx : x < 999999937) (h : m % 999999936 = 0) : al x m = x := al_one hx (by
  rw [pow_round, show m % (p - 1) = 0 from h]; rfl)
theorem al_eq {x m k : Nat} (h : 48274 ^ m % p = 48274 ^ k % p) : al x m = al x k := sh_inj (al_lt _ _) (al_lt _ _) (by
  rw [sh_al, sh_al, Nat.mul_mod, show 48274 ^ m % 999999937 = 48274 ^ k % 999999937 from h, ← Nat.mul_mod])
theorem al_back {x m k : Nat} (hx : x < 999999937) (h : (m + k) % 999999936 = 0) : al (al x m) k = x := by rw [al_al, al_round hx h]
theorem al_inj {x m k : Nat} (hx : x < 999999937) (h : x ≠ 949019055) (e : al x m = al x k) : m % 999999936 = k % 999999936 := by
  have e1 := congrArg sh e
  rw [sh_al, sh_al] at e1
  exact log_inj (cancel (sh_nd hx h) e1)
theorem al_still (m : Nat) : al 949019055 m = 949019055 := al_of (by decide) (by rw [show sh 949019055 = 0 from by decide, Nat.zero_mul])
theorem al_moves {x m : Nat} (hx : x < 999999937) (h : x ≠ 949019055) : al x m ≠ 949019055 := fun e => by
  have e1 := congrArg sh e
  rw [sh_al, show sh 949019055 = 0 from by decide] at e1
  rcases euclid (Nat.dvd_of_mod_eq_zero e1) with z | z
  · exact sh_nd hx h z
  · exact no_pow f_no m z
theorem al_next (x : Nat) : (48274 * x + 271829) % 999999937 = al x 1 := by
  unfold al sh
  rw [Nat.pow_one]
  omega
theorem pow_last (a : Nat) : a ^ (p - 1) = a ^ 999999935 * a := Nat.pow_succ (n := a) (m := 999999935)
/-- what is left of two lucks, for the one that leads from the first to the second -/
theorem ratio {x y m : Nat} (hx : x < 999999937) (h : x ≠ 949019055) (e : al x m = y) : sh y * sh x ^ 999999935 % p = 48274 ^ m % p := by
  rw [← e, sh_al, Nat.mod_mul_mod]
  have e1 : sh x * 48274 ^ m * sh x ^ 999999935 = 48274 ^ m * sh x ^ (p - 1) := by
    rw [pow_last]; generalize sh x ^ 999999935 = u; rw [Nat.mul_comm (sh x) (48274 ^ m), Nat.mul_assoc, Nat.mul_comm (sh x)]
  rw [e1, Nat.mul_mod, fermat (sh_nd hx h), Nat.mul_one, Nat.mod_mod]
theorem leads {x y : Nat} (hx : x < 999999937) (hy : y < 999999937) (h : x ≠ 949019055) (h' : y ≠ 949019055) : ∃ m < 999999936, al x m = y := by
  have nz : ¬ p ∣ sh y * sh x ^ 999999935 := fun z => by
    rcases euclid z with z | z
    · exact sh_nd hy h' z
    · exact no_pow (sh_nd hx h) _ z
  obtain ⟨m, hm, e⟩ := log_ex (r := sh y * sh x ^ 999999935 % p) (Nat.pos_of_ne_zero fun z => nz (Nat.dvd_of_mod_eq_zero z)) (Nat.mod_lt _ (by decide))
  refine ⟨m, hm, al_of hy ?_⟩
  rw [Nat.mul_mod, show 48274 ^ m % 999999937 = sh y * sh x ^ 999999935 % 999999937 from e, ← Nat.mul_mod]
  have e1 : sh x * (sh y * sh x ^ 999999935) = sh y * sh x ^ (p - 1) := by
    rw [pow_last]; generalize sh x ^ 999999935 = u; rw [Nat.mul_left_comm, Nat.mul_comm (sh x)]
  rw [e1, Nat.mul_mod, show sh x ^ (p - 1) % 999999937 = 1 from fermat (sh_nd hx h), Nat.mul_one, Nat.mod_mod]
  exact Nat.mod_eq_of_lt (sh_lt y)
theorem sh_cases (x : Nat) (hx : x < 999999937) : sh x = x + 50980882 ∨ sh x + 999999937 = x + 50980882 := by
  unfold sh
  omega
theorem al_int {x m : Nat} (hx : x < 999999937) : (((x : Int) - 949019055) * ((48274 ^ m % p : Nat) : Int) + 949019055) % 999999937 = (al x m : Nat) := by
  have e : al x m = (sh x * (48274 ^ m % p) + 949019055) % 999999937 := by
    unfold al
    rw [Nat.add_mod, Nat.mul_mod, Nat.add_mod (sh x * (48274 ^ m % p)), Nat.mul_mod (sh x) (48274 ^ m % p)]
    rw [show 48274 ^ m % p % 999999937 = 48274 ^ m % 999999937 from Nat.mod_mod _ _]
  rw [e]
  generalize 48274 ^ m % p = F
  have h2 : ∃ c : Int, (x : Int) - 949019055 = (sh x : Int) + 999999937 * c := by
    rcases sh_cases x hx with z | z
    · exact ⟨-1, by omega⟩
    · exact ⟨0, by omega⟩
  obtain ⟨c, hc⟩ := h2
  rw [hc, Int.natCast_emod, Int.natCast_add, Int.natCast_mul, Int.add_mul, Int.mul_assoc, Int.add_right_comm]
  exact Int.add_mul_emod_self_left ..
theorem sh_int {x : Nat} (hx : x < 999999937) : (((x : Int) - 949019055) % 999999937).toNat = sh x := by
  unfold sh
  omega
/-! ### lines -/
/-- A x + B is e steps -/
def Good (e A B : Nat) : Prop := A = 48274 ^ e % p ∧ (A * 949019055 + B) % 999999937 = 949019055 ∧ B < 999999937
theorem good_lt {e A B : Nat} (h : Good e A B) : A < 999999937 := by rw [h.1]; exact Nat.mod_lt _ (by decide)
theorem good0 : Good 0 1 0 := by unfold Good; decide
theorem good1 : Good 1 48274 271829 := by unfold Good; decide
theorem good_add {e1 e2 A1 B1 A2 B2 : Nat} (h1 : Good e1 A1 B1) (h2 : Good e2 A2 B2) : Good (e1 + e2) (A1 * A2 % p) ((B1 * A2 + B2) % p) := by
  refine ⟨by rw [h1.1, h2.1, ← Nat.mul_mod, Nat.pow_add], ?_, Nat.mod_lt _ (by decide)⟩
  have e : A2 * (A1 * 949019055 + B1) + B2 = A1 * A2 * 949019055 + (B1 * A2 + B2) := by
    rw [Nat.mul_add, ← Nat.mul_assoc, Nat.mul_comm A2 A1, Nat.mul_comm A2 B1, Nat.add_assoc]
  rw [p_eq, Nat.add_mod_mod, Nat.add_mod, Nat.mod_mul_mod, ← Nat.add_mod, ← e, Nat.add_mod, Nat.mul_mod, h1.2.1]
  have h3 := h2.2.1
  rw [Nat.mul_comm] at h3
  omega
theorem good_led {e A B x : Nat} (h : Good e A B) (hx : x < 999999937) : (A * x + B) % 999999937 = al x e := by
  have hA := h.1
  have e1 : al x e = (sh x * A + 949019055) % 999999937 := by
    unfold al
    rw [hA, Nat.add_mod, Nat.mul_mod, Nat.add_mod (sh x * (48274 ^ e % p)), Nat.mul_mod (sh x) (48274 ^ e % p)]
    rw [show 48274 ^ e % p % 999999937 = 48274 ^ e % 999999937 from Nat.mod_mod _ _]
  rw [e1]
  have h2 := h.2.1
  clear hA e1
  rcases sh_cases x hx with z | z
  · rw [z, Nat.add_mul, Nat.mul_comm x A]
    generalize A * x = y
    omega
  · have z2 : sh x * A + 999999937 * A = A * x + 50980882 * A := by rw [← Nat.add_mul, z, Nat.add_mul, Nat.mul_comm x A]
    generalize sh x * A = u at *
    generalize A * x = y at *
    omega
end Pg
set_option Elab.async false
set_option linter.all false
set_option maxRecDepth 100000
set_option maxHeartbeats 4000000
set_option exponentiation.threshold 500
namespace Kz
open PySem PySem.Spec PyProof.Rows L2 Evl Vr
def top (i : Nat) : Stmt := PySem.Challenge.pw_settledplay_k03_whole_luck_goes_round.main.body.getD i (.Pass ⟨0, 0, 0, 0⟩)
abbrev s_InvalidNumber___init__ : Stmt := inClass (top 3) 0
theorem sc_InvalidNumber___init__ : FnScope ["self", "given"] ["self", "given"] (defScope s_InvalidNumber___init__) := ⟨rfl, rfl, rfl, by decide +kernel, rfl, by decide +kernel, by decide +kernel⟩
abbrev s_is_integer : Stmt := top 5
theorem sc_is_integer : FnScope ["value"] ["value"] (defScope s_is_integer) := ⟨rfl, rfl, rfl, by decide +kernel, rfl, by decide +kernel, by decide +kernel⟩
abbrev s_is_within : Stmt := top 6
theorem sc_is_within : FnScope ["value", "low", "high"] ["value", "low", "high"] (defScope s_is_within) := ⟨rfl, rfl, rfl, by decide +kernel, rfl, by decide +kernel, by decide +kernel⟩
abbrev s_is_whole : Stmt := top 7
theorem sc_is_whole : FnScope ["value"] ["value"] (defScope s_is_whole) := ⟨rfl, rfl, rfl, by decide +kernel, rfl, by decide +kernel, by decide +kernel⟩
abbrev s_need_whole : Stmt := top 8
theorem sc_need_whole : FnScope ["value"] ["value"] (defScope s_need_whole) := ⟨rfl, rfl, rfl, by decide +kernel, rfl, by decide +kernel, by decide +kernel⟩
abbrev s_is_luck : Stmt := top 15
theorem sc_is_luck : FnScope ["value"] ["value"] (defScope s_is_luck) := ⟨rfl, rfl, rfl, by decide +kernel, rfl, by decide +kernel, by decide +kernel⟩
abbrev s_need_luck : Stmt := top 16
theorem sc_need_luck : FnScope ["value"] ["value"] (defScope s_need_luck) := ⟨rfl, rfl, rfl, by decide +kernel, rfl, by decide +kernel, by decide +kernel⟩
abbrev s_power : Stmt := top 17
theorem sc_power : FnScope ["base", "exponent", "result", "square"] ["base", "exponent"] (defScope s_power) := ⟨rfl, rfl, rfl, by decide +kernel, rfl, by decide +kernel, by decide +kernel⟩
abbrev s_next_luck : Stmt := top 18
theorem sc_next_luck : FnScope ["luck"] ["luck"] (defScope s_next_luck) := ⟨rfl, rfl, rfl, by decide +kernel, rfl, by decide +kernel, by decide +kernel⟩
abbrev s_following : Stmt := top 19
theorem sc_following : FnScope ["luck"] ["luck"] (defScope s_following) := ⟨rfl, rfl, rfl, by decide +kernel, rfl, by decide +kernel, by decide +kernel⟩
abbrev s_luck_ahead : Stmt := top 20
theorem sc_luck_ahead : FnScope ["luck"] ["luck"] (defScope s_luck_ahead) := ⟨rfl, rfl, rfl, by decide +kernel, rfl, by decide +kernel, by decide +kernel⟩
abbrev s_luck_after : Stmt := top 21
theorem sc_luck_after : FnScope ["luck", "many"] ["luck", "many"] (defScope s_luck_after) := ⟨rfl, rfl, rfl, by decide +kernel, rfl, by decide +kernel, by decide +kernel⟩
abbrev s_luck_before : Stmt := top 22
theorem sc_luck_before : FnScope ["luck", "many"] ["luck", "many"] (defScope s_luck_before) := ⟨rfl, rfl, rfl, by decide +kernel, rfl, by decide +kernel, by decide +kernel⟩
abbrev s_along : Stmt := top 23
theorem sc_along : FnScope ["luck", "many"] ["luck", "many"] (defScope s_along) := ⟨rfl, rfl, rfl, by decide +kernel, rfl, by decide +kernel, by decide +kernel⟩
abbrev s_lucks_between : Stmt := top 24
theorem sc_lucks_between : FnScope ["one", "other"] ["one", "other"] (defScope s_lucks_between) := ⟨rfl, rfl, rfl, by decide +kernel, rfl, by decide +kernel, by decide +kernel⟩
abbrev s_logarithm : Stmt := top 25
theorem sc_logarithm : FnScope ["result", "exponent", "part", "share", "turns"] ["result"] (defScope s_logarithm) := ⟨rfl, rfl, rfl, by decide +kernel, rfl, by decide +kernel, by decide +kernel⟩
abbrev s_turns_to : Stmt := top 26
theorem sc_turns_to : FnScope ["base", "result", "part", "turn", "found"] ["base", "result", "part"] (defScope s_turns_to) := ⟨rfl, rfl, rfl, by decide +kernel, rfl, by decide +kernel, by decide +kernel⟩
abbrev s_inverse : Stmt := top 27
theorem sc_inverse : FnScope ["number", "part", "candidate"] ["number", "part"] (defScope s_inverse) := ⟨rfl, rfl, rfl, by decide +kernel, rfl, by decide +kernel, by decide +kernel⟩
abbrev s_law_dice : Stmt := top 29
theorem sc_law_dice : FnScope ["script", "spot", "cell", "left"] ["script", "spot"] (defScope s_law_dice) := ⟨rfl, rfl, rfl, by decide +kernel, rfl, by decide +kernel, by decide +kernel⟩
abbrev s_law_roll : Stmt := top 30
theorem sc_law_roll : FnScope ["dice", "total", "found", "one", "two"] ["dice", "total"] (defScope s_law_roll) := ⟨rfl, rfl, rfl, by decide +kernel, rfl, by decide +kernel, by decide +kernel⟩
abbrev s_law_pick : Stmt := top 31
theorem sc_law_pick : FnScope ["dice", "items"] ["dice", "items"] (defScope s_law_pick) := ⟨rfl, rfl, rfl, by decide +kernel, rfl, by decide +kernel, by decide +kernel⟩
abbrev s_law_behind : Stmt := top 32
theorem sc_law_behind : FnScope ["one", "other"] ["one", "other"] (defScope s_law_behind) := ⟨rfl, rfl, rfl, by decide +kernel, rfl, by decide +kernel, by decide +kernel⟩
abbrev s_law_line : Stmt := top 33
theorem sc_law_line : FnScope ["many", "found", "here", "left", "lap"] ["many"] (defScope s_law_line) := ⟨rfl, rfl, rfl, by decide +kernel, rfl, by decide +kernel, by decide +kernel⟩
abbrev s_law_led : Stmt := top 34
theorem sc_law_led : FnScope ["luck", "many", "line"] ["luck", "many"] (defScope s_law_led) := ⟨rfl, rfl, rfl, by decide +kernel, rfl, by decide +kernel, by decide +kernel⟩
abbrev s_law_luck_drawn : Stmt := top 35
theorem sc_law_luck_drawn : FnScope ["dice"] ["dice"] (defScope s_law_luck_drawn) := ⟨rfl, rfl, rfl, by decide +kernel, rfl, by decide +kernel, by decide +kernel⟩
abbrev s_law_turns_drawn : Stmt := top 36
theorem sc_law_turns_drawn : FnScope ["dice", "way"] ["dice"] (defScope s_law_turns_drawn) := ⟨rfl, rfl, rfl, by decide +kernel, rfl, by decide +kernel, by decide +kernel⟩
abbrev s_law_steps_right : Stmt := top 37
theorem sc_law_steps_right : FnScope ["luck", "few", "here", "turn", "later"] ["luck", "few"] (defScope s_law_steps_right) := ⟨rfl, rfl, rfl, by decide +kernel, rfl, by decide +kernel, by decide +kernel⟩
abbrev s_law_between_right : Stmt := top 38
theorem sc_law_between_right : FnScope ["one", "other", "told"] ["one", "other"] (defScope s_law_between_right) := ⟨rfl, rfl, rfl, by decide +kernel, rfl, by decide +kernel, by decide +kernel⟩
abbrev s_law_right : Stmt := top 39
theorem sc_law_right : FnScope ["dice", "one", "other", "many", "there"] ["dice"] (defScope s_law_right) := ⟨rfl, rfl, rfl, by decide +kernel, rfl, by decide +kernel, by decide +kernel⟩
abbrev s_law : Stmt := top 40
theorem sc_law : FnScope ["script", "spot", "dice", "part"] ["script"] (defScope s_law) := ⟨rfl, rfl, rfl, by decide +kernel, rfl, by decide +kernel, by decide +kernel⟩
structure Txt (K : PySem.W.Frag) (mg : Str → Option Value) (w : World) where
  a_is_integer : Addr
  fd_is_integer : FuncData
  F_is_integer : Fun K "is_integer" "is_integer" s_is_integer a_is_integer fd_is_integer
  g_is_integer : mg "is_integer" = some (.ref a_is_integer)
  b_is_integer : Binds K fd_is_integer ["value"] []
  a_is_within : Addr
  fd_is_within : FuncData
  F_is_within : Fun K "is_within" "is_within" s_is_within a_is_within fd_is_within
  g_is_within : mg "is_within" = some (.ref a_is_within)
  b_is_within : Binds K fd_is_within ["value", "low", "high"] []
  a_is_whole : Addr
  fd_is_whole : FuncData
  F_is_whole : Fun K "is_whole" "is_whole" s_is_whole a_is_whole fd_is_whole
  g_is_whole : mg "is_whole" = some (.ref a_is_whole)
  b_is_whole : Binds K fd_is_whole ["value"] []
  a_need_whole : Addr
  fd_need_whole : FuncData
  F_need_whole : Fun K "need_whole" "need_whole" s_need_whole a_need_whole fd_need_whole
  g_need_whole : mg "need_whole" = some (.ref a_need_whole)
  b_need_whole : Binds K fd_need_whole ["value"] []
  a_is_luck : Addr
  fd_is_luck : FuncData
  F_is_luck : Fun K "is_luck" "is_luck" s_is_luck a_is_luck fd_is_luck
  g_is_luck : mg "is_luck" = some (.ref a_is_luck)
  b_is_luck : Binds K fd_is_luck ["value"] []
  a_need_luck : Addr
  fd_need_luck : FuncData
  F_need_luck : Fun K "need_luck" "need_luck" s_need_luck a_need_luck fd_need_luck
  g_need_luck : mg "need_luck" = some (.ref a_need_luck)
  b_need_luck : Binds K fd_need_luck ["value"] []
  a_power : Addr
  fd_power : FuncData
  F_power : Fun K "power" "power" s_power a_power fd_power
  g_power : mg "power" = some (.ref a_power)
  b_power : Binds K fd_power ["base", "exponent"] []
  a_next_luck : Addr
  fd_next_luck : FuncData
  F_next_luck : Fun K "next_luck" "next_luck" s_next_luck a_next_luck fd_next_luck
  g_next_luck : mg "next_luck" = some (.ref a_next_luck)
  b_next_luck : Binds K fd_next_luck ["luck"] []
  a_following : Addr
  fd_following : FuncData
  F_following : Fun K "following" "following" s_following a_following fd_following
  g_following : mg "following" = some (.ref a_following)
  b_following : Binds K fd_following ["luck"] []
  a_luck_ahead : Addr
  fd_luck_ahead : FuncData
  F_luck_ahead : Fun K "luck_ahead" "luck_ahead" s_luck_ahead a_luck_ahead fd_luck_ahead
  g_luck_ahead : mg "luck_ahead" = some (.ref a_luck_ahead)
  b_luck_ahead : Binds K fd_luck_ahead ["luck"] []
  a_luck_after : Addr
  fd_luck_after : FuncData
  F_luck_after : Fun K "luck_after" "luck_after" s_luck_after a_luck_after fd_luck_after
  g_luck_after : mg "luck_after" = some (.ref a_luck_after)
  b_luck_after : Binds K fd_luck_after ["luck", "many"] []
  a_luck_before : Addr
  fd_luck_before : FuncData
  F_luck_before : Fun K "luck_before" "luck_before" s_luck_before a_luck_before fd_luck_before
  g_luck_before : mg "luck_before" = some (.ref a_luck_before)
  b_luck_before : Binds K fd_luck_before ["luck", "many"] []
  a_along : Addr
  fd_along : FuncData
  F_along : Fun K "along" "along" s_along a_along fd_along
  g_along : mg "along" = some (.ref a_along)
  b_along : Binds K fd_along ["luck", "many"] []
  a_lucks_between : Addr
  fd_lucks_between : FuncData
  F_lucks_between : Fun K "lucks_between" "lucks_between" s_lucks_between a_lucks_between fd_lucks_between
  g_lucks_between : mg "lucks_between" = some (.ref a_lucks_between)
  b_lucks_between : Binds K fd_lucks_between ["one", "other"] []
  a_logarithm : Addr
  fd_logarithm : FuncData
  F_logarithm : Fun K "logarithm" "logarithm" s_logarithm a_logarithm fd_logarithm
  g_logarithm : mg "logarithm" = some (.ref a_logarithm)
  b_logarithm : Binds K fd_logarithm ["result"] []
  a_turns_to : Addr
  fd_turns_to : FuncData
  F_turns_to : Fun K "turns_to" "turns_to" s_turns_to a_turns_to fd_turns_to
  g_turns_to : mg "turns_to" = some (.ref a_turns_to)
  b_turns_to : Binds K fd_turns_to ["base", "result", "part"] []
  a_inverse : Addr
  fd_inverse : FuncData
  F_inverse : Fun K "inverse" "inverse" s_inverse a_inverse fd_inverse
  g_inverse : mg "inverse" = some (.ref a_inverse)
  b_inverse : Binds K fd_inverse ["number", "part"] []
  a_law_dice : Addr
  fd_law_dice : FuncData
  F_law_dice : Fun K "_law_dice" "_law_dice" s_law_dice a_law_dice fd_law_dice
  g_law_dice : mg "_law_dice" = some (.ref a_law_dice)
  b_law_dice : Binds K fd_law_dice ["script", "spot"] []
  a_law_roll : Addr
  fd_law_roll : FuncData
  F_law_roll : Fun K "_law_roll" "_law_roll" s_law_roll a_law_roll fd_law_roll
  g_law_roll : mg "_law_roll" = some (.ref a_law_roll)
  b_law_roll : Binds K fd_law_roll ["dice", "total"] []
  a_law_pick : Addr
  fd_law_pick : FuncData
  F_law_pick : Fun K "_law_pick" "_law_pick" s_law_pick a_law_pick fd_law_pick
  g_law_pick : mg "_law_pick" = some (.ref a_law_pick)
  b_law_pick : Binds K fd_law_pick ["dice", "items"] []
  a_law_behind : Addr
  fd_law_behind : FuncData
  F_law_behind : Fun K "_law_behind" "_law_behind" s_law_behind a_law_behind fd_law_behind
  g_law_behind : mg "_law_behind" = some (.ref a_law_behind)
  b_law_behind : Binds K fd_law_behind ["one", "other"] []
  a_law_line : Addr
  fd_law_line : FuncData
  F_law_line : Fun K "_law_line" "_law_line" s_law_line a_law_line fd_law_line
  g_law_line : mg "_law_line" = some (.ref a_law_line)
  b_law_line : Binds K fd_law_line ["many"] []
  a_law_led : Addr
  fd_law_led : FuncData
  F_law_led : Fun K "_law_led" "_law_led" s_law_led a_law_led fd_law_led
  g_law_led : mg "_law_led" = some (.ref a_law_led)
  b_law_led : Binds K fd_law_led ["luck", "many"] []
  a_law_luck_drawn : Addr
  fd_law_luck_drawn : FuncData
  F_law_luck_drawn : Fun K "_law_luck_drawn" "_law_luck_drawn" s_law_luck_drawn a_law_luck_drawn fd_law_luck_drawn
  g_law_luck_drawn : mg "_law_luck_drawn" = some (.ref a_law_luck_drawn)
  b_law_luck_drawn : Binds K fd_law_luck_drawn ["dice"] []
  a_law_turns_drawn : Addr
  fd_law_turns_drawn : FuncData
  F_law_turns_drawn : Fun K "_law_turns_drawn" "_law_turns_drawn" s_law_turns_drawn a_law_turns_drawn fd_law_turns_drawn
  g_law_turns_drawn : mg "_law_turns_drawn" = some (.ref a_law_turns_drawn)
  b_law_turns_drawn : Binds K fd_law_turns_drawn ["dice"] []
  a_law_steps_right : Addr
  fd_law_steps_right : FuncData
  F_law_steps_right : Fun K "_law_steps_right" "_law_steps_right" s_law_steps_right a_law_steps_right fd_law_steps_right
  g_law_steps_right : mg "_law_steps_right" = some (.ref a_law_steps_right)
  b_law_steps_right : Binds K fd_law_steps_right ["luck", "few"] []
  a_law_between_right : Addr
  fd_law_between_right : FuncData
  F_law_between_right : Fun K "_law_between_right" "_law_between_right" s_law_between_right a_law_between_right fd_law_between_right
  g_law_between_right : mg "_law_between_right" = some (.ref a_law_between_right)
  b_law_between_right : Binds K fd_law_between_right ["one", "other"] []
  a_law_right : Addr
  fd_law_right : FuncData
  F_law_right : Fun K "_law_right" "_law_right" s_law_right a_law_right fd_law_right
  g_law_right : mg "_law_right" = some (.ref a_law_right)
  b_law_right : Binds K fd_law_right ["dice"] []
  z_abs : mg "abs" = none
  z_max : mg "max" = none
  z_min : mg "min" = none
  z_int : mg "int" = none
  z_len : mg "len" = none
  z_range : mg "range" = none
  z_repr : mg "repr" = none
  z_isinstance : mg "isinstance" = none
  z_bool : mg "bool" = none
  t_MODULUS : Tok
  g_MODULUS : mg "MODULUS" = some (.int 999999937 t_MODULUS)
  t_SUMMAND : Tok
  g_SUMMAND : mg "SUMMAND" = some (.int 271829 t_SUMMAND)
  t_FACTOR : Tok
  g_FACTOR : mg "FACTOR" = some (.int 48274 t_FACTOR)
  t_STILL : Tok
  g_STILL : mg "STILL" = some (.int 949019055 t_STILL)
  a_RING_PARTS : Addr
  g_RING_PARTS : mg "RING_PARTS" = some (.ref a_RING_PARTS)
  o_RING_PARTS : ∀ H, SqT K H a_RING_PARTS [.int 64, .int 9, .int 13, .int 83, .int 1609]
end Kz
set_option Elab.async false
set_option linter.all false
set_option maxRecDepth 100000
set_option maxHeartbeats 4000000
set_option exponentiation.threshold 500
namespace Kz
open PySem PySem.Spec PyProof.Rows L2 Evl Vr
local macro_rules | `(tactic| walk_at "sc") => `(tactic| first | (with_reducible assumption) | (with_reducible exact sc_mul (by omega)) | (with_reducible exact sc_mulr (by omega)) | (with_reducible exact sc_div (by omega) (by decide)) | (show (0 : Int) < _; omega) | (show _ ≠ (0 : Int); omega) | (with_reducible rfl) | decide)
local macro_rules | `(tactic| walk_at "sq") => `(tactic| first | assumption | exact sq_of (by assumption) | exact st_of (by assumption))
local macro_rules | `(tactic| walk_at "pl") => `(tactic| first | assumption | exact pl_int | exact pl_bl | exact pl_str | exact pl_non | exact pl_lst (by assumption) | exact pl_tup (by assumption) | exact pl_dK (by assumption))
local macro_rules | `(tactic| walk_at "rv") => `(tactic| first
  | with_reducible exact rv_I0
  | with_reducible exact ru_neg
  | ((with_reducible apply rv_I); walk_at "sc")
  | ((with_reducible apply rv_ixL); walk_at "sq"; first | rfl | assumption)
  | ((with_reducible apply rv_ixT); walk_at "sq"; first | rfl | assumption)
  | ((with_reducible apply rv_eq); rfl) | ((with_reducible apply rv_ne); rfl))
local macro_rules | `(tactic| walk_at "rc") => `(tactic| first
  | with_reducible exact rc_I1 | with_reducible exact rc_B1 | with_reducible exact rc_I2 | ((with_reducible apply rc_repr); walk_at "sc") | ((with_reducible apply rc_lenL); walk_at "sq")
  | ((with_reducible apply rc_isiInt); walk_at "pl") | ((with_reducible apply rc_isiBool); walk_at "pl"))
local macro_rules | `(tactic| walk_at "ea") => `(tactic| first
  | with_reducible exact ea_nil | ((with_reducible apply ea_cons); walk_at "ev"; walk_at "ea"))
local macro_rules | `(tactic| walk_at "pow") => `(tactic| first
  | with_reducible exact ev_pow (a := 10) (b := 9) (c := 1000000000) (by decide +kernel) (by decide +kernel)
  | with_reducible exact ev_pow (a := 10) (b := 10) (c := 10000000000) (by decide +kernel) (by decide +kernel)
  | with_reducible exact ev_pow (a := 10) (b := 12) (c := 1000000000000) (by decide +kernel) (by decide +kernel)
  | with_reducible exact ev_pow (a := 10) (b := 17) (c := 100000000000000000) (by decide +kernel) (by decide +kernel)
  | with_reducible exact ev_pow (a := 10) (b := 20) (c := 100000000000000000000) (by decide +kernel) (by decide +kernel)
  | with_reducible exact ev_pow (a := 10) (b := 29) (c := 100000000000000000000000000000) (by decide +kernel) (by decide +kernel)
  | with_reducible exact ev_pow (a := 10) (b := 30) (c := 1000000000000000000000000000000) (by decide +kernel) (by decide +kernel)
  | with_reducible exact ev_pow (a := 10) (b := 40) (c := 10000000000000000000000000000000000000000) (by decide +kernel) (by decide +kernel)
  | with_reducible exact ev_pow (a := 10) (b := 57) (c := 1000000000000000000000000000000000000000000000000000000000) (by decide +kernel) (by decide +kernel)
  | with_reducible exact ev_pow (a := 10) (b := 58) (c := 10000000000000000000000000000000000000000000000000000000000) (by decide +kernel) (by decide +kernel)
  | with_reducible exact ev_pow (a := 10) (b := 59) (c := 100000000000000000000000000000000000000000000000000000000000) (by decide +kernel) (by decide +kernel)
  | with_reducible exact ev_pow (a := 10) (b := 60) (c := 1000000000000000000000000000000000000000000000000000000000000) (by decide +kernel) (by decide +kernel))
local macro_rules | `(tactic| walk_at "call") => `(tactic| (intro H9 e9; first | exact ⟨_, rfl, rfl⟩ | exact ⟨_, _, rfl, rfl⟩ | exact ⟨_, _, _, rfl, rfl⟩ | exact ⟨_, rfl, by walk_at "pl", rfl⟩ | (refine ⟨_, _, _, rfl, ?_, rfl⟩; first | exact Plain.ex e9 (by assumption) | walk_at "pl") | (refine ⟨_, rfl, ?_, rfl⟩; first | exact Plain.ex e9 (by assumption) | walk_at "pl")))
local macro_rules | `(tactic| walk_at "ev") => `(tactic| first
  | with_reducible exact ev_c
  | exact ev_var rfl
  | walk_at "pow"
  | ((with_reducible apply ev_op); walk_at "ev"; walk_at "ev"; walk_at "rv")
  | ((with_reducible apply ev_un); walk_at "ev"; walk_at "rv")
  | ((with_reducible apply ev_cb); walk_at "ea"; walk_at "rc")
  | ((with_reducible apply ev_callP); walk_at "ea"; walk_at "call")
  | ((with_reducible apply ev_chain); walk_at "ev"; walk_at "ev"; walk_at "rv"; walk_at "ev"; walk_at "rv")
  | ((with_reducible apply ev_andV); walk_at "ev"; intro _; walk_at "ev")
  | ((with_reducible apply ev_orV); walk_at "ev"; intro _; walk_at "ev")
  | ((with_reducible apply ev_ite); walk_at "et"; intro _; walk_at "ev"; intro _; walk_at "ev")
  | ((with_reducible apply ev_notV); walk_at "ev"))
local macro_rules | `(tactic| walk_at "et") => `(tactic| first
  | ((with_reducible apply et_test); walk_at "ev")
  | ((with_reducible apply et_B); walk_at "ev")
  | ((with_reducible apply et_and); walk_at "et"; intro _; walk_at "et")
  | ((with_reducible apply et_or); walk_at "et"; intro _; walk_at "et")
  | ((with_reducible apply et_not); walk_at "et"))
section
variable {P : Program} {w : World} {K : PySem.W.Frag} {mg : Str → Option Value} {base : Heap}
def kIsInteger (K : PySem.W.Frag) (vs : List V) (H : Hp) (z : V) : Prop := ∃ x, vs = [x] ∧ Plain K H x ∧ z = .bl (isIntV x)
theorem ok_is_integer (T : Txt K mg w) : FnOk P w K mg base CX0 1 T.a_is_integer T.fd_is_integer ["value"] (Pure (kIsInteger K)) := by
  refine T.F_is_integer.ok sc_is_integer (fun vs H Q E h => ?_) (fun cdv A outer s H vs Q E hr h => ?_)
  · obtain ⟨_, ⟨a, rfl, _⟩, _⟩ := h; rfl
  · obtain ⟨_, ⟨x, rfl, hp, rfl⟩, q⟩ := h
    refine ⟨_, (pss_one (ps_ret (pe_and (pe_callB call_isi (by rfl) T.z_isinstance (by decide +kernel) (pa_cons (pv 0) (pa_cons (pe_bltn (v := .ty "int") (by rfl) T.z_int (by decide +kernel) rfl) pa_nil))) (pe_and (pe_not (pe_callB call_isi (by rfl) T.z_isinstance (by decide +kernel) (pa_cons (pv 0) (pa_cons (pe_bltn (v := .ty "bool") (by rfl) T.z_bool (by decide +kernel) rfl) pa_nil)))) (pe_one (pe_chain op_lt op_lt (pe_un un_neg (pe_op op_pow pe_int pe_int)) (pv 0) (pe_op op_pow pe_int pe_int))))))), ?_⟩
    refine s_ret (v := .bl (isIntV x)) ?_ q
    cases x with
    | int i =>
      apply ev_is
      walk_at "ev"
      show V.bl (true && (!false && (decide (-1000000000000000000000000000000000000000000000000000000000000 < i) && decide (i < 1000000000000000000000000000000000000000000000000000000000000)))) = _
      rfl
    | bl b =>
      refine ev_andV (a := true) (b := false) (by apply ev_is; walk_at "ev"; rfl) fun _ => ?_
      exact ev_andV (a := false) (b := false) (by apply ev_is; walk_at "ev"; rfl) (fun h => by cases h)
    | non => exact ev_andV (a := false) (b := false) (by apply ev_is; walk_at "ev"; rfl) (fun h => by cases h)
    | str _ => exact ev_andV (a := false) (b := false) (by apply ev_is; walk_at "ev"; rfl) (fun h => by cases h)
    | byt _ => exact ev_andV (a := false) (b := false) (by apply ev_is; walk_at "ev"; rfl) (fun h => by cases h)
    | flt _ => exact ev_andV (a := false) (b := false) (by apply ev_is; walk_at "ev"; rfl) (fun h => by cases h)
    | ref _ => exact ev_andV (a := false) (b := false) (by apply ev_is; walk_at "ev"; rfl) (fun h => by cases h)
    | ty _ => exact ev_andV (a := false) (b := false) (by apply ev_is; walk_at "ev"; rfl) (fun h => by cases h)
def kIsWithin (K : PySem.W.Frag) (vs : List V) (H : Hp) (z : V) : Prop := ∃ x lo hi, vs = [x, .int lo, .int hi] ∧ Plain K H x ∧ z = .bl (isWithin lo hi x)
theorem ok_is_within (T : Txt K mg w) : FnOk P w K mg base CX0 2 T.a_is_within T.fd_is_within ["value", "low", "high"] (Pure (kIsWithin K)) := by
  have G_is_integer := ok_is_integer (P := P) (w := w) (base := base) T
  refine T.F_is_within.ok sc_is_within (fun vs H Q E h => ?_) (fun cdv A outer s H vs Q E hr h => ?_)
  · obtain ⟨_, ⟨a, _, _, rfl, _⟩, _⟩ := h; rfl
  · obtain ⟨_, ⟨x, lo, hi, rfl, hp, rfl⟩, q⟩ := h
    refine ⟨_, (pss_one (ps_ret (pe_and (pe_call G_is_integer (hr.mono (by decide)) (by rfl) T.g_is_integer T.F_is_integer.kp T.b_is_integer .nil pass0 (pa_cons (pv 0) pa_nil)) (pe_one (pe_chain op_le op_le (pv 1) (pv 0) (pv 2)))))), ?_⟩
    refine s_ret (v := .bl (isWithin lo hi x)) ?_ q
    cases x with
    | int i => apply ev_is; walk_at "ev"; rfl
    | bl b => exact ev_andV (a := false) (b := false) (by apply ev_is; walk_at "ev"; rfl) (fun h => by cases h)
    | non => exact ev_andV (a := false) (b := false) (by apply ev_is; walk_at "ev"; rfl) (fun h => by cases h)
    | str _ => exact ev_andV (a := false) (b := false) (by apply ev_is; walk_at "ev"; rfl) (fun h => by cases h)
    | byt _ => exact ev_andV (a := false) (b := false) (by apply ev_is; walk_at "ev"; rfl) (fun h => by cases h)
    | flt _ => exact ev_andV (a := false) (b := false) (by apply ev_is; walk_at "ev"; rfl) (fun h => by cases h)
    | ref _ => exact ev_andV (a := false) (b := false) (by apply ev_is; walk_at "ev"; rfl) (fun h => by cases h)
    | ty _ => exact ev_andV (a := false) (b := false) (by apply ev_is; walk_at "ev"; rfl) (fun h => by cases h)
def kRoll (vs : List V) (_ : Hp) (p : Addr) (R : V → Prop) : Prop := ∃ t : Int, vs = [.ref p, .int t] ∧ 0 < t ∧ t.natAbs < 2 ^ 400 ∧ R = fun v => ∃ r : Int, v = .int r ∧ 0 ≤ r ∧ r < t
theorem ok_roll (T : Txt K mg w) : FnOk P w K mg base CX0 1 T.a_law_roll T.fd_law_roll ["dice", "total"] (Draws kRoll) := by
  refine T.F_law_roll.ok sc_law_roll (fun vs H Q E h => ?_) (fun cdv A outer s H vs Q E hr h => ?_)
  · obtain ⟨p, _, ⟨t, rfl, _⟩, _⟩ := h; rfl
  · obtain ⟨p, _, ⟨t, rfl, h0, h1, rfl⟩, ⟨a, b, c, hp⟩, q0⟩ := h
    have q : ∀ (r : Int) H', 0 ≤ r → r < t → Exd p H H' → Dice p H' → Q (.int r) H' := fun r H' a b => q0 _ H' ⟨r, rfl, a, b⟩
    refine ⟨_, (pss_cons (ps_if (pt_cmpR op_gt (pe_ix ix_list (pv 0) pe_int (fun _ _ => rfl)) pe_int (nomark _)) (pss_cons (ps_set (i := 2) sc_law_roll.nd rfl (.inl rfl) (pe_op op_mod (pe_callTy c_int (by rfl) T.z_int (by decide +kernel) (pa_cons (pe_ix ix_list (pv 0) pe_int (fun _ _ => rfl)) pa_nil)) (pv 1)))
  (pss_cons (ps_asg (pe_op op_fdivW (pe_ix ix_list (pv 0) pe_int (fun _ _ => rfl)) (pv 1)) (pg_sub (pv 0) pe_int set_list))
  (pss_one (ps_ret (pv 2))))) pss_nil)
  (pss_cons (ps_asg (pe_op op_add (pe_ix ix_list (pv 0) pe_int (fun _ _ => rfl)) pe_int) (pg_sub (pv 0) pe_int set_list))
  (pss_cons (ps_set (i := 3) sc_law_roll.nd rfl (.inl rfl) (pe_op op_mod (pe_callTy c_int (by rfl) T.z_int (by decide +kernel) (pa_cons (pe_op op_add (pe_ix ix_list (pv 0) pe_int (fun _ _ => rfl)) (pe_op op_mul pe_int (pe_ix ix_list (pv 0) pe_int (fun _ _ => rfl)))) pa_nil)) pe_int))
  (pss_cons (ps_set (i := 4) sc_law_roll.nd rfl (.inl rfl) (pe_op op_add (pe_op op_mul (pe_op op_mod (pe_callTy c_int (by rfl) T.z_int (by decide +kernel) (pa_cons (pe_op op_add (pe_op op_mul (pv 3) (pv 3)) (pe_op op_mul pe_int (pe_ix ix_list (pv 0) pe_int (fun _ _ => rfl)))) pa_nil)) pe_int) pe_int) (pv 3)))
  (pss_one (ps_ret (pe_op op_mod (pe_callTy c_int (by rfl) T.z_int (by decide +kernel) (pa_cons (pe_op op_fdivW (pv 4) pe_int) pa_nil)) (pv 1)))))))), ?_⟩
    have cd : CDivW a t := wide_div h0 h1 (by decide) (by decide)
    apply q_when
    case h => walk_at "et"
    · intro hb H1 e1
      have hp := e1 _ _ hp
      apply q_asg
      case h => walk_at "ev"
      intro H2 e2
      have hp := e2 _ _ hp
      refine q_setL (j := 0) hp (v := .int (a / t)) (by walk_at "ev") (ev_var rfl) ev_c (by show 0 < 3; decide) fun H3 e3 => ?_
      refine ⟨_, rfl, q _ _ (Int.emod_nonneg _ (by omega)) (Int.emod_lt_of_pos _ h0) ?_ ⟨_, _, _, upd_same⟩⟩
      exact (Exd.of (e1.trans (e2.trans e3))).trans Exd.upd
    · intro hb H1 e1
      have hp := e1 _ _ hp
      refine q_setL (j := 2) hp (v := .int (c + 1)) (by walk_at "ev") (ev_var rfl) ev_c (by show 2 < 3; decide) fun H3 e3 => ?_
      have hq : (upd H3 p (.lst ([.int a, .int b, .int c].set 2 (.int (c + 1))))) p = some (.lst [.int a, .int b, .int (c + 1)]) := upd_same
      have ex := (Exd.of (e1.trans e3)).trans (Exd.upd (p := p) (o := .lst ([.int a, .int b, .int c].set 2 (.int (c + 1)))))
      generalize upd H3 p (.lst ([.int a, .int b, .int c].set 2 (.int (c + 1)))) = H4 at hq ex
      apply q_asg
      case h => walk_at "ev"
      intro H5 e5
      have hq := e5 _ _ hq
      generalize ho : (b + 67867979 * (c + 1)) % 2305843009213693723 = one
      have ho1 : 0 ≤ one := by rw [← ho]; exact Int.emod_nonneg _ (by omega)
      have ho2 : one < 2305843009213693723 := by rw [← ho]; exact Int.emod_lt_of_pos _ (by omega)
      have cm : CMul one one := .inl (by constructor <;> omega)
      apply q_asg
      case h => walk_at "ev"
      intro H6 e6
      have hq := e6 _ _ hq
      apply s_ret
      case h => walk_at "ev"
      intro H7 e7
      exact q _ _ (Int.emod_nonneg _ (by omega)) (Int.emod_lt_of_pos _ h0) (ex.trans (Exd.of (e5.trans (e6.trans e7)))) ⟨_, _, _, e7 _ _ hq⟩
def spDice (K : PySem.W.Frag) : Sp := fun vs H Q _ => ∃ (a : Addr) (ns : List Int) (sp : Nat), vs = [.ref a, .int sp] ∧ SqL K H a (ns.map V.int) ∧ ∀ p H', H p = none → Ex H H' → Dice p H' → Q (.ref p) H'
theorem ok_dice (T : Txt K mg w) : FnOk P w K mg base CX0 1 T.a_law_dice T.fd_law_dice ["script", "spot"] (spDice K) := by
  refine T.F_law_dice.ok sc_law_dice (fun vs H Q E h => ?_) (fun cdv A outer s H vs Q E hr h => ?_)
  · obtain ⟨_, _, _, rfl, _⟩ := h; rfl
  · obtain ⟨a, ns, sp, rfl, hS, q⟩ := h
    refine ⟨_, (pss_cons (ps_set (i := 2) sc_law_dice.nd rfl (.inl rfl) (pe_ifExp (pt_cmpR op_lt (pv 1) (pe_callB c_len (by rfl) T.z_len PySem.boot_len (pa_cons (pv 0) pa_nil)) (nomark _)) (pe_callTy c_int (by rfl) T.z_int (by decide +kernel) (pa_cons (pe_ix ix_list (pv 0) (pv 1) (fun _ _ => rfl)) pa_nil)) (pe_op op_add (pe_op op_mul pe_int (pv 1)) pe_int)))
  (pss_cons (ps_set (i := 3) sc_law_dice.nd rfl (.inl rfl) (pe_op op_mod (pe_callB (c_max rfl) (by rfl) T.z_max (by decide +kernel) (pa_cons pe_int (pa_cons (pe_op op_sub (pe_callB c_abs (by rfl) T.z_abs (by decide +kernel) (pa_cons (pv 2) pa_nil)) (pe_op op_pow pe_int pe_int)) pa_nil))) (pe_op op_mulW (pe_op op_pow pe_int pe_int) (pe_op op_pow pe_int pe_int))))
  (pss_one (ps_ret (pe_lst (pa_cons (pv 3) (pa_cons (pe_op op_add (pe_op op_add (pe_op op_add (pe_op op_mul (pe_op op_mod (pe_callB c_abs (by rfl) T.z_abs (by decide +kernel) (pa_cons (pv 2) pa_nil)) pe_int) pe_int) (pe_op op_mul pe_int (pv 1))) (pe_op op_mul pe_int (pe_callTy c_intB (by rfl) T.z_int (by decide +kernel) (pa_cons (pe_cmpR op_lt (pv 2) pe_int (nomark _)) pa_nil)))) pe_int) (pa_cons pe_int pa_nil)))))))), ?_⟩
    refine q_asgI ?_ fun cell H1 e1 => ?_
    · by_cases hs : sp < ns.length
      · have hx : (ns.map V.int)[sp]? = some (.int ns[sp]) := by rw [List.getElem?_map, List.getElem?_eq_getElem hs]; rfl
        have hi : atI (ns.map V.int) (sp : Int) = some (.int ns[sp]) := atI_nat hx
        refine ⟨ns[sp], ev_if (b := true) ?_ (fun _ => by walk_at "ev") (fun h => by cases h)⟩
        apply et_is
        walk_at "et"
        rw [List.length_map]
        exact decide_eq_true (by omega)
      · refine ⟨_, ev_if (b := false) ?_ (fun h => by cases h) (fun _ => by walk_at "ev")⟩
        apply et_is
        walk_at "et"
        rw [List.length_map]
        exact decide_eq_false (by omega)
    refine q_asgI ⟨_, ev_op (y := .int 1000000000000000000000000000000000000000000000000000000000000000000000000000000000000000000000000000000000000000000000) (by walk_at "ev") (ev_is (ev_op (by walk_at "pow") (by walk_at "pow") (rv_I (by unfold CMulW; decide +kernel))) (by decide +kernel)) (rv_I (by decide))⟩ fun left H2 e2 => ?_
    have hm : ∀ n : Int, CMul (n % 1152921504606846817) 83 := fun n => .inr (by omega)
    have hm2 := hm (if cell < 0 then -cell else cell)
    refine s_retL (el_lst (by walk_at "ea") (by show 3 ≤ 100000; decide)) fun p H3 hp e3 h3 => ?_
    exact q p H3 (fresh_back (e1.trans e2) hp) ((e1.trans e2).trans e3) ⟨_, _, _, h3⟩
def kPick (K : PySem.W.Frag) (vs : List V) (H : Hp) (p : Addr) (R : V → Prop) : Prop := ∃ (a : Addr) (xs : List V), vs = [.ref p, .ref a] ∧ a ≠ p ∧ SqL K H a xs ∧ 0 < xs.length ∧ xs.length < 1000000 ∧ R = fun v => v ∈ xs
theorem ok_pick (T : Txt K mg w) : FnOk P w K mg base CX0 2 T.a_law_pick T.fd_law_pick ["dice", "items"] (Draws (kPick K)) := by
  have G_law_roll := ok_roll (P := P) (w := w) (base := base) T
  refine T.F_law_pick.ok sc_law_pick (fun vs H Q E h => ?_) (fun cdv A outer s H vs Q E hr h => ?_)
  · obtain ⟨p, _, ⟨_, _, rfl, _⟩, _⟩ := h; rfl
  · obtain ⟨p, _, ⟨a, xs, rfl, hne, hS, hl, hl2, rfl⟩, hd, q⟩ := h
    refine ⟨_, (pss_one (ps_ret (pe_ix ix_list (pv 1) (pe_call G_law_roll (hr.mono (by decide)) (by rfl) T.g_law_roll T.F_law_roll.kp T.b_law_roll .nil pass0 (pa_cons (pv 0) (pa_cons (pe_callB c_len (by rfl) T.z_len PySem.boot_len (pa_cons (pv 1) pa_nil)) pa_nil))) (fun _ _ => rfl)))), ?_⟩
    refine ⟨.ref a, rfl, ?_⟩
    refine goA (vs := [.ref p, .int xs.length]) (by walk_at "ea") fun H1 e1 => ?_
    refine ⟨p, _, ⟨(xs.length : Int), rfl, by omega, by rw [Int.natAbs_natCast]; exact Nat.lt_trans hl2 (by decide), rfl⟩, hd.ex e1, ?_⟩
    rintro v H2 ⟨r, rfl, hr0, hr1⟩ e2 d2
    obtain ⟨n, rfl⟩ := Int.eq_ofNat_of_zero_le hr0
    have hn : n < xs.length := by omega
    refine ⟨a, xs, n, xs[n], rfl, rfl, e2.l hne (ex_l e1 hS), atI_nat (List.getElem?_eq_getElem hn), ?_⟩
    exact q _ H2 (List.getElem_mem hn) ((Exd.of e1).trans e2) d2
end
end Kz
set_option Elab.async false
set_option linter.all false
set_option maxRecDepth 100000
set_option maxHeartbeats 4000000
set_option exponentiation.threshold 500
namespace Kz
open PySem PySem.Spec PyProof.Rows L2 Evl Vr
local macro_rules | `(tactic| walk_at "sc") => `(tactic| first | (with_reducible assumption) | (with_reducible exact sc_mul (by omega)) | (with_reducible exact sc_mulr (by omega)) | (with_reducible exact sc_div (by omega) (by decide)) | (show (0 : Int) < _; omega) | (show _ ≠ (0 : Int); omega) | (with_reducible rfl) | decide)
local macro_rules | `(tactic| walk_at "sq") => `(tactic| first | assumption | exact sq_of (by assumption) | exact st_of (by assumption))
local macro_rules | `(tactic| walk_at "pl") => `(tactic| first | assumption | exact pl_int | exact pl_bl | exact pl_str | exact pl_non | exact pl_lst (by assumption) | exact pl_tup (by assumption) | exact pl_dK (by assumption))
local macro_rules | `(tactic| walk_at "rv") => `(tactic| first
  | with_reducible exact rv_I0
  | with_reducible exact ru_neg
  | ((with_reducible apply rv_I); walk_at "sc")
  | ((with_reducible apply rv_ixL); walk_at "sq"; first | rfl | assumption)
  | ((with_reducible apply rv_ixT); walk_at "sq"; first | rfl | assumption)
  | ((with_reducible apply rv_eq); rfl) | ((with_reducible apply rv_ne); rfl))
local macro_rules | `(tactic| walk_at "rc") => `(tactic| first
  | with_reducible exact rc_I1 | with_reducible exact rc_B1 | with_reducible exact rc_I2 | ((with_reducible apply rc_repr); walk_at "sc") | ((with_reducible apply rc_lenL); walk_at "sq")
  | ((with_reducible apply rc_isiInt); walk_at "pl") | ((with_reducible apply rc_isiBool); walk_at "pl"))
local macro_rules | `(tactic| walk_at "ea") => `(tactic| first
  | with_reducible exact ea_nil | ((with_reducible apply ea_cons); walk_at "ev"; walk_at "ea"))
local macro_rules | `(tactic| walk_at "pow") => `(tactic| first
  | with_reducible exact ev_pow (a := 10) (b := 9) (c := 1000000000) (by decide +kernel) (by decide +kernel)
  | with_reducible exact ev_pow (a := 10) (b := 10) (c := 10000000000) (by decide +kernel) (by decide +kernel)
  | with_reducible exact ev_pow (a := 10) (b := 12) (c := 1000000000000) (by decide +kernel) (by decide +kernel)
  | with_reducible exact ev_pow (a := 10) (b := 17) (c := 100000000000000000) (by decide +kernel) (by decide +kernel)
  | with_reducible exact ev_pow (a := 10) (b := 20) (c := 100000000000000000000) (by decide +kernel) (by decide +kernel)
  | with_reducible exact ev_pow (a := 10) (b := 29) (c := 100000000000000000000000000000) (by decide +kernel) (by decide +kernel)
  | with_reducible exact ev_pow (a := 10) (b := 30) (c := 1000000000000000000000000000000) (by decide +kernel) (by decide +kernel)
  | with_reducible exact ev_pow (a := 10) (b := 40) (c := 10000000000000000000000000000000000000000) (by decide +kernel) (by decide +kernel)
  | with_reducible exact ev_pow (a := 10) (b := 57) (c := 1000000000000000000000000000000000000000000000000000000000) (by decide +kernel) (by decide +kernel)
  | with_reducible exact ev_pow (a := 10) (b := 58) (c := 10000000000000000000000000000000000000000000000000000000000) (by decide +kernel) (by decide +kernel)
  | with_reducible exact ev_pow (a := 10) (b := 59) (c := 100000000000000000000000000000000000000000000000000000000000) (by decide +kernel) (by decide +kernel)
  | with_reducible exact ev_pow (a := 10) (b := 60) (c := 1000000000000000000000000000000000000000000000000000000000000) (by decide +kernel) (by decide +kernel))
local macro_rules | `(tactic| walk_at "call") => `(tactic| (intro H9 e9; first | exact ⟨_, rfl, rfl⟩ | exact ⟨_, _, rfl, rfl⟩ | exact ⟨_, _, _, rfl, rfl⟩ | exact ⟨_, rfl, by walk_at "pl", rfl⟩ | (refine ⟨_, _, _, rfl, ?_, rfl⟩; first | exact Plain.ex e9 (by assumption) | walk_at "pl") | (refine ⟨_, rfl, ?_, rfl⟩; first | exact Plain.ex e9 (by assumption) | walk_at "pl")))
local macro_rules | `(tactic| walk_at "ev") => `(tactic| first
  | with_reducible exact ev_c
  | exact ev_var rfl
  | walk_at "pow"
  | ((with_reducible apply ev_op); walk_at "ev"; walk_at "ev"; walk_at "rv")
  | ((with_reducible apply ev_un); walk_at "ev"; walk_at "rv")
  | ((with_reducible apply ev_cb); walk_at "ea"; walk_at "rc")
  | ((with_reducible apply ev_callP); walk_at "ea"; walk_at "call")
  | ((with_reducible apply ev_chain); walk_at "ev"; walk_at "ev"; walk_at "rv"; walk_at "ev"; walk_at "rv")
  | ((with_reducible apply ev_andV); walk_at "ev"; intro _; walk_at "ev")
  | ((with_reducible apply ev_orV); walk_at "ev"; intro _; walk_at "ev")
  | ((with_reducible apply ev_ite); walk_at "et"; intro _; walk_at "ev"; intro _; walk_at "ev")
  | ((with_reducible apply ev_notV); walk_at "ev"))
local macro_rules | `(tactic| walk_at "et") => `(tactic| first
  | ((with_reducible apply et_test); walk_at "ev")
  | ((with_reducible apply et_B); walk_at "ev")
  | ((with_reducible apply et_and); walk_at "et"; intro _; walk_at "et")
  | ((with_reducible apply et_or); walk_at "et"; intro _; walk_at "et")
  | ((with_reducible apply et_not); walk_at "et"))
section
variable {P : Program} {w : World} {K : PySem.W.Frag} {mg : Str → Option Value} {base : Heap}
def kIsWhole (K : PySem.W.Frag) (vs : List V) (H : Hp) (z : V) : Prop := ∃ n : Int, vs = [.int n] ∧ z = .bl (isIntV (.int n) && decide (0 ≤ n))
theorem ok_is_whole (T : Txt K mg w) : FnOk P w K mg base CX0 2 T.a_is_whole T.fd_is_whole ["value"] (Pure (kIsWhole K)) := by
  have G_is_integer := ok_is_integer (P := P) (w := w) (base := base) T
  refine T.F_is_whole.ok sc_is_whole (fun vs H Q E h => ?_) (fun cdv A outer s H vs Q E hr h => ?_)
  · obtain ⟨_, ⟨_, rfl, _⟩, _⟩ := h; rfl
  · obtain ⟨_, ⟨n, rfl, rfl⟩, q⟩ := h
    refine ⟨_, (pss_one (ps_ret (pe_and (pe_call G_is_integer (hr.mono (by decide)) (by rfl) T.g_is_integer T.F_is_integer.kp T.b_is_integer .nil pass0 (pa_cons (pv 0) pa_nil)) (pe_one (pe_cmpR op_ge (pv 0) pe_int (nomark _)))))), ?_⟩
    refine s_ret (v := .bl (isIntV (.int n) && decide (0 ≤ n))) ?_ q
    walk_at "ev"
/-- what is asked of an index -/
def Idx (n : Int) : Prop := 0 ≤ n ∧ n < 1000000000000000000000000000000000000000000000000000000000000
theorem idx_ok {n : Int} (h : Idx n) : (isIntV (.int n) && decide (0 ≤ n)) = true := by
  unfold isIntV
  simp only [Bool.and_eq_true, decide_eq_true_eq]
  exact ⟨⟨by have := h.1; omega, h.2⟩, h.1⟩
def kNeedWhole (vs : List V) (_ : Hp) (z : V) : Prop := ∃ n : Int, vs = [.int n] ∧ Idx n ∧ z = .non
theorem ok_need_whole (T : Txt K mg w) : FnOk P w K mg base CX0 3 T.a_need_whole T.fd_need_whole ["value"] (Pure kNeedWhole) := by
  have G_is_whole := ok_is_whole (P := P) (w := w) (base := base) T
  refine T.F_need_whole.ok sc_need_whole (fun vs H Q E h => ?_) (fun cdv A outer s H vs Q E hr h => ?_)
  · obtain ⟨_, ⟨_, rfl, _⟩, _⟩ := h; rfl
  · obtain ⟨_, ⟨n, rfl, hn, rfl⟩, q⟩ := h
    refine ⟨_, (pss_one (ps_if (pt_not (pt_val (pe_call G_is_whole (hr.mono (by decide)) (by rfl) T.g_is_whole T.F_is_whole.kp T.b_is_whole .nil pass0 (pa_cons (pv 0) pa_nil)))) (pss_one ps_never) pss_nil)), ?_⟩
    refine s_when (b := false) ?_ (fun h => by cases h) (fun _ H1 e1 => q H1 e1)
    apply et_is
    walk_at "et"
    rw [idx_ok hn]
    rfl
def kIsLuck (K : PySem.W.Frag) (vs : List V) (H : Hp) (z : V) : Prop := ∃ x, vs = [x] ∧ Plain K H x ∧ z = .bl (isWithin 0 (999999937 - 1) x)
theorem ok_is_luck (T : Txt K mg w) : FnOk P w K mg base CX0 3 T.a_is_luck T.fd_is_luck ["value"] (Pure (kIsLuck K)) := by
  have G_is_within := ok_is_within (P := P) (w := w) (base := base) T
  refine T.F_is_luck.ok sc_is_luck (fun vs H Q E h => ?_) (fun cdv A outer s H vs Q E hr h => ?_)
  · obtain ⟨_, ⟨_, rfl, _⟩, _⟩ := h; rfl
  · obtain ⟨_, ⟨x, rfl, hp, rfl⟩, q⟩ := h
    refine ⟨_, (pss_one (ps_ret (pe_call G_is_within (hr.mono (by decide)) (by rfl) T.g_is_within T.F_is_within.kp T.b_is_within .nil pass0 (pa_cons (pv 0) (pa_cons pe_int (pa_cons (pe_op op_sub (pe_glob (v := .int 999999937) rfl T.g_MODULUS ⟨_, rfl⟩) pe_int) pa_nil)))))), ?_⟩
    refine s_ret (v := .bl (isWithin 0 (999999937 - 1) x)) ?_ q
    walk_at "ev"
theorem luck_ok {n : Int} (h : 0 ≤ n ∧ n < 999999937) : isWithin 0 (999999937 - 1) (.int n) = true := by
  unfold isWithin isIntV
  simp only [Bool.and_eq_true, decide_eq_true_eq]
  omega
def kNeedLuck (vs : List V) (_ : Hp) (z : V) : Prop := ∃ n : Int, vs = [.int n] ∧ (0 ≤ n ∧ n < 999999937) ∧ z = .non
theorem ok_need_luck (T : Txt K mg w) : FnOk P w K mg base CX0 4 T.a_need_luck T.fd_need_luck ["value"] (Pure kNeedLuck) := by
  have G_is_luck := ok_is_luck (P := P) (w := w) (base := base) T
  refine T.F_need_luck.ok sc_need_luck (fun vs H Q E h => ?_) (fun cdv A outer s H vs Q E hr h => ?_)
  · obtain ⟨_, ⟨_, rfl, _⟩, _⟩ := h; rfl
  · obtain ⟨_, ⟨n, rfl, hn, rfl⟩, q⟩ := h
    refine ⟨_, (pss_one (ps_if (pt_not (pt_val (pe_call G_is_luck (hr.mono (by decide)) (by rfl) T.g_is_luck T.F_is_luck.kp T.b_is_luck .nil pass0 (pa_cons (pv 0) pa_nil)))) (pss_one ps_never) pss_nil)), ?_⟩
    refine s_when (b := false) ?_ (fun h => by cases h) (fun _ H1 e1 => q H1 e1)
    apply et_is
    walk_at "et"
    rw [luck_ok hn]
    rfl
/-! ### powers by squares -/
theorem pow_step {r s b E : Nat} {e : Nat} (h : r * s ^ e % Pm.p = E) : (if e % 2 = 1 then r * s % Pm.p else r) * (s * s % Pm.p) ^ (e / 2) % Pm.p = E := by
  rw [← h, Nat.mul_mod, ← Nat.pow_mod, ← Nat.mul_mod]
  have e1 : s ^ e = (s * s) ^ (e / 2) * s ^ (e % 2) := by
    rw [show s * s = s ^ 2 from (Nat.pow_two s).symm, ← Nat.pow_mul, ← Nat.pow_add, Nat.div_add_mod]
  split
  · rename_i h1
    rw [e1, h1, Nat.pow_one, Nat.mod_mul_mod]
    congr 1
    rw [Nat.mul_assoc, Nat.mul_comm s]
  · rename_i h1
    have h0 : e % 2 = 0 := by omega
    rw [e1, h0, Nat.pow_zero, Nat.mul_one]
def kPower (vs : List V) (_ : Hp) (z : V) : Prop := ∃ (b : Int) (e : Nat), vs = [.int b, .int e] ∧ z = .int (((b % 999999937).toNat ^ e % Pm.p : Nat) : Int)
theorem ok_power (T : Txt K mg w) : FnOk P w K mg base CX0 1 T.a_power T.fd_power ["base", "exponent"] (Pure kPower) := by
  refine T.F_power.ok sc_power (fun vs H Q E h => ?_) (fun cdv A outer s H vs Q E hr h => ?_)
  · obtain ⟨_, ⟨_, _, rfl, _⟩, _⟩ := h; rfl
  · obtain ⟨_, ⟨b, e, rfl, rfl⟩, q⟩ := h
    refine ⟨_, (pss_cons (ps_set (i := 2) sc_power.nd rfl (.inl rfl) pe_int)
  (pss_cons (ps_set (i := 3) sc_power.nd rfl (.inl rfl) (pe_op op_mod (pv 0) (pe_glob (v := .int 999999937) rfl T.g_MODULUS ⟨_, rfl⟩)))
  (pss_cons (ps_while PassesOwn.never (pt_cmpR op_gt (pv 1) pe_int (nomark _)) (pss_cut (ps_if (pt_truth (pe_op op_and (pv 1) pe_int) (by intro _; rfl)) (pss_one (ps_set (i := 2) sc_power.nd rfl (.inl rfl) (pe_op op_mod (pe_op op_mul (pv 2) (pv 3)) (pe_glob (v := .int 999999937) rfl T.g_MODULUS ⟨_, rfl⟩)))) pss_nil)
  (pss_cons (ps_set (i := 3) sc_power.nd rfl (.inl rfl) (pe_op op_mod (pe_op op_mul (pv 3) (pv 3)) (pe_glob (v := .int 999999937) rfl T.g_MODULUS ⟨_, rfl⟩)))
  (pss_one (ps_set (i := 1) sc_power.nd rfl (.inl rfl) (pe_op op_shr (pv 1) pe_int))))))
  (pss_one (ps_ret (pv 2)))))), ?_⟩
    apply q_asg
    case h => walk_at "ev"
    intro H1 e1
    apply q_asg
    case h => walk_at "ev"
    intro H2 e2
    generalize hE : (b % 999999937).toNat ^ e % Pm.p = Z at q
    have hb0 : 0 ≤ b % 999999937 := Int.emod_nonneg _ (by decide)
    have hb1 : b % 999999937 < 999999937 := Int.emod_lt_of_pos _ (by decide)
    obtain ⟨bn, hbn⟩ := Int.eq_ofNat_of_zero_le hb0
    rw [hbn] at hE hb1
    refine q_while (fun m σ H' => ∃ (r sq : Nat), σ = [some (.int b), some (.int m), some (.int r), some (.int sq)] ∧ r < 999999937 ∧ sq < 999999937 ∧ r * sq ^ m % Pm.p = Z ∧ Ex H H') e ⟨1, bn, ?_, by decide, by omega, by rw [Nat.one_mul]; exact hE, e1.trans e2⟩ ?_
    · rw [hbn]; rfl
    rintro m σ H3 ⟨r, sq, rfl, hr1, hs1, hz, e3⟩
    refine ⟨decide ((0 : Int) < m), by walk_at "et", fun hd H4 e4 => ?_, fun hd H4 e4 => ?_⟩
    · have hd := of_decide_eq_true hd
      refine ⟨_, fun _ _ h => h, ?_⟩
      have hm1 : CMul (r : Int) sq := .inl (by omega)
      have hm2 : CMul (sq : Int) sq := .inl (by omega)
      have hbit : Builtin.bitAnd (m : Int) 1 = ((m % 2 : Nat) : Int) := by
        have h1 := Bits.bitAnd_mask (x := (m : Int)) 1 (by omega)
        have h2 : ((2 : Int) ^ 1 - 1) = 1 := by decide
        rw [h2] at h1
        rw [h1]
        omega
      refine ⟨fun σ' H' => σ' = [some (.int b), some (.int m), some (.int ((if m % 2 = 1 then r * sq % Pm.p else r : Nat) : Int)), some (.int sq)] ∧ Ex H3 H', ?_, ?_⟩
      · refine go (v := .int ((m % 2 : Nat) : Int)) (ev_is (ev_op (ev_var rfl) ev_c rv_I0) (by rw [hbit])) fun H5 e5 => ?_
        refine ⟨((m % 2 : Nat) : Int) != 0, rfl, ?_⟩
        refine ite2 (fun hc => ?_) (fun hc => ?_)
        · apply s_asg
          case h => walk_at "ev"
          intro H6 e6
          have h1 : m % 2 = 1 := by simp at hc; omega
          rw [if_pos h1]
          exact ⟨by show [_, _, some (V.int ((r : Int) * sq % 999999937)), _] = _; rw [Int.natCast_emod, Int.natCast_mul]; rfl, (e4.trans e5).trans e6⟩
        · have h1 : ¬ m % 2 = 1 := by simp at hc; omega
          rw [if_neg h1]
          exact ⟨rfl, e4.trans e5⟩
      · rintro σ' H5 ⟨rfl, e5⟩
        apply q_asg
        case h => walk_at "ev"
        intro H6 e6
        apply s_asg
        case h => walk_at "ev"
        intro H7 e7
        refine ⟨m / 2, by omega, _, sq * sq % Pm.p, ?_, ?_, Nat.mod_lt _ (by decide), pow_step (b := 0) hz, ((e3.trans e5).trans e6).trans e7⟩
        · show [some (V.int b), some (V.int ((m : Int) / 2 ^ (1 : Int).toNat)), some (V.int _), some (V.int ((sq : Int) * sq % 999999937))] = _
          rw [Int.natCast_emod, Int.natCast_mul, Int.natCast_ediv]
          rfl
        · split
          · exact Nat.mod_lt _ (by decide)
          · exact hr1
    · have hd := of_decide_eq_false hd
      have hx : m = 0 := by omega
      subst hx
      rw [Nat.pow_zero, Nat.mul_one, Nat.mod_eq_of_lt hr1] at hz
      subst hz
      apply s_ret
      case h => walk_at "ev"
      exact fun H5 e5 => q H5 ((e3.trans e4).trans e5)
end
end Kz
set_option Elab.async false
set_option linter.all false
set_option maxRecDepth 100000
set_option maxHeartbeats 4000000
set_option exponentiation.threshold 500
namespace Kz
open PySem PySem.Spec PyProof.Rows L2 Evl Vr
local macro_rules | `(tactic| walk_at "sc") => `(tactic| first | (with_reducible assumption) | (with_reducible exact sc_mul (by omega)) | (with_reducible exact sc_mulr (by omega)) | (with_reducible exact sc_div (by omega) (by decide)) | (show (0 : Int) < _; omega) | (show _ ≠ (0 : Int); omega) | (with_reducible rfl) | decide)
local macro_rules | `(tactic| walk_at "sq") => `(tactic| first | assumption | exact sq_of (by assumption) | exact st_of (by assumption))
local macro_rules | `(tactic| walk_at "pl") => `(tactic| first | assumption | exact pl_int | exact pl_bl | exact pl_str | exact pl_non | exact pl_lst (by assumption) | exact pl_tup (by assumption) | exact pl_dK (by assumption))
local macro_rules | `(tactic| walk_at "rv") => `(tactic| first
  | with_reducible exact rv_I0
  | with_reducible exact ru_neg
  | ((with_reducible apply rv_I); walk_at "sc")
  | ((with_reducible apply rv_ixL); walk_at "sq"; first | rfl | assumption)
  | ((with_reducible apply rv_ixT); walk_at "sq"; first | rfl | assumption)
  | ((with_reducible apply rv_eq); rfl) | ((with_reducible apply rv_ne); rfl))
local macro_rules | `(tactic| walk_at "rc") => `(tactic| first
  | with_reducible exact rc_I1 | with_reducible exact rc_B1 | with_reducible exact rc_I2 | ((with_reducible apply rc_repr); walk_at "sc") | ((with_reducible apply rc_lenL); walk_at "sq")
  | ((with_reducible apply rc_isiInt); walk_at "pl") | ((with_reducible apply rc_isiBool); walk_at "pl"))
local macro_rules | `(tactic| walk_at "ea") => `(tactic| first
  | with_reducible exact ea_nil | ((with_reducible apply ea_cons); walk_at "ev"; walk_at "ea"))
local macro_rules | `(tactic| walk_at "pow") => `(tactic| first
  | with_reducible exact ev_pow (a := 10) (b := 9) (c := 1000000000) (by decide +kernel) (by decide +kernel)
  | with_reducible exact ev_pow (a := 10) (b := 10) (c := 10000000000) (by decide +kernel) (by decide +kernel)
  | with_reducible exact ev_pow (a := 10) (b := 12) (c := 1000000000000) (by decide +kernel) (by decide +kernel)
  | with_reducible exact ev_pow (a := 10) (b := 17) (c := 100000000000000000) (by decide +kernel) (by decide +kernel)
  | with_reducible exact ev_pow (a := 10) (b := 20) (c := 100000000000000000000) (by decide +kernel) (by decide +kernel)
  | with_reducible exact ev_pow (a := 10) (b := 29) (c := 100000000000000000000000000000) (by decide +kernel) (by decide +kernel)
  | with_reducible exact ev_pow (a := 10) (b := 30) (c := 1000000000000000000000000000000) (by decide +kernel) (by decide +kernel)
  | with_reducible exact ev_pow (a := 10) (b := 40) (c := 10000000000000000000000000000000000000000) (by decide +kernel) (by decide +kernel)
  | with_reducible exact ev_pow (a := 10) (b := 57) (c := 1000000000000000000000000000000000000000000000000000000000) (by decide +kernel) (by decide +kernel)
  | with_reducible exact ev_pow (a := 10) (b := 58) (c := 10000000000000000000000000000000000000000000000000000000000) (by decide +kernel) (by decide +kernel)
  | with_reducible exact ev_pow (a := 10) (b := 59) (c := 100000000000000000000000000000000000000000000000000000000000) (by decide +kernel) (by decide +kernel)
  | with_reducible exact ev_pow (a := 10) (b := 60) (c := 1000000000000000000000000000000000000000000000000000000000000) (by decide +kernel) (by decide +kernel))
local macro_rules | `(tactic| walk_at "call") => `(tactic| (intro H9 e9; first | exact ⟨_, rfl, rfl⟩ | exact ⟨_, _, rfl, rfl⟩ | exact ⟨_, _, _, rfl, rfl⟩ | exact ⟨_, rfl, by walk_at "pl", rfl⟩ | (refine ⟨_, _, _, rfl, ?_, rfl⟩; first | exact Plain.ex e9 (by assumption) | walk_at "pl") | (refine ⟨_, rfl, ?_, rfl⟩; first | exact Plain.ex e9 (by assumption) | walk_at "pl")))
local macro_rules | `(tactic| walk_at "ev") => `(tactic| first
  | with_reducible exact ev_c
  | exact ev_var rfl
  | walk_at "pow"
  | ((with_reducible apply ev_op); walk_at "ev"; walk_at "ev"; walk_at "rv")
  | ((with_reducible apply ev_un); walk_at "ev"; walk_at "rv")
  | ((with_reducible apply ev_cb); walk_at "ea"; walk_at "rc")
  | ((with_reducible apply ev_callP); walk_at "ea"; walk_at "call")
  | ((with_reducible apply ev_chain); walk_at "ev"; walk_at "ev"; walk_at "rv"; walk_at "ev"; walk_at "rv")
  | ((with_reducible apply ev_andV); walk_at "ev"; intro _; walk_at "ev")
  | ((with_reducible apply ev_orV); walk_at "ev"; intro _; walk_at "ev")
  | ((with_reducible apply ev_ite); walk_at "et"; intro _; walk_at "ev"; intro _; walk_at "ev")
  | ((with_reducible apply ev_notV); walk_at "ev"))
local macro_rules | `(tactic| walk_at "et") => `(tactic| first
  | ((with_reducible apply et_test); walk_at "ev")
  | ((with_reducible apply et_B); walk_at "ev")
  | ((with_reducible apply et_and); walk_at "et"; intro _; walk_at "et")
  | ((with_reducible apply et_or); walk_at "et"; intro _; walk_at "et")
  | ((with_reducible apply et_not); walk_at "et"))
theorem s_par {σ : L2.St} {H : Hp} {ts : TA} {D : Ends} {i j : Nat} {v1 v2 : V} (h : EvA ts σ H [v1, v2]) (k : ∀ H1, Ex H H1 → D.nx ((σ.set i (some v1)).set j (some v2)) H1) : tPar i j ts D σ H := h H (Ex.refl H) _ fun H1 e1 => ⟨v1, v2, rfl, k H1 e1⟩
section
variable {P : Program} {w : World} {K : PySem.W.Frag} {mg : Str → Option Value} {base : Heap}
def kLuck (g : Nat → Nat) (vs : List V) (_ : Hp) (z : V) : Prop := ∃ x : Nat, vs = [.int x] ∧ x < 999999937 ∧ z = .int (g x : Nat)
theorem ok_following (T : Txt K mg w) : FnOk P w K mg base CX0 1 T.a_following T.fd_following ["luck"] (Pure (kLuck fun x => Pg.al x 1)) := by
  refine T.F_following.ok sc_following (fun vs H Q E h => ?_) (fun cdv A outer s H vs Q E hr h => ?_)
  · obtain ⟨_, ⟨_, rfl, _⟩, _⟩ := h; rfl
  · obtain ⟨_, ⟨x, rfl, hx, rfl⟩, q⟩ := h
    refine ⟨_, (pss_one (ps_ret (pe_op op_mod (pe_op op_add (pe_op op_mul (pe_glob (v := .int 48274) rfl T.g_FACTOR ⟨_, rfl⟩) (pv 0)) (pe_glob (v := .int 271829) rfl T.g_SUMMAND ⟨_, rfl⟩)) (pe_glob (v := .int 999999937) rfl T.g_MODULUS ⟨_, rfl⟩)))), ?_⟩
    refine s_ret (v := .int (Pg.al x 1 : Nat)) ?_ q
    refine ev_is (by walk_at "ev") ?_
    rw [← Pg.al_next, Int.natCast_emod, Int.natCast_add, Int.natCast_mul]
    rfl
theorem ok_next_luck (T : Txt K mg w) : FnOk P w K mg base CX0 5 T.a_next_luck T.fd_next_luck ["luck"] (Pure (kLuck fun x => Pg.al x 1)) := by
  have G_following := ok_following (P := P) (w := w) (base := base) T
  have G_need_luck := ok_need_luck (P := P) (w := w) (base := base) T
  refine T.F_next_luck.ok sc_next_luck (fun vs H Q E h => ?_) (fun cdv A outer s H vs Q E hr h => ?_)
  · obtain ⟨_, ⟨_, rfl, _⟩, _⟩ := h; rfl
  · obtain ⟨_, ⟨x, rfl, hx, rfl⟩, q⟩ := h
    refine ⟨_, (pss_cons (ps_expr (pe_call G_need_luck (hr.mono (by decide)) (by rfl) T.g_need_luck T.F_need_luck.kp T.b_need_luck .nil pass0 (pa_cons (pv 0) pa_nil)))
  (pss_one (ps_ret (pe_call G_following (hr.mono (by decide)) (by rfl) T.g_following T.F_following.kp T.b_following .nil pass0 (pa_cons (pv 0) pa_nil))))), ?_⟩
    refine q_drop (v := .non) (ev_callP (by walk_at "ea") fun H1 _ => ⟨x, rfl, ⟨by omega, by omega⟩, rfl⟩) fun H1 e1 => ?_
    exact s_ret (v := .int (Pg.al x 1 : Nat)) (ev_callP (by walk_at "ea") fun H2 _ => ⟨x, rfl, hx, rfl⟩) fun H2 e2 => q H2 (e1.trans e2)
def kAlong (vs : List V) (_ : Hp) (z : V) : Prop := ∃ x m : Nat, vs = [.int x, .int m] ∧ x < 999999937 ∧ z = .int (Pg.al x m : Nat)
theorem ok_along (T : Txt K mg w) : FnOk P w K mg base CX0 2 T.a_along T.fd_along ["luck", "many"] (Pure kAlong) := by
  have G_power := ok_power (P := P) (w := w) (base := base) T
  refine T.F_along.ok sc_along (fun vs H Q E h => ?_) (fun cdv A outer s H vs Q E hr h => ?_)
  · obtain ⟨_, ⟨_, _, rfl, _⟩, _⟩ := h; rfl
  · obtain ⟨_, ⟨x, m, rfl, hx, rfl⟩, q⟩ := h
    refine ⟨_, (pss_one (ps_ret (pe_op op_mod (pe_op op_add (pe_op op_mul (pe_op op_sub (pv 0) (pe_glob (v := .int 949019055) rfl T.g_STILL ⟨_, rfl⟩)) (pe_call G_power (hr.mono (by decide)) (by rfl) T.g_power T.F_power.kp T.b_power .nil pass0 (pa_cons (pe_glob (v := .int 48274) rfl T.g_FACTOR ⟨_, rfl⟩) (pa_cons (pv 1) pa_nil)))) (pe_glob (v := .int 949019055) rfl T.g_STILL ⟨_, rfl⟩)) (pe_glob (v := .int 999999937) rfl T.g_MODULUS ⟨_, rfl⟩)))), ?_⟩
    refine s_ret (v := .int (Pg.al x m : Nat)) ?_ q
    refine ev_is (v := .int ((((x : Int) - 949019055) * ((48274 ^ m % Pm.p : Nat) : Int) + 949019055) % 999999937)) ?_ (by rw [Pg.al_int hx])
    refine ev_op (ev_op (ev_op (by walk_at "ev") (ev_callP (vs := [.int 48274, .int m]) (by walk_at "ea") fun H1 _ => ⟨48274, m, rfl, rfl⟩) (rv_I (.inl ⟨by omega, by omega⟩))) ev_c rv_I0) ev_c (rv_I (by walk_at "sc"))
theorem idx_nat {m : Nat} (h : m < 1000000000000000000000000000000000000000000000000000000000000) : Idx (m : Int) := by
  unfold Idx
  omega
def kAfter (vs : List V) (_ : Hp) (z : V) : Prop := ∃ x m : Nat, vs = [.int x, .int m] ∧ x < 999999937 ∧ m < 1000000000000000000000000000000000000000000000000000000000000 ∧ z = .int (Pg.al x m : Nat)
theorem ok_luck_after (T : Txt K mg w) : FnOk P w K mg base CX0 5 T.a_luck_after T.fd_luck_after ["luck", "many"] (Pure kAfter) := by
  have G_along := ok_along (P := P) (w := w) (base := base) T
  have G_need_luck := ok_need_luck (P := P) (w := w) (base := base) T
  have G_need_whole := ok_need_whole (P := P) (w := w) (base := base) T
  refine T.F_luck_after.ok sc_luck_after (fun vs H Q E h => ?_) (fun cdv A outer s H vs Q E hr h => ?_)
  · obtain ⟨_, ⟨_, _, rfl, _⟩, _⟩ := h; rfl
  · obtain ⟨_, ⟨x, m, rfl, hx, hm, rfl⟩, q⟩ := h
    refine ⟨_, (pss_cons (ps_expr (pe_call G_need_luck (hr.mono (by decide)) (by rfl) T.g_need_luck T.F_need_luck.kp T.b_need_luck .nil pass0 (pa_cons (pv 0) pa_nil)))
  (pss_cons (ps_expr (pe_call G_need_whole (hr.mono (by decide)) (by rfl) T.g_need_whole T.F_need_whole.kp T.b_need_whole .nil pass0 (pa_cons (pv 1) pa_nil)))
  (pss_one (ps_ret (pe_call G_along (hr.mono (by decide)) (by rfl) T.g_along T.F_along.kp T.b_along .nil pass0 (pa_cons (pv 0) (pa_cons (pv 1) pa_nil))))))), ?_⟩
    refine q_drop (v := .non) (ev_callP (by walk_at "ea") fun H1 _ => ⟨x, rfl, ⟨by omega, by omega⟩, rfl⟩) fun H1 e1 => ?_
    refine q_drop (v := .non) (ev_callP (by walk_at "ea") fun H1 _ => ⟨m, rfl, idx_nat hm, rfl⟩) fun H2 e2 => ?_
    exact s_ret (v := .int (Pg.al x m : Nat)) (ev_callP (by walk_at "ea") fun H3 _ => ⟨x, m, rfl, hx, rfl⟩) fun H3 e3 => q H3 ((e1.trans e2).trans e3)
def back (m : Nat) : Nat := (-(m : Int) % 999999936).toNat
theorem back_int (m : Nat) : -(m : Int) % 999999936 = (back m : Nat) := by
  unfold back
  omega
theorem back_sum (m : Nat) : (m + back m) % 999999936 = 0 := by
  have := back_int m
  omega
theorem back_lt (m : Nat) : back m < 999999936 := by
  have := back_int m
  omega
def kBefore (vs : List V) (_ : Hp) (z : V) : Prop := ∃ x m : Nat, vs = [.int x, .int m] ∧ x < 999999937 ∧ m < 1000000000000000000000000000000000000000000000000000000000000 ∧ z = .int (Pg.al x (back m) : Nat)
theorem ok_luck_before (T : Txt K mg w) : FnOk P w K mg base CX0 5 T.a_luck_before T.fd_luck_before ["luck", "many"] (Pure kBefore) := by
  have G_along := ok_along (P := P) (w := w) (base := base) T
  have G_need_luck := ok_need_luck (P := P) (w := w) (base := base) T
  have G_need_whole := ok_need_whole (P := P) (w := w) (base := base) T
  refine T.F_luck_before.ok sc_luck_before (fun vs H Q E h => ?_) (fun cdv A outer s H vs Q E hr h => ?_)
  · obtain ⟨_, ⟨_, _, rfl, _⟩, _⟩ := h; rfl
  · obtain ⟨_, ⟨x, m, rfl, hx, hm, rfl⟩, q⟩ := h
    refine ⟨_, (pss_cons (ps_expr (pe_call G_need_luck (hr.mono (by decide)) (by rfl) T.g_need_luck T.F_need_luck.kp T.b_need_luck .nil pass0 (pa_cons (pv 0) pa_nil)))
  (pss_cons (ps_expr (pe_call G_need_whole (hr.mono (by decide)) (by rfl) T.g_need_whole T.F_need_whole.kp T.b_need_whole .nil pass0 (pa_cons (pv 1) pa_nil)))
  (pss_one (ps_ret (pe_call G_along (hr.mono (by decide)) (by rfl) T.g_along T.F_along.kp T.b_along .nil pass0 (pa_cons (pv 0) (pa_cons (pe_op op_mod (pe_un un_neg (pv 1)) (pe_op op_sub (pe_glob (v := .int 999999937) rfl T.g_MODULUS ⟨_, rfl⟩) pe_int)) pa_nil))))))), ?_⟩
    refine q_drop (v := .non) (ev_callP (by walk_at "ea") fun H1 _ => ⟨x, rfl, ⟨by omega, by omega⟩, rfl⟩) fun H1 e1 => ?_
    refine q_drop (v := .non) (ev_callP (by walk_at "ea") fun H1 _ => ⟨m, rfl, idx_nat hm, rfl⟩) fun H2 e2 => ?_
    refine s_ret (v := .int (Pg.al x (back m) : Nat)) (ev_callP (vs := [.int x, .int (back m : Nat)]) (ea_cons (by walk_at "ev") (ea_cons (ev_is (v := .int (-(m : Int) % (999999937 - 1))) (by walk_at "ev") ?_) ea_nil)) fun H3 _ => ⟨x, back m, rfl, hx, rfl⟩) fun H3 e3 => q H3 ((e1.trans e2).trans e3)
    rw [← back_int]
    rfl
theorem ok_luck_ahead (T : Txt K mg w) : FnOk P w K mg base CX0 6 T.a_luck_ahead T.fd_luck_ahead ["luck"] (Pure (kLuck fun x => Pg.al x (back 1))) := by
  have G_luck_before := ok_luck_before (P := P) (w := w) (base := base) T
  refine T.F_luck_ahead.ok sc_luck_ahead (fun vs H Q E h => ?_) (fun cdv A outer s H vs Q E hr h => ?_)
  · obtain ⟨_, ⟨_, rfl, _⟩, _⟩ := h; rfl
  · obtain ⟨_, ⟨x, rfl, hx, rfl⟩, q⟩ := h
    refine ⟨_, (pss_one (ps_ret (pe_call G_luck_before (hr.mono (by decide)) (by rfl) T.g_luck_before T.F_luck_before.kp T.b_luck_before .nil pass0 (pa_cons (pv 0) (pa_cons pe_int pa_nil))))), ?_⟩
    exact s_ret (v := .int (Pg.al x (back 1) : Nat)) (ev_callP (vs := [.int x, .int 1]) (by walk_at "ea") fun H3 _ => ⟨x, 1, rfl, hx, by decide, rfl⟩) q
end
end Kz
set_option Elab.async false
set_option linter.all false
set_option maxRecDepth 100000
set_option maxHeartbeats 4000000
set_option exponentiation.threshold 500
namespace Kz
open PySem PySem.Spec PyProof.Rows L2 Evl Vr
local macro_rules | `(tactic| walk_at "sc") => `(tactic| first | (with_reducible assumption) | (with_reducible exact sc_mul (by omega)) | (with_reducible exact sc_mulr (by omega)) | (with_reducible exact sc_div (by omega) (by decide)) | (show (0 : Int) < _; omega) | (show _ ≠ (0 : Int); omega) | (with_reducible rfl) | decide)
local macro_rules | `(tactic| walk_at "sq") => `(tactic| first | assumption | exact sq_of (by assumption) | exact st_of (by assumption))
local macro_rules | `(tactic| walk_at "pl") => `(tactic| first | assumption | exact pl_int | exact pl_bl | exact pl_str | exact pl_non | exact pl_lst (by assumption) | exact pl_tup (by assumption) | exact pl_dK (by assumption))
local macro_rules | `(tactic| walk_at "rv") => `(tactic| first
  | with_reducible exact rv_I0
  | with_reducible exact ru_neg
  | ((with_reducible apply rv_I); walk_at "sc")
  | ((with_reducible apply rv_ixL); walk_at "sq"; first | rfl | assumption)
  | ((with_reducible apply rv_ixT); walk_at "sq"; first | rfl | assumption)
  | ((with_reducible apply rv_eq); rfl) | ((with_reducible apply rv_ne); rfl))
local macro_rules | `(tactic| walk_at "rc") => `(tactic| first
  | with_reducible exact rc_I1 | with_reducible exact rc_B1 | with_reducible exact rc_I2 | ((with_reducible apply rc_repr); walk_at "sc") | ((with_reducible apply rc_lenL); walk_at "sq")
  | ((with_reducible apply rc_isiInt); walk_at "pl") | ((with_reducible apply rc_isiBool); walk_at "pl"))
local macro_rules | `(tactic| walk_at "ea") => `(tactic| first
  | with_reducible exact ea_nil | ((with_reducible apply ea_cons); walk_at "ev"; walk_at "ea"))
local macro_rules | `(tactic| walk_at "pow") => `(tactic| first
  | with_reducible exact ev_pow (a := 10) (b := 9) (c := 1000000000) (by decide +kernel) (by decide +kernel)
  | with_reducible exact ev_pow (a := 10) (b := 10) (c := 10000000000) (by decide +kernel) (by decide +kernel)
  | with_reducible exact ev_pow (a := 10) (b := 12) (c := 1000000000000) (by decide +kernel) (by decide +kernel)
  | with_reducible exact ev_pow (a := 10) (b := 17) (c := 100000000000000000) (by decide +kernel) (by decide +kernel)
  | with_reducible exact ev_pow (a := 10) (b := 20) (c := 100000000000000000000) (by decide +kernel) (by decide +kernel)
  | with_reducible exact ev_pow (a := 10) (b := 29) (c := 100000000000000000000000000000) (by decide +kernel) (by decide +kernel)
  | with_reducible exact ev_pow (a := 10) (b := 30) (c := 1000000000000000000000000000000) (by decide +kernel) (by decide +kernel)
  | with_reducible exact ev_pow (a := 10) (b := 40) (c := 10000000000000000000000000000000000000000) (by decide +kernel) (by decide +kernel)
  | with_reducible exact ev_pow (a := 10) (b := 57) (c := 1000000000000000000000000000000000000000000000000000000000) (by decide +kernel) (by decide +kernel)
  | with_reducible exact ev_pow (a := 10) (b := 58) (c := 10000000000000000000000000000000000000000000000000000000000) (by decide +kernel) (by decide +kernel)
  | with_reducible exact ev_pow (a := 10) (b := 59) (c := 100000000000000000000000000000000000000000000000000000000000) (by decide +kernel) (by decide +kernel)
  | with_reducible exact ev_pow (a := 10) (b := 60) (c := 1000000000000000000000000000000000000000000000000000000000000) (by decide +kernel) (by decide +kernel))
local macro_rules | `(tactic| walk_at "call") => `(tactic| (intro H9 e9; first | exact ⟨_, rfl, rfl⟩ | exact ⟨_, _, rfl, rfl⟩ | exact ⟨_, _, _, rfl, rfl⟩ | exact ⟨_, rfl, by walk_at "pl", rfl⟩ | (refine ⟨_, _, _, rfl, ?_, rfl⟩; first | exact Plain.ex e9 (by assumption) | walk_at "pl") | (refine ⟨_, rfl, ?_, rfl⟩; first | exact Plain.ex e9 (by assumption) | walk_at "pl")))
local macro_rules | `(tactic| walk_at "ev") => `(tactic| first
  | with_reducible exact ev_c
  | exact ev_var rfl
  | walk_at "pow"
  | ((with_reducible apply ev_op); walk_at "ev"; walk_at "ev"; walk_at "rv")
  | ((with_reducible apply ev_un); walk_at "ev"; walk_at "rv")
  | ((with_reducible apply ev_cb); walk_at "ea"; walk_at "rc")
  | ((with_reducible apply ev_callP); walk_at "ea"; walk_at "call")
  | ((with_reducible apply ev_chain); walk_at "ev"; walk_at "ev"; walk_at "rv"; walk_at "ev"; walk_at "rv")
  | ((with_reducible apply ev_andV); walk_at "ev"; intro _; walk_at "ev")
  | ((with_reducible apply ev_orV); walk_at "ev"; intro _; walk_at "ev")
  | ((with_reducible apply ev_ite); walk_at "et"; intro _; walk_at "ev"; intro _; walk_at "ev")
  | ((with_reducible apply ev_notV); walk_at "ev"))
local macro_rules | `(tactic| walk_at "et") => `(tactic| first
  | ((with_reducible apply et_test); walk_at "ev")
  | ((with_reducible apply et_B); walk_at "ev")
  | ((with_reducible apply et_and); walk_at "et"; intro _; walk_at "et")
  | ((with_reducible apply et_or); walk_at "et"; intro _; walk_at "et")
  | ((with_reducible apply et_not); walk_at "et"))
section
variable {P : Program} {w : World} {K : PySem.W.Frag} {mg : Str → Option Value} {base : Heap}
def kInv (vs : List V) (_ : Hp) (z : V) : Prop := ∃ P' : Nat, vs = [.int (Pg.shr P' : Nat), .int P'] ∧ P' ∈ Pg.parts ∧ z = .int (Pg.inv P' : Nat)
theorem ok_inverse (T : Txt K mg w) : FnOk P w K mg base CX0 1 T.a_inverse T.fd_inverse ["number", "part"] (Pure kInv) := by
  refine T.F_inverse.ok sc_inverse (fun vs H Q E h => ?_) (fun cdv A outer s H vs Q E hr h => ?_)
  · obtain ⟨_, ⟨_, rfl, _⟩, _⟩ := h; rfl
  · obtain ⟨_, ⟨n, rfl, hn, rfl⟩, q⟩ := h
    refine ⟨_, (pss_cons (ps_set (i := 2) sc_inverse.nd rfl (.inl rfl) pe_int)
  (pss_cons (ps_while PassesOwn.never (pt_cmpR op_ne (pe_op op_mod (pe_op op_mul (pv 2) (pv 0)) (pv 1)) pe_int (nomark _)) (pss_one (ps_set (i := 2) sc_inverse.nd rfl (.inl rfl) (pe_op op_add (pv 2) pe_int))))
  (pss_one (ps_ret (pv 2))))), ?_⟩
    have hp := Pg.parts_mul n hn
    obtain ⟨_, hn0, hn1, hi1, hi2, hone, hs⟩ := hp
    have least := Pg.parts_inv n hn
    generalize Pg.shr n = sn at *
    generalize Pg.inv n = iv at *
    refine q_asg (v := .int 1) ev_c fun H1 e1 => ?_
    refine q_while (fun m σ H' => ∃ c : Nat, σ = [some (.int sn), some (.int n), some (.int c)] ∧ 1 ≤ c ∧ c ≤ iv ∧ m = iv - c ∧ Ex H H') (iv - 1) ⟨1, rfl, by omega, hi1, rfl, e1⟩ ?_
    rintro m σ H2 ⟨c, rfl, hc1, hc2, hm, e2⟩
    have cd : CDivW ((c : Int) * sn) n := wide_div (b := 20) (by omega) (by omega) (by decide) (by decide)
    have e : (c : Int) * sn % n = ((c * sn % n : Nat) : Int) := by rw [Int.natCast_emod, Int.natCast_mul]
    refine ⟨!decide (V.int (((c * sn % n : Nat) : Int)) = V.int 1), ?_, fun hd H4 e4 => ?_, fun hd H4 e4 => ?_⟩
    · refine et_is (et_test (ev_op (x := .int ((c : Int) * sn % n)) (ev_op (ev_op (ev_var rfl) (ev_var rfl) (rv_I (sc_mul (by omega)))) (ev_var rfl) ?_) ev_c (rv_ne rfl))) (by rw [e])
      exact rv_I (show (0 : Int) < n by omega)
    · refine ⟨_, fun _ _ h => h, ?_⟩
      have ne : c ≠ iv := fun z => by
        subst z
        rw [hone] at hd
        exact absurd hd (by decide)
      refine s_asg (v := .int ((c + 1 : Nat) : Int)) (ev_is (by walk_at "ev") (by rw [Int.natCast_add]; rfl)) fun H5 e5 => ?_
      exact ⟨iv - (c + 1), by omega, c + 1, rfl, by omega, by omega, rfl, (e2.trans e4).trans e5⟩
    · have hx : c * sn % n = 1 := by
        have h1 : V.int (((c * sn % n : Nat) : Int)) = V.int 1 := by simpa using hd
        have h2 := V.int.inj h1
        omega
      have hc : c = iv := by
        rcases Nat.lt_or_ge c iv with z | z
        · exact absurd hx (least c z hc1)
        · omega
      subst hc
      exact s_ret (ev_var rfl) fun H5 e5 => q H5 ((e2.trans e4).trans e5)
def kTurns (vs : List V) (_ : Hp) (z : V) : Prop := ∃ h t n : Nat, vs = [.int h, .int (h ^ t % Pm.p : Nat), .int n] ∧ h < 999999937 ∧ (∀ u < t, h ^ u % Pm.p ≠ h ^ t % Pm.p) ∧ z = .int t
theorem ok_turns_to (T : Txt K mg w) : FnOk P w K mg base CX0 1 T.a_turns_to T.fd_turns_to ["base", "result", "part"] (Pure kTurns) := by
  refine T.F_turns_to.ok sc_turns_to (fun vs H Q E h => ?_) (fun cdv A outer s H vs Q E hr h => ?_)
  · obtain ⟨_, ⟨_, _, _, rfl, _⟩, _⟩ := h; rfl
  · obtain ⟨_, ⟨h, t, n, rfl, hh, least, rfl⟩, q⟩ := h
    refine ⟨_, (pss_cons (ps_asg (pe_tup (pa_cons pe_int (pa_cons pe_int pa_nil))) (pg_tup rfl (pgs_cons (pg_name (i := 3) sc_turns_to.nd rfl (.inl rfl)) (pgs_cons (pg_name (i := 4) sc_turns_to.nd rfl (.inl rfl)) pgs_nil))))
  (pss_cons (ps_while PassesOwn.never (pt_cmpR op_ne (pv 4) (pv 1) (nomark _)) (pss_one (ps_par (i := 3) (j := 4) (by rfl) sc_turns_to.nd rfl rfl (by decide) rfl rfl (pa_cons (pe_op op_add (pv 3) pe_int) (pa_cons (pe_op op_mod (pe_op op_mul (pv 4) (pv 0)) (pe_glob (v := .int 999999937) rfl T.g_MODULUS ⟨_, rfl⟩)) pa_nil)) (by rfl))))
  (pss_one (ps_ret (pv 3))))), ?_⟩
    generalize hZ : h ^ t % Pm.p = Z at *
    refine q_asg2U (v1 := .int 0) (v2 := .int 1) (eu_tup (by walk_at "ea") (by decide)) fun H1 e1 => ?_
    refine q_while (fun m σ H' => ∃ u f : Nat, σ = [some (.int h), some (.int Z), some (.int n), some (.int u), some (.int f)] ∧ u ≤ t ∧ m = t - u ∧ f = h ^ u % Pm.p ∧ Ex H H') t ⟨0, 1, rfl, by omega, rfl, by rw [Nat.pow_zero]; rfl, e1⟩ ?_
    rintro m σ H2 ⟨u, f, rfl, hu, hm, hf, e2⟩
    have hf1 : f < 999999937 := by rw [hf]; exact Nat.mod_lt _ (by decide)
    refine ⟨!decide (V.int (f : Int) = V.int (Z : Int)), by walk_at "et", fun hd H4 e4 => ?_, fun hd H4 e4 => ?_⟩
    · refine ⟨_, fun _ _ h => h, ?_⟩
      have ne : u ≠ t := fun z => by
        subst z
        rw [hf, hZ] at hd
        exact absurd hd (by simp)
      have hmul : CMul (f : Int) h := .inl (by omega)
      refine s_par (v1 := .int ((u + 1 : Nat) : Int)) (v2 := .int ((h ^ (u + 1) % Pm.p : Nat) : Int)) ?_ fun H5 e5 => ⟨t - (u + 1), by omega, u + 1, _, rfl, by omega, rfl, rfl, (e2.trans e4).trans e5⟩
      refine ea_cons (ev_is (by walk_at "ev") (by rw [Int.natCast_add]; rfl)) (ea_cons (ev_is (v := .int ((f : Int) * h % 999999937)) (by walk_at "ev") ?_) ea_nil)
      rw [Nat.pow_succ, Nat.mul_mod, ← hf, Nat.mod_eq_of_lt (show h < Pm.p from hh), Int.natCast_emod, Int.natCast_mul]
      rfl
    · have hx : f = Z := by
        have h1 : V.int (f : Int) = V.int (Z : Int) := by simpa using hd
        have h2 := V.int.inj h1
        omega
      have hc : u = t := by
        rcases Nat.lt_or_ge u t with z | z
        · exact absurd (hf.symm.trans hx) (least u z)
        · omega
      subst hc
      exact s_ret (ev_var rfl) fun H5 e5 => q H5 ((e2.trans e4).trans e5)
end
end Kz
set_option Elab.async false
set_option linter.all false
set_option maxRecDepth 100000
set_option maxHeartbeats 4000000
set_option exponentiation.threshold 500
namespace Kz
open PySem PySem.Spec PyProof.Rows L2 Evl Vr
local macro_rules | `(tactic| walk_at "sc") => `(tactic| first | (with_reducible assumption) | (with_reducible exact sc_mul (by omega)) | (with_reducible exact sc_mulr (by omega)) | (with_reducible exact sc_div (by omega) (by decide)) | (show (0 : Int) < _; omega) | (show _ ≠ (0 : Int); omega) | (with_reducible rfl) | decide)
local macro_rules | `(tactic| walk_at "sq") => `(tactic| first | assumption | exact sq_of (by assumption) | exact st_of (by assumption))
local macro_rules | `(tactic| walk_at "pl") => `(tactic| first | assumption | exact pl_int | exact pl_bl | exact pl_str | exact pl_non | exact pl_lst (by assumption) | exact pl_tup (by assumption) | exact pl_dK (by assumption))
local macro_rules | `(tactic| walk_at "rv") => `(tactic| first
  | with_reducible exact rv_I0
  | with_reducible exact ru_neg
  | ((with_reducible apply rv_I); walk_at "sc")
  | ((with_reducible apply rv_ixL); walk_at "sq"; first | rfl | assumption)
  | ((with_reducible apply rv_ixT); walk_at "sq"; first | rfl | assumption)
  | ((with_reducible apply rv_eq); rfl) | ((with_reducible apply rv_ne); rfl))
local macro_rules | `(tactic| walk_at "rc") => `(tactic| first
  | with_reducible exact rc_I1 | with_reducible exact rc_B1 | with_reducible exact rc_I2 | ((with_reducible apply rc_repr); walk_at "sc") | ((with_reducible apply rc_lenL); walk_at "sq")
  | ((with_reducible apply rc_isiInt); walk_at "pl") | ((with_reducible apply rc_isiBool); walk_at "pl"))
local macro_rules | `(tactic| walk_at "ea") => `(tactic| first
  | with_reducible exact ea_nil | ((with_reducible apply ea_cons); walk_at "ev"; walk_at "ea"))
local macro_rules | `(tactic| walk_at "pow") => `(tactic| first
  | with_reducible exact ev_pow (a := 10) (b := 9) (c := 1000000000) (by decide +kernel) (by decide +kernel)
  | with_reducible exact ev_pow (a := 10) (b := 10) (c := 10000000000) (by decide +kernel) (by decide +kernel)
  | with_reducible exact ev_pow (a := 10) (b := 12) (c := 1000000000000) (by decide +kernel) (by decide +kernel)
  | with_reducible exact ev_pow (a := 10) (b := 17) (c := 100000000000000000) (by decide +kernel) (by decide +kernel)
  | with_reducible exact ev_pow (a := 10) (b := 20) (c := 100000000000000000000) (by decide +kernel) (by decide +kernel)
  | with_reducible exact ev_pow (a := 10) (b := 29) (c := 100000000000000000000000000000) (by decide +kernel) (by decide +kernel)
  | with_reducible exact ev_pow (a := 10) (b := 30) (c := 1000000000000000000000000000000) (by decide +kernel) (by decide +kernel)
  | with_reducible exact ev_pow (a := 10) (b := 40) (c := 10000000000000000000000000000000000000000) (by decide +kernel) (by decide +kernel)
  | with_reducible exact ev_pow (a := 10) (b := 57) (c := 1000000000000000000000000000000000000000000000000000000000) (by decide +kernel) (by decide +kernel)
  | with_reducible exact ev_pow (a := 10) (b := 58) (c := 10000000000000000000000000000000000000000000000000000000000) (by decide +kernel) (by decide +kernel)
  | with_reducible exact ev_pow (a := 10) (b := 59) (c := 100000000000000000000000000000000000000000000000000000000000) (by decide +kernel) (by decide +kernel)
  | with_reducible exact ev_pow (a := 10) (b := 60) (c := 1000000000000000000000000000000000000000000000000000000000000) (by decide +kernel) (by decide +kernel))
local macro_rules | `(tactic| walk_at "call") => `(tactic| (intro H9 e9; first | exact ⟨_, rfl, rfl⟩ | exact ⟨_, _, rfl, rfl⟩ | exact ⟨_, _, _, rfl, rfl⟩ | exact ⟨_, rfl, by walk_at "pl", rfl⟩ | (refine ⟨_, _, _, rfl, ?_, rfl⟩; first | exact Plain.ex e9 (by assumption) | walk_at "pl") | (refine ⟨_, rfl, ?_, rfl⟩; first | exact Plain.ex e9 (by assumption) | walk_at "pl")))
local macro_rules | `(tactic| walk_at "ev") => `(tactic| first
  | with_reducible exact ev_c
  | exact ev_var rfl
  | walk_at "pow"
  | ((with_reducible apply ev_op); walk_at "ev"; walk_at "ev"; walk_at "rv")
  | ((with_reducible apply ev_un); walk_at "ev"; walk_at "rv")
  | ((with_reducible apply ev_cb); walk_at "ea"; walk_at "rc")
  | ((with_reducible apply ev_callP); walk_at "ea"; walk_at "call")
  | ((with_reducible apply ev_chain); walk_at "ev"; walk_at "ev"; walk_at "rv"; walk_at "ev"; walk_at "rv")
  | ((with_reducible apply ev_andV); walk_at "ev"; intro _; walk_at "ev")
  | ((with_reducible apply ev_orV); walk_at "ev"; intro _; walk_at "ev")
  | ((with_reducible apply ev_ite); walk_at "et"; intro _; walk_at "ev"; intro _; walk_at "ev")
  | ((with_reducible apply ev_notV); walk_at "ev"))
local macro_rules | `(tactic| walk_at "et") => `(tactic| first
  | ((with_reducible apply et_test); walk_at "ev")
  | ((with_reducible apply et_B); walk_at "ev")
  | ((with_reducible apply et_and); walk_at "et"; intro _; walk_at "et")
  | ((with_reducible apply et_or); walk_at "et"; intro _; walk_at "et")
  | ((with_reducible apply et_not); walk_at "et"))
section
variable {P : Program} {w : World} {K : PySem.W.Frag} {mg : Str → Option Value} {base : Heap}
def partV : List V := [.int 64, .int 9, .int 13, .int 83, .int 1609]
theorem part_at {i : Nat} {x : V} (h : partV[i]? = some x) : ∃ n : Nat, x = .int n ∧ n ∈ Pg.parts ∧ Pg.parts.getD i 1 = n := by
  match i, h with
  | 0, h => exact ⟨64, (Option.some.inj h).symm, by decide, rfl⟩
  | 1, h => exact ⟨9, (Option.some.inj h).symm, by decide, rfl⟩
  | 2, h => exact ⟨13, (Option.some.inj h).symm, by decide, rfl⟩
  | 3, h => exact ⟨83, (Option.some.inj h).symm, by decide, rfl⟩
  | 4, h => exact ⟨1609, (Option.some.inj h).symm, by decide, rfl⟩
  | i + 5, h => cases h
theorem gen_round {n x : Nat} (h : n ∈ Pg.parts) : Pg.gen n ^ x % Pm.p = Pg.gen n ^ (x % n) % Pm.p := by
  conv => lhs; rw [← Nat.div_add_mod x n, Nat.pow_add, Nat.pow_mul, Nat.mul_mod, Nat.pow_mod (Pg.gen n ^ n), Pg.gen_one h, Nat.one_pow]
  rw [show 1 % Pm.p = 1 from by decide, Nat.one_mul, Nat.mod_mod]
theorem gen_least {n x : Nat} (h : n ∈ Pg.parts) : ∀ u < x % n, Pg.gen n ^ u % Pm.p ≠ Pg.gen n ^ (x % n) % Pm.p := fun u hu e => by
  have h0 := (Pg.parts_mul n h).2.1
  have h1 : x % n < n := Nat.mod_lt _ h0
  have e1 := Pg.part_inj h e
  rw [Nat.mod_mod, Nat.mod_eq_of_lt (Nat.lt_trans hu h1)] at e1
  omega
theorem base_lt {r : Nat} (h : r < 999999937) : ((r : Int) % 999999937).toNat = r := by omega
def kLog (vs : List V) (_ : Hp) (z : V) : Prop := ∃ x : Nat, vs = [.int (48274 ^ x % Pm.p : Nat)] ∧ x < 999999936 ∧ z = .int x
theorem ok_logarithm (T : Txt K mg w) : FnOk P w K mg base CX0 2 T.a_logarithm T.fd_logarithm ["result"] (Pure kLog) := by
  have G_power := ok_power (P := P) (w := w) (base := base) T
  have G_turns_to := ok_turns_to (P := P) (w := w) (base := base) T
  have G_inverse := ok_inverse (P := P) (w := w) (base := base) T
  refine T.F_logarithm.ok sc_logarithm (fun vs H Q E h => ?_) (fun cdv A outer s H vs Q E hr h => ?_)
  · obtain ⟨_, ⟨_, rfl, _⟩, _⟩ := h; rfl
  · obtain ⟨_, ⟨x, rfl, hx, rfl⟩, q⟩ := h
    refine ⟨_, (pss_cons (ps_set (i := 1) sc_logarithm.nd rfl (.inl rfl) pe_int)
  (pss_cons (ps_for PassesOwn.never rfl (pi_tup (pe_glob (v := .ref _) rfl T.g_RING_PARTS rfl)) (pg_name (i := 2) sc_logarithm.nd rfl (.inl rfl)) (pss_cons (ps_set (i := 3) sc_logarithm.nd rfl (.inl rfl) (pe_op op_fdivW (pe_op op_sub (pe_glob (v := .int 999999937) rfl T.g_MODULUS ⟨_, rfl⟩) pe_int) (pv 2)))
  (pss_cons (ps_set (i := 4) sc_logarithm.nd rfl (.inl rfl) (pe_call G_turns_to (hr.mono (by decide)) (by rfl) T.g_turns_to T.F_turns_to.kp T.b_turns_to .nil pass0 (pa_cons (pe_call G_power (hr.mono (by decide)) (by rfl) T.g_power T.F_power.kp T.b_power .nil pass0 (pa_cons (pe_glob (v := .int 48274) rfl T.g_FACTOR ⟨_, rfl⟩) (pa_cons (pv 3) pa_nil))) (pa_cons (pe_call G_power (hr.mono (by decide)) (by rfl) T.g_power T.F_power.kp T.b_power .nil pass0 (pa_cons (pv 0) (pa_cons (pv 3) pa_nil))) (pa_cons (pv 2) pa_nil)))))
  (pss_one (ps_set (i := 1) sc_logarithm.nd rfl (.inl rfl) (pe_op op_add (pv 1) (pe_op op_mul (pe_op op_mul (pv 4) (pv 3)) (pe_call G_inverse (hr.mono (by decide)) (by rfl) T.g_inverse T.F_inverse.kp T.b_inverse .nil pass0 (pa_cons (pv 3) (pa_cons (pv 2) pa_nil))))))))))
  (pss_one (ps_ret (pe_op op_mod (pv 1) (pe_op op_sub (pe_glob (v := .int 999999937) rfl T.g_MODULUS ⟨_, rfl⟩) pe_int)))))), ?_⟩
    have hr0 : 48274 ^ x % Pm.p < 999999937 := Nat.mod_lt _ (by decide)
    have hshare : ∀ n ∈ Pg.parts, (48274 ^ x % Pm.p) ^ Pg.shr n % Pm.p = Pg.gen n ^ x % Pm.p := fun n hn => Pg.share hn
    generalize 48274 ^ x % Pm.p = r at hr0 hshare
    refine q_asg (v := .int 0) ev_c fun H1 e1 => ?_
    refine q_forT (xs := partV) (ev_c) (T.o_RING_PARTS H1) (fun i σ' H' => Ex H H' ∧ ∃ z1 z2 z3, σ' = [some (.int r), some (.int (Pg.summed x i : Nat)), z1, z2, z3]) (fun H2 e2 => ⟨e1.trans e2, none, none, none, rfl⟩) (fun i σ' H' _ h => T.o_RING_PARTS H') ?_ ?_
    · rintro i v σ' H' hv ⟨e', z1, z2, z3, rfl⟩
      obtain ⟨n, rfl, hn, hget⟩ := part_at hv
      obtain ⟨hmul, hn0, hn1, hi1, hi2, _, hs⟩ := Pg.parts_mul n hn
      have cd : CDivW ((999999937 : Int) - 1) n := wide_div (b := 20) (by omega) (by omega) (by decide) (by decide)
      refine q_asg (v := .int (Pg.shr n : Nat)) (ev_is (ev_op (z := .int ((999999937 - 1 : Int) / n)) (by walk_at "ev") (ev_var rfl) (rv_I cd)) (by unfold Pg.shr; rw [Int.natCast_ediv]; rfl)) fun H2 e2 => ?_
      refine q_asg (v := .int (x % n : Nat)) (ev_callP (vs := [.int (Pg.gen n : Nat), .int (Pg.gen n ^ (x % n) % Pm.p : Nat), .int n]) (ea_cons ?_ (ea_cons ?_ (ea_cons (ev_var rfl) ea_nil))) fun H3 _ => ⟨Pg.gen n, x % n, n, rfl, (Pg.gen_lt n hn).1, gen_least hn, rfl⟩) fun H3 e3 => ?_
      · exact ev_callP (vs := [.int 48274, .int (Pg.shr n : Nat)]) (by walk_at "ea") fun H3 _ => ⟨48274, Pg.shr n, rfl, by rw [← Pg.gen_eq hn]; rfl⟩
      · exact ev_callP (vs := [.int r, .int (Pg.shr n : Nat)]) (by walk_at "ea") fun H3 _ => ⟨r, Pg.shr n, rfl, by rw [base_lt hr0, hshare n hn]; exact congrArg (fun k : Nat => V.int (k : Int)) (gen_round hn).symm⟩
      have hm1 : x % n < n := Nat.mod_lt _ hn0
      refine s_asg (v := .int (Pg.summed x (i + 1) : Nat)) (ev_is (v := .int ((Pg.summed x i : Int) + ((x % n : Nat) : Int) * (Pg.shr n : Int) * (Pg.inv n : Int))) (ev_op (ev_var rfl) (ev_op (ev_op (ev_var rfl) (ev_var rfl) (rv_I (sc_mul (by omega)))) (ev_callP (vs := [.int (Pg.shr n : Nat), .int n]) (by walk_at "ea") fun H4 _ => ⟨n, rfl, hn, rfl⟩) (rv_I (sc_mulr (by omega)))) rv_I0) ?_) fun H4 e4 => ⟨((e'.trans e2).trans e3).trans e4, _, _, _, rfl⟩
      show _ = V.int ((Pg.summed x i + x % Pg.parts.getD i 1 * Pg.shr (Pg.parts.getD i 1) * Pg.inv (Pg.parts.getD i 1) : Nat) : Int)
      rw [hget, Int.natCast_add, Int.natCast_mul, Int.natCast_mul]
    · rintro σ' H' ⟨e', z1, z2, z3, rfl⟩
      refine s_ret (v := .int x) (ev_is (v := .int ((Pg.summed x partV.length : Nat) % (999999937 - 1) : Int)) (by walk_at "ev") ?_) fun H2 e2 => q H2 (e'.trans e2)
      have e : Pg.summed x partV.length % 999999936 = x := Pg.summed_ok hx
      generalize Pg.summed x partV.length = S at e
      refine congrArg V.int ?_
      omega
def kBetween (vs : List V) (_ : Hp) (z : V) : Prop := ∃ x y : Nat, vs = [.int x, .int y] ∧ x < 999999937 ∧ y < 999999937 ∧ (x = y ∧ z = .int 0 ∨ x ≠ y ∧ (x = 949019055 ∨ y = 949019055) ∧ z = .non ∨ x ≠ y ∧ x ≠ 949019055 ∧ y ≠ 949019055 ∧ ∃ m : Nat, m < 999999936 ∧ Pg.al x m = y ∧ z = .int m)
theorem inV_still (x y : Nat) : inV (.int 949019055) [.int x, .int y] = decide (x = 949019055 ∨ y = 949019055) := by
  have e : ∀ n : Nat, eqV (.int n) (.int 949019055) = decide (n = 949019055) := fun n => by
    show ((n : Int) == 949019055) = _
    rcases Nat.decEq n 949019055 with h | h
    · rw [decide_eq_false h]; simp; omega
    · subst h; rfl
  show (eqV _ _ || (eqV _ _ || false)) = _
  rw [e, e, Bool.or_false, Bool.decide_or]
theorem ok_lucks_between (T : Txt K mg w) : FnOk P w K mg base CX0 5 T.a_lucks_between T.fd_lucks_between ["one", "other"] (Pure kBetween) := by
  have G_power := ok_power (P := P) (w := w) (base := base) T
  have G_need_luck := ok_need_luck (P := P) (w := w) (base := base) T
  have G_logarithm := ok_logarithm (P := P) (w := w) (base := base) T
  refine T.F_lucks_between.ok sc_lucks_between (fun vs H Q E h => ?_) (fun cdv A outer s H vs Q E hr h => ?_)
  · obtain ⟨_, ⟨_, _, rfl, _⟩, _⟩ := h; rfl
  · obtain ⟨z, ⟨x, y, rfl, hx, hy, hz⟩, q⟩ := h
    refine ⟨_, (pss_cons (ps_expr (pe_call G_need_luck (hr.mono (by decide)) (by rfl) T.g_need_luck T.F_need_luck.kp T.b_need_luck .nil pass0 (pa_cons (pv 0) pa_nil)))
  (pss_cons (ps_expr (pe_call G_need_luck (hr.mono (by decide)) (by rfl) T.g_need_luck T.F_need_luck.kp T.b_need_luck .nil pass0 (pa_cons (pv 1) pa_nil)))
  (pss_cons (ps_if (pt_cmpR op_eq (pv 0) (pv 1) (nomark _)) (pss_one (ps_ret pe_int)) pss_nil)
  (pss_cons (ps_if (pt_cmpR op_in_seq (pe_glob (v := .int 949019055) rfl T.g_STILL ⟨_, rfl⟩) (pe_tup (pa_cons (pv 0) (pa_cons (pv 1) pa_nil))) (by rfl)) (pss_one (ps_ret pe_non)) pss_nil)
  (pss_one (ps_ret (pe_call G_logarithm (hr.mono (by decide)) (by rfl) T.g_logarithm T.F_logarithm.kp T.b_logarithm .nil pass0 (pa_cons (pe_op op_mod (pe_op op_mul (pe_op op_sub (pv 1) (pe_glob (v := .int 949019055) rfl T.g_STILL ⟨_, rfl⟩)) (pe_call G_power (hr.mono (by decide)) (by rfl) T.g_power T.F_power.kp T.b_power .nil pass0 (pa_cons (pe_op op_sub (pv 0) (pe_glob (v := .int 949019055) rfl T.g_STILL ⟨_, rfl⟩)) (pa_cons (pe_op op_sub (pe_glob (v := .int 999999937) rfl T.g_MODULUS ⟨_, rfl⟩) pe_int) pa_nil)))) (pe_glob (v := .int 999999937) rfl T.g_MODULUS ⟨_, rfl⟩)) pa_nil)))))))), ?_⟩
    refine q_drop (v := .non) (ev_callP (by walk_at "ea") fun H1 _ => ⟨x, rfl, ⟨by omega, by omega⟩, rfl⟩) fun H1 e1 => ?_
    refine q_drop (v := .non) (ev_callP (by walk_at "ea") fun H1 _ => ⟨y, rfl, ⟨by omega, by omega⟩, rfl⟩) fun H2 e2 => ?_
    refine q_when (b := decide (V.int (x : Int) = V.int (y : Int))) (by walk_at "et") (fun hb H3 e3 => ?_) (fun hb H3 e3 => ?_)
    · have hxy : x = y := by
        have := V.int.inj (of_decide_eq_true hb)
        omega
      rcases hz with ⟨_, rfl⟩ | ⟨h, _⟩ | ⟨h, _⟩
      · exact s_ret ev_c fun H4 e4 => q H4 (((e1.trans e2).trans e3).trans e4)
      · exact absurd hxy h
      · exact absurd hxy h
    have hxy : x ≠ y := fun h => of_decide_eq_false hb (by rw [h])
    refine q_when (b := decide (x = 949019055 ∨ y = 949019055)) (et_is (et_test (ev_inU ev_c (eu_tup (by walk_at "ea") (by show 2 ≤ 100000; decide)) rfl rfl)) (inV_still x y)) (fun hb H4 e4 => ?_) (fun hb H4 e4 => ?_)
    · have hb := of_decide_eq_true hb
      rcases hz with ⟨h, _⟩ | ⟨_, _, rfl⟩ | ⟨_, h1, h2, _⟩
      · exact absurd h hxy
      · exact s_ret ev_c fun H5 e5 => q H5 ((((e1.trans e2).trans e3).trans e4).trans e5)
      · rcases hb with h | h
        · exact absurd h h1
        · exact absurd h h2
    have hb := of_decide_eq_false hb
    rcases hz with ⟨h, _⟩ | ⟨_, h, _⟩ | ⟨_, h1, h2, m, hm, hal, rfl⟩
    · exact absurd h hxy
    · exact absurd h hb
    refine s_ret (v := .int m) (ev_callP (vs := [.int (48274 ^ m % Pm.p : Nat)]) (ea_cons ?_ ea_nil) fun H5 _ => ⟨m, rfl, hm, rfl⟩) fun H5 e5 => q H5 ((((e1.trans e2).trans e3).trans e4).trans e5)
    refine ev_is (v := .int (((y : Int) - 949019055) * ((Pg.sh x ^ 999999935 % Pm.p : Nat) : Int) % 999999937)) ?_ ?_
    · refine ev_op (ev_op (by walk_at "ev") (ev_callP (vs := [.int ((x : Int) - 949019055), .int (999999937 - 2)]) (by walk_at "ea") fun H5 _ => ⟨(x : Int) - 949019055, 999999935, rfl, by rw [Pg.sh_int hx]⟩) (rv_I (.inl ⟨by omega, by omega⟩))) ev_c (rv_I (by walk_at "sc"))
    · refine congrArg V.int ?_
      rw [← Pg.ratio hx h1 hal]
      have hF : Pg.sh x ^ 999999935 % Pm.p < 999999937 := Nat.mod_lt _ (by decide)
      rw [← Nat.mul_mod_mod]
      generalize Pg.sh x ^ 999999935 % Pm.p = F at *
      have h3 := Pg.sh_cases y hy
      have h4 : ∃ c : Int, (y : Int) - 949019055 = (Pg.sh y : Int) + 999999937 * c := by
        rcases h3 with z | z
        · exact ⟨-1, by omega⟩
        · exact ⟨0, by omega⟩
      obtain ⟨c, hc⟩ := h4
      rw [hc, Int.natCast_emod, Int.natCast_mul, Int.add_mul, Int.mul_assoc]
      exact Int.add_mul_emod_self_left ..
end
end Kz
set_option Elab.async false
set_option linter.all false
set_option maxRecDepth 100000
set_option maxHeartbeats 4000000
set_option exponentiation.threshold 500
namespace Kz
open PySem PySem.Spec PyProof.Rows L2 Evl Vr
local macro_rules | `(tactic| walk_at "sc") => `(tactic| first | (with_reducible assumption) | (with_reducible exact sc_mul (by omega)) | (with_reducible exact sc_mulr (by omega)) | (with_reducible exact sc_div (by omega) (by decide)) | (show (0 : Int) < _; omega) | (show _ ≠ (0 : Int); omega) | (with_reducible rfl) | decide)
local macro_rules | `(tactic| walk_at "sq") => `(tactic| first | assumption | exact sq_of (by assumption) | exact st_of (by assumption))
local macro_rules | `(tactic| walk_at "pl") => `(tactic| first | assumption | exact pl_int | exact pl_bl | exact pl_str | exact pl_non | exact pl_lst (by assumption) | exact pl_tup (by assumption) | exact pl_dK (by assumption))
local macro_rules | `(tactic| walk_at "rv") => `(tactic| first
  | with_reducible exact rv_I0
  | with_reducible exact ru_neg
  | ((with_reducible apply rv_I); walk_at "sc")
  | ((with_reducible apply rv_ixL); walk_at "sq"; first | rfl | assumption)
  | ((with_reducible apply rv_ixT); walk_at "sq"; first | rfl | assumption)
  | ((with_reducible apply rv_eq); rfl) | ((with_reducible apply rv_ne); rfl))
local macro_rules | `(tactic| walk_at "rc") => `(tactic| first
  | with_reducible exact rc_I1 | with_reducible exact rc_B1 | with_reducible exact rc_I2 | ((with_reducible apply rc_repr); walk_at "sc") | ((with_reducible apply rc_lenL); walk_at "sq")
  | ((with_reducible apply rc_isiInt); walk_at "pl") | ((with_reducible apply rc_isiBool); walk_at "pl"))
local macro_rules | `(tactic| walk_at "ea") => `(tactic| first
  | with_reducible exact ea_nil | ((with_reducible apply ea_cons); walk_at "ev"; walk_at "ea"))
local macro_rules | `(tactic| walk_at "pow") => `(tactic| first
  | with_reducible exact ev_pow (a := 10) (b := 9) (c := 1000000000) (by decide +kernel) (by decide +kernel)
  | with_reducible exact ev_pow (a := 10) (b := 10) (c := 10000000000) (by decide +kernel) (by decide +kernel)
  | with_reducible exact ev_pow (a := 10) (b := 12) (c := 1000000000000) (by decide +kernel) (by decide +kernel)
  | with_reducible exact ev_pow (a := 10) (b := 17) (c := 100000000000000000) (by decide +kernel) (by decide +kernel)
  | with_reducible exact ev_pow (a := 10) (b := 20) (c := 100000000000000000000) (by decide +kernel) (by decide +kernel)
  | with_reducible exact ev_pow (a := 10) (b := 29) (c := 100000000000000000000000000000) (by decide +kernel) (by decide +kernel)
  | with_reducible exact ev_pow (a := 10) (b := 30) (c := 1000000000000000000000000000000) (by decide +kernel) (by decide +kernel)
  | with_reducible exact ev_pow (a := 10) (b := 40) (c := 10000000000000000000000000000000000000000) (by decide +kernel) (by decide +kernel)
  | with_reducible exact ev_pow (a := 10) (b := 57) (c := 1000000000000000000000000000000000000000000000000000000000) (by decide +kernel) (by decide +kernel)
  | with_reducible exact ev_pow (a := 10) (b := 58) (c := 10000000000000000000000000000000000000000000000000000000000) (by decide +kernel) (by decide +kernel)
  | with_reducible exact ev_pow (a := 10) (b := 59) (c := 100000000000000000000000000000000000000000000000000000000000) (by decide +kernel) (by decide +kernel)
  | with_reducible exact ev_pow (a := 10) (b := 60) (c := 1000000000000000000000000000000000000000000000000000000000000) (by decide +kernel) (by decide +kernel))
local macro_rules | `(tactic| walk_at "call") => `(tactic| (intro H9 e9; first | exact ⟨_, rfl, rfl⟩ | exact ⟨_, _, rfl, rfl⟩ | exact ⟨_, _, _, rfl, rfl⟩ | exact ⟨_, rfl, by walk_at "pl", rfl⟩ | (refine ⟨_, _, _, rfl, ?_, rfl⟩; first | exact Plain.ex e9 (by assumption) | walk_at "pl") | (refine ⟨_, rfl, ?_, rfl⟩; first | exact Plain.ex e9 (by assumption) | walk_at "pl")))
local macro_rules | `(tactic| walk_at "ev") => `(tactic| first
  | with_reducible exact ev_c
  | exact ev_var rfl
  | walk_at "pow"
  | ((with_reducible apply ev_op); walk_at "ev"; walk_at "ev"; walk_at "rv")
  | ((with_reducible apply ev_un); walk_at "ev"; walk_at "rv")
  | ((with_reducible apply ev_cb); walk_at "ea"; walk_at "rc")
  | ((with_reducible apply ev_callP); walk_at "ea"; walk_at "call")
  | ((with_reducible apply ev_chain); walk_at "ev"; walk_at "ev"; walk_at "rv"; walk_at "ev"; walk_at "rv")
  | ((with_reducible apply ev_andV); walk_at "ev"; intro _; walk_at "ev")
  | ((with_reducible apply ev_orV); walk_at "ev"; intro _; walk_at "ev")
  | ((with_reducible apply ev_ite); walk_at "et"; intro _; walk_at "ev"; intro _; walk_at "ev")
  | ((with_reducible apply ev_notV); walk_at "ev"))
local macro_rules | `(tactic| walk_at "et") => `(tactic| first
  | ((with_reducible apply et_test); walk_at "ev")
  | ((with_reducible apply et_B); walk_at "ev")
  | ((with_reducible apply et_and); walk_at "et"; intro _; walk_at "et")
  | ((with_reducible apply et_or); walk_at "et"; intro _; walk_at "et")
  | ((with_reducible apply et_not); walk_at "et"))
/-- promises of defs that answer with a new tuple -/
def Tupd (ok : List V → Hp → List V → Prop) : Sp := fun vs H Q _ => ∃ xs, ok vs H xs ∧ ∀ p H', H p = none → Ex H H' → H' p = some (.tup xs) → Q (.ref p) H'
section
variable {σ : L2.St} {H : Hp} {te ta tb tc : TE} {tz : TS} {D : Ends} {K : PySem.W.Frag}
theorem eu_callT {ok : List V → Hp → List V → Prop} {E : XK} {ts : TA} {vs xs : List V} (h : EvA ts σ H vs) (ho : ∀ H1, Ex H H1 → ok vs H1 xs) : EvU (tCall (Tupd ok) [] E ts) σ H xs := fun H1 e Q q =>
  h H1 e _ fun H2 e2 => by
    show Tupd ok (vs ++ []) H2 Q E
    rw [List.append_nil]
    exact ⟨xs, ho H2 (e.trans e2), fun p H3 hp e3 h3 => q p H3 (fresh_back e2 hp) (e2.trans e3) h3⟩
theorem s_parU {i j : Nat} {xs : List V} {v2 : V} (h1 : EvU ta σ H xs) (h2 : ∀ H1, Ex H H1 → Ev tb σ H1 v2) (k : ∀ p H1, Ex H H1 → H1 p = some (.tup xs) → D.nx ((σ.set i (some (.ref p))).set j (some v2)) H1) : tPar i j (tCons ta (tCons tb tNil)) D σ H :=
  h1 H (Ex.refl H) _ fun p H1 _ e1 hp1 => h2 H1 e1 H1 (Ex.refl H1) _ fun H2 e2 => ⟨.ref p, v2, rfl, k p H2 (e1.trans e2) (e2 _ _ hp1)⟩
/-- a, b, c = two new tuples and a value -/
theorem q_par3U {i j l : Nat} {xs ys : List V} {v : V} (h1 : EvU ta σ H xs) (h2 : ∀ H1, Ex H H1 → EvU tb σ H1 ys) (h3 : ∀ H1, Ex H H1 → Ev tc σ H1 v) (k : ∀ p q H1, H p = none → Ex H H1 → H1 p = some (.tup xs) → H1 q = some (.tup ys) → tz D (((σ.set i (some (.ref p))).set j (some (.ref q))).set l (some v)) H1) : tSeq (tPar3 i j l (tCons ta (tCons tb (tCons tc tNil)))) tz D σ H :=
  h1 H (Ex.refl H) _ fun p H1 hf e1 hp1 => h2 H1 e1 H1 (Ex.refl H1) _ fun q H2 _ e2 hq2 => h3 H2 (e1.trans e2) H2 (Ex.refl H2) _ fun H3 e3 => ⟨.ref p, .ref q, v, rfl, k p q H3 hf ((e1.trans e2).trans e3) (e3 _ _ (e2 _ _ hp1)) (e3 _ _ hq2)⟩
end
def lineV (A B : Nat) : List V := [.int A, .int B]
section
variable {P : Program} {w : World} {K : PySem.W.Frag} {mg : Str → Option Value} {base : Heap}
def kBehind (K : PySem.W.Frag) (vs : List V) (H : Hp) (xs : List V) : Prop := ∃ (a b : Addr) (A1 B1 A2 B2 : Nat), vs = [.ref a, .ref b] ∧ SqT K H a (lineV A1 B1) ∧ SqT K H b (lineV A2 B2) ∧ A1 < 999999937 ∧ B1 < 999999937 ∧ A2 < 999999937 ∧ xs = lineV (A1 * A2 % Pm.p) ((B1 * A2 + B2) % Pm.p)
theorem ok_behind (T : Txt K mg w) : FnOk P w K mg base CX0 1 T.a_law_behind T.fd_law_behind ["one", "other"] (Tupd (kBehind K)) := by
  refine T.F_law_behind.ok sc_law_behind (fun vs H Q E h => ?_) (fun cdv A outer s H vs Q E hr h => ?_)
  · obtain ⟨_, ⟨_, _, _, _, _, _, rfl, _⟩, _⟩ := h; rfl
  · obtain ⟨_, ⟨a, b, A1, B1, A2, B2, rfl, ha, hb, hA1, hB1, hA2, rfl⟩, q⟩ := h
    refine ⟨_, (pss_one (ps_ret (pe_tup (pa_cons (pe_op op_mod (pe_callTy c_int (by rfl) T.z_int (by decide +kernel) (pa_cons (pe_op op_mul (pe_ix ix_tup (pv 0) pe_int (fun _ _ => rfl)) (pe_ix ix_tup (pv 1) pe_int (fun _ _ => rfl))) pa_nil)) pe_int) (pa_cons (pe_op op_mod (pe_callTy c_int (by rfl) T.z_int (by decide +kernel) (pa_cons (pe_op op_add (pe_op op_mul (pe_ix ix_tup (pv 0) pe_int (fun _ _ => rfl)) (pe_ix ix_tup (pv 1) pe_int (fun _ _ => rfl))) (pe_ix ix_tup (pv 1) pe_int (fun _ _ => rfl))) pa_nil)) pe_int) pa_nil))))), ?_⟩
    have i0 : atI (lineV A1 B1) 0 = some (.int A1) := rfl
    have i1 : atI (lineV A1 B1) 1 = some (.int B1) := rfl
    have j0 : atI (lineV A2 B2) 0 = some (.int A2) := rfl
    have j1 : atI (lineV A2 B2) 1 = some (.int B2) := rfl
    have m1 : CMul (A1 : Int) A2 := .inl (by omega)
    have m2 : CMul (B1 : Int) A2 := .inl (by omega)
    refine s_retU (xs := lineV (A1 * A2 % Pm.p) ((B1 * A2 + B2) % Pm.p)) (eu_tup (ea_cons (ev_is (v := .int ((A1 : Int) * A2 % 999999937)) (by walk_at "ev") ?_) (ea_cons (ev_is (v := .int (((B1 : Int) * A2 + B2) % 999999937)) (by walk_at "ev") ?_) ea_nil)) (by show 2 ≤ 100000; decide)) fun p H1 hp e1 h1 => q p H1 hp e1 h1
    · rw [Int.natCast_emod, Int.natCast_mul]; rfl
    · rw [Int.natCast_emod, Int.natCast_add, Int.natCast_mul]; rfl
theorem good_one {m A B A' B' : Nat} (h : Pg.Good m A B) (h' : Pg.Good m A' B') : A = A' ∧ B = B' := by
  have e : A = A' := h.1.trans h'.1.symm
  subst e
  have := h.2.1; have := h'.2.1; have := h.2.2; have := h'.2.2
  refine ⟨rfl, ?_⟩
  omega
theorem good_ex (m : Nat) : ∃ A B, Pg.Good m A B := by
  have h : 48274 ^ m % Pm.p < 999999937 := Nat.mod_lt _ (by decide)
  refine ⟨48274 ^ m % Pm.p, (949019055 + (999999937 - 48274 ^ m % Pm.p) * 949019055) % 999999937, rfl, ?_, Nat.mod_lt _ (by decide)⟩
  generalize 48274 ^ m % Pm.p = A at *
  omega
def kLine (vs : List V) (H : Hp) (xs : List V) : Prop := ∃ (m A B : Nat), vs = [.int m] ∧ m < 2 ^ 230 ∧ Pg.Good m A B ∧ xs = lineV A B
theorem ok_line (T : Txt K mg w) : FnOk P w K mg base CX0 2 T.a_law_line T.fd_law_line ["many"] (Tupd kLine) := by
  have G_law_behind := ok_behind (P := P) (w := w) (base := base) T
  refine T.F_law_line.ok sc_law_line (fun vs H Q E h => ?_) (fun cdv A outer s H vs Q E hr h => ?_)
  · obtain ⟨_, ⟨_, _, _, rfl, _⟩, _⟩ := h; rfl
  · obtain ⟨_, ⟨m, A, B, rfl, hm, hG, rfl⟩, q⟩ := h
    refine ⟨_, (pss_cons (ps_par3 (i := 1) (j := 2) (l := 3) (by rfl) sc_law_line.nd rfl rfl rfl (by decide) (by decide) (by decide) rfl rfl rfl (pa_cons (pe_tup (pa_cons pe_int (pa_cons pe_int pa_nil))) (pa_cons (pe_tup (pa_cons pe_int (pa_cons pe_int pa_nil))) (pa_cons (pv 0) pa_nil))) (by rfl))
  (pss_cons (ps_for PassesOwn.never rfl (pi_range1 rfl T.z_range (pa_cons pe_int pa_nil)) (pg_name (i := 4) sc_law_line.nd rfl (.inl rfl)) (pss_cons (ps_if (pt_cmpR op_eq (pv 3) pe_int (nomark _)) (pss_one ps_break) pss_nil)
  (pss_cons (ps_if (pt_cmpR op_eq (pe_op op_mod (pe_callTy c_int (by rfl) T.z_int (by decide +kernel) (pa_cons (pv 3) pa_nil)) pe_int) pe_int (nomark _)) (pss_one (ps_set (i := 1) sc_law_line.nd rfl (.inl rfl) (pe_call G_law_behind (hr.mono (by decide)) (by rfl) T.g_law_behind T.F_law_behind.kp T.b_law_behind .nil pass0 (pa_cons (pv 1) (pa_cons (pv 2) pa_nil))))) pss_nil)
  (pss_one (ps_par (i := 2) (j := 3) (by rfl) sc_law_line.nd rfl rfl (by decide) rfl rfl (pa_cons (pe_call G_law_behind (hr.mono (by decide)) (by rfl) T.g_law_behind T.F_law_behind.kp T.b_law_behind .nil pass0 (pa_cons (pv 2) (pa_cons (pv 2) pa_nil))) (pa_cons (pe_op op_fdivW (pv 3) pe_int) pa_nil)) (by rfl))))))
  (pss_one (ps_ret (pv 1))))), ?_⟩
    refine q_par3U (xs := lineV 1 0) (ys := lineV 48274 271829) (v := .int m) (eu_tup (ea_cons ev_c (ea_cons ev_c ea_nil)) (by decide)) (fun H1 _ => eu_tup (ea_cons ev_c (ea_cons ev_c ea_nil)) (by decide)) (fun H1 _ => ev_var rfl) fun p1 p2 H1 f1 e1 h1 h2 => ?_
    refine q_forR1 (n := 230) (by walk_at "ea") (by decide) (fun i σ' H' => Ex H H' ∧ ∃ (a b : Addr) (k1 k2 l A1 B1 A2 B2 : Nat) (z : Option V), σ' = [some (.int m), some (.ref a), some (.ref b), some (.int l), z] ∧ H a = none ∧ H' a = some (.tup (lineV A1 B1)) ∧ H' b = some (.tup (lineV A2 B2)) ∧ Pg.Good k1 A1 B1 ∧ Pg.Good k2 A2 B2 ∧ k1 + k2 * l = m ∧ l < 2 ^ (230 - i)) (fun H2 e2 => ⟨e1.trans e2, p1, p2, 0, 1, m, 1, 0, 48274, 271829, none, rfl, f1, e2 _ _ h1, e2 _ _ h2, Pg.good0, Pg.good1, by omega, hm⟩) ?_ ?_
    · rintro i σ' H2 hi ⟨e2, a, b, k1, k2, l, A1, B1, A2, B2, z, rfl, hf, ha, hb, g1, g2, hk, hl⟩
      have hi : i < 230 := by omega
      refine q_when (b := decide (V.int (l : Int) = V.int 0)) (by walk_at "et") (fun hd H3 e3 => ?_) (fun hd H3 e3 => ?_)
      · have h0 := V.int.inj (of_decide_eq_true hd)
        have h0 : l = 0 := by omega
        subst h0
        have hk : k1 = m := by omega
        subst hk
        obtain ⟨rfl, rfl⟩ := good_one g1 hG
        exact s_ret (ev_var rfl) fun H4 e4 => q _ _ hf ((e2.trans e3).trans e4) (e4 _ _ (e3 _ _ ha))
      have ha := e3 _ _ ha
      have hb := e3 _ _ hb
      have e3 := e2.trans e3
      have hl2 : l / 2 < 2 ^ (230 - (i + 1)) := by
        have e : 230 - i = (230 - (i + 1)) + 1 := by omega
        rw [e, Nat.pow_succ] at hl
        omega
      have step : ∀ (a' : Addr) (k' A' B' : Nat) (H4 : Hp) (D' : Ends), Ex H3 H4 → H a' = none → H4 a' = some (.tup (lineV A' B')) → Pg.Good k' A' B' → k' + (k2 + k2) * (l / 2) = m → (∀ σ' H', (Ex H H' ∧ ∃ (a b : Addr) (k1 k2 l A1 B1 A2 B2 : Nat) (z : Option V), σ' = [some (.int m), some (.ref a), some (.ref b), some (.int l), z] ∧ H a = none ∧ H' a = some (.tup (lineV A1 B1)) ∧ H' b = some (.tup (lineV A2 B2)) ∧ Pg.Good k1 A1 B1 ∧ Pg.Good k2 A2 B2 ∧ k1 + k2 * l = m ∧ l < 2 ^ (230 - (i + 1))) → D'.nx σ' H') →
          tPar 2 3 (tCons (tCall (Tupd (kBehind K)) [] E0 (tCons (tVar 2) (tCons (tVar 2) tNil))) (tCons (tOp (rI CDivW fun i j => .int (i / j)) (tVar 3) (tC (.int 2))) tNil)) D' [some (.int m), some (.ref a'), some (.ref b), some (.int l), some (.int (i : Int))] H4 := by
        intro a' k' A' B' H4 D' e4 hf' ha' gk hk' fin
        refine s_parU (xs := lineV (A2 * A2 % Pm.p) ((B2 * A2 + B2) % Pm.p)) (v2 := .int (l / 2 : Nat)) (eu_callT (vs := [.ref b, .ref b]) (by walk_at "ea") fun H5 e5 => ⟨b, b, A2, B2, A2, B2, rfl, st_of (e5 _ _ (e4 _ _ hb)), st_of (e5 _ _ (e4 _ _ hb)), Pg.good_lt g2, g2.2.2, Pg.good_lt g2, rfl⟩) (fun H5 e5 => ev_is (v := .int ((l : Int) / 2)) (by walk_at "ev") (by rw [Int.natCast_ediv]; rfl)) fun p H5 e5 h5 => fin _ _ ⟨(e3.trans e4).trans e5, a', p, k', k2 + k2, l / 2, A', B', _, _, _, rfl, hf', e5 _ _ ha', h5, gk, Pg.good_add g2 g2, hk', hl2⟩
      refine q_if (b := decide (V.int ((l : Int) % 2) = V.int 1)) (by walk_at "et") (fun hd H4 e4 => ?_) (fun hd H4 e4 => ?_)
      · have h1 := V.int.inj (of_decide_eq_true hd)
        have h1 : l = 2 * (l / 2) + 1 := by omega
        refine s_asgU (xs := lineV (A1 * A2 % Pm.p) ((B1 * A2 + B2) % Pm.p)) (eu_callT (vs := [.ref a, .ref b]) (by walk_at "ea") fun H5 e5 => ⟨a, b, A1, B1, A2, B2, rfl, st_of (e5 _ _ (e4 _ _ ha)), st_of (e5 _ _ (e4 _ _ hb)), Pg.good_lt g1, g1.2.2, Pg.good_lt g2, rfl⟩) fun p H5 hp e5 h5 => ?_
        refine step p (k1 + k2) _ _ H5 _ (e4.trans e5) (fresh_back (e3.trans e4) hp) h5 (Pg.good_add g1 g2) ?_ fun _ _ h => h
        rw [← hk]
        conv => rhs; rw [h1]
        rw [Nat.mul_add, Nat.mul_one, ← Nat.mul_assoc, Nat.mul_two, Nat.add_mul]
        omega
      · have h1 : ¬ (l : Int) % 2 = 1 := fun z => of_decide_eq_false hd (by rw [z])
        have h1 : l = 2 * (l / 2) := by omega
        refine step a k1 _ _ H4 _ e4 hf (e4 _ _ ha) g1 ?_ fun _ _ h => h
        rw [← hk]
        conv => rhs; rw [h1]
        rw [← Nat.mul_assoc, Nat.mul_two]
    · rintro σ' H2 ⟨e2, a, b, k1, k2, l, A1, B1, A2, B2, z, rfl, hf, ha, hb, g1, g2, hk, hl⟩
      have h0 : l = 0 := by
        have : l < 2 ^ (230 - 230) := hl
        simp at this
        exact this
      subst h0
      have hk : k1 = m := by omega
      subst hk
      obtain ⟨rfl, rfl⟩ := good_one g1 hG
      exact s_ret (ev_var rfl) fun H4 e4 => q _ _ hf (e2.trans e4) (e4 _ _ ha)
def kLed (vs : List V) (_ : Hp) (z : V) : Prop := ∃ x m : Nat, vs = [.int x, .int m] ∧ x < 999999937 ∧ m < 2 ^ 230 ∧ z = .int (Pg.al x m : Nat)
theorem ok_led (T : Txt K mg w) : FnOk P w K mg base CX0 3 T.a_law_led T.fd_law_led ["luck", "many"] (Pure kLed) := by
  have G_law_line := ok_line (P := P) (w := w) (base := base) T
  refine T.F_law_led.ok sc_law_led (fun vs H Q E h => ?_) (fun cdv A outer s H vs Q E hr h => ?_)
  · obtain ⟨_, ⟨_, _, rfl, _⟩, _⟩ := h; rfl
  · obtain ⟨_, ⟨x, m, rfl, hx, hm, rfl⟩, q⟩ := h
    refine ⟨_, (pss_cons (ps_set (i := 2) sc_law_led.nd rfl (.inl rfl) (pe_call G_law_line (hr.mono (by decide)) (by rfl) T.g_law_line T.F_law_line.kp T.b_law_line .nil pass0 (pa_cons (pv 1) pa_nil)))
  (pss_one (ps_ret (pe_op op_mod (pe_callTy c_int (by rfl) T.z_int (by decide +kernel) (pa_cons (pe_op op_add (pe_op op_mul (pe_ix ix_tup (pv 2) pe_int (fun _ _ => rfl)) (pv 0)) (pe_ix ix_tup (pv 2) pe_int (fun _ _ => rfl))) pa_nil)) pe_int)))), ?_⟩
    obtain ⟨A, B, g⟩ := good_ex m
    have gl := Pg.good_lt g
    refine q_asgU (xs := lineV A B) (eu_callT (vs := [.int m]) (by walk_at "ea") fun H1 _ => ⟨m, A, B, rfl, hm, g, rfl⟩) fun p H1 hp e1 h1 => ?_
    have hT := st_of (K := K) h1
    have i0 : atI (lineV A B) 0 = some (.int A) := rfl
    have i1 : atI (lineV A B) 1 = some (.int B) := rfl
    have m1 : CMul (A : Int) x := .inl (by omega)
    refine s_ret (v := .int (Pg.al x m : Nat)) (ev_is (v := .int (((A : Int) * x + B) % 999999937)) (by walk_at "ev") ?_) fun H2 e2 => q H2 (e1.trans e2)
    rw [← Pg.good_led g hx, Int.natCast_emod, Int.natCast_add, Int.natCast_mul]
    rfl
end
end Kz
set_option Elab.async false
set_option linter.all false
set_option maxRecDepth 100000
set_option maxHeartbeats 4000000
set_option exponentiation.threshold 500
namespace Kz
open PySem PySem.Spec PyProof.Rows L2 Evl Vr
local macro_rules | `(tactic| walk_at "sc") => `(tactic| first | (with_reducible assumption) | (with_reducible exact sc_mul (by omega)) | (with_reducible exact sc_mulr (by omega)) | (with_reducible exact sc_div (by omega) (by decide)) | (show (0 : Int) < _; omega) | (show _ ≠ (0 : Int); omega) | (with_reducible rfl) | decide)
local macro_rules | `(tactic| walk_at "sq") => `(tactic| first | assumption | exact sq_of (by assumption) | exact st_of (by assumption))
local macro_rules | `(tactic| walk_at "pl") => `(tactic| first | assumption | exact pl_int | exact pl_bl | exact pl_str | exact pl_non | exact pl_lst (by assumption) | exact pl_tup (by assumption) | exact pl_dK (by assumption))
local macro_rules | `(tactic| walk_at "rv") => `(tactic| first
  | with_reducible exact rv_I0
  | with_reducible exact ru_neg
  | ((with_reducible apply rv_I); walk_at "sc")
  | ((with_reducible apply rv_ixL); walk_at "sq"; first | rfl | assumption)
  | ((with_reducible apply rv_ixT); walk_at "sq"; first | rfl | assumption)
  | ((with_reducible apply rv_eq); rfl) | ((with_reducible apply rv_ne); rfl))
local macro_rules | `(tactic| walk_at "rc") => `(tactic| first
  | with_reducible exact rc_I1 | with_reducible exact rc_B1 | with_reducible exact rc_I2 | ((with_reducible apply rc_repr); walk_at "sc") | ((with_reducible apply rc_lenL); walk_at "sq")
  | ((with_reducible apply rc_isiInt); walk_at "pl") | ((with_reducible apply rc_isiBool); walk_at "pl"))
local macro_rules | `(tactic| walk_at "ea") => `(tactic| first
  | with_reducible exact ea_nil | ((with_reducible apply ea_cons); walk_at "ev"; walk_at "ea"))
local macro_rules | `(tactic| walk_at "pow") => `(tactic| first
  | with_reducible exact ev_pow (a := 10) (b := 9) (c := 1000000000) (by decide +kernel) (by decide +kernel)
  | with_reducible exact ev_pow (a := 10) (b := 10) (c := 10000000000) (by decide +kernel) (by decide +kernel)
  | with_reducible exact ev_pow (a := 10) (b := 12) (c := 1000000000000) (by decide +kernel) (by decide +kernel)
  | with_reducible exact ev_pow (a := 10) (b := 17) (c := 100000000000000000) (by decide +kernel) (by decide +kernel)
  | with_reducible exact ev_pow (a := 10) (b := 20) (c := 100000000000000000000) (by decide +kernel) (by decide +kernel)
  | with_reducible exact ev_pow (a := 10) (b := 29) (c := 100000000000000000000000000000) (by decide +kernel) (by decide +kernel)
  | with_reducible exact ev_pow (a := 10) (b := 30) (c := 1000000000000000000000000000000) (by decide +kernel) (by decide +kernel)
  | with_reducible exact ev_pow (a := 10) (b := 40) (c := 10000000000000000000000000000000000000000) (by decide +kernel) (by decide +kernel)
  | with_reducible exact ev_pow (a := 10) (b := 57) (c := 1000000000000000000000000000000000000000000000000000000000) (by decide +kernel) (by decide +kernel)
  | with_reducible exact ev_pow (a := 10) (b := 58) (c := 10000000000000000000000000000000000000000000000000000000000) (by decide +kernel) (by decide +kernel)
  | with_reducible exact ev_pow (a := 10) (b := 59) (c := 100000000000000000000000000000000000000000000000000000000000) (by decide +kernel) (by decide +kernel)
  | with_reducible exact ev_pow (a := 10) (b := 60) (c := 1000000000000000000000000000000000000000000000000000000000000) (by decide +kernel) (by decide +kernel))
local macro_rules | `(tactic| walk_at "call") => `(tactic| (intro H9 e9; first | exact ⟨_, rfl, rfl⟩ | exact ⟨_, _, rfl, rfl⟩ | exact ⟨_, _, _, rfl, rfl⟩ | exact ⟨_, rfl, by walk_at "pl", rfl⟩ | (refine ⟨_, _, _, rfl, ?_, rfl⟩; first | exact Plain.ex e9 (by assumption) | walk_at "pl") | (refine ⟨_, rfl, ?_, rfl⟩; first | exact Plain.ex e9 (by assumption) | walk_at "pl")))
local macro_rules | `(tactic| walk_at "ev") => `(tactic| first
  | with_reducible exact ev_c
  | exact ev_var rfl
  | walk_at "pow"
  | ((with_reducible apply ev_op); walk_at "ev"; walk_at "ev"; walk_at "rv")
  | ((with_reducible apply ev_un); walk_at "ev"; walk_at "rv")
  | ((with_reducible apply ev_cb); walk_at "ea"; walk_at "rc")
  | ((with_reducible apply ev_callP); walk_at "ea"; walk_at "call")
  | ((with_reducible apply ev_chain); walk_at "ev"; walk_at "ev"; walk_at "rv"; walk_at "ev"; walk_at "rv")
  | ((with_reducible apply ev_andV); walk_at "ev"; intro _; walk_at "ev")
  | ((with_reducible apply ev_orV); walk_at "ev"; intro _; walk_at "ev")
  | ((with_reducible apply ev_ite); walk_at "et"; intro _; walk_at "ev"; intro _; walk_at "ev")
  | ((with_reducible apply ev_notV); walk_at "ev"))
local macro_rules | `(tactic| walk_at "et") => `(tactic| first
  | ((with_reducible apply et_test); walk_at "ev")
  | ((with_reducible apply et_B); walk_at "ev")
  | ((with_reducible apply et_and); walk_at "et"; intro _; walk_at "et")
  | ((with_reducible apply et_or); walk_at "et"; intro _; walk_at "et")
  | ((with_reducible apply et_not); walk_at "et"))
def LuckV (v : V) : Prop := ∃ n : Nat, v = .int n ∧ n < 999999937
def TurnV (v : V) : Prop := ∃ n : Nat, v = .int n ∧ n < 110000000000000000000000000000000000000000000000000000000000
def kOne (R' : V → Prop) (vs : List V) (_ : Hp) (p : Addr) (R : V → Prop) : Prop := vs = [.ref p] ∧ R = R'
theorem dv_roll {p : Addr} {σ : L2.St} {H : Hp} {ta : TE} {m : Int} {i : Nat} (hs : σ[i]? = some (some (.ref p))) (ha : ∀ H1, Ev ta σ H1 (.int m)) (h0 : 0 < m) (h1 : m.natAbs < 2 ^ 400) : Dv p (tCall (Draws kRoll) [] E0 (tCons (tVar i) (tCons ta tNil))) σ H (fun v => ∃ r : Int, v = .int r ∧ 0 ≤ r ∧ r < m) :=
  dv_call (vs := [.ref p, .int m]) (fun H1 _ _ => ea_cons (ev_var hs) (ea_cons (ha H1) ea_nil)) (fun H1 _ _ => ⟨m, rfl, h0, h1, rfl⟩)
theorem small_of {v : V} {m : Int} {b : Nat} (hm : m ≤ b) (h : ∃ r : Int, v = .int r ∧ 0 ≤ r ∧ r < m) : ∃ n : Nat, v = .int n ∧ n < b := by
  obtain ⟨r, e, h0, h1⟩ := h
  exact ⟨r.toNat, by rw [e, Int.toNat_of_nonneg h0], by omega⟩
theorem dvt_of {p : Addr} {t : TT} {σ : L2.St} {H : Hp} {b : Bool} (h : DvF p t σ H b) : DvT p t σ H := fun H1 e d Q q => h H1 e d _ fun H2 e2 d2 => q b H2 e2 d2
section
variable {P : Program} {w : World} {K : PySem.W.Frag} {mg : Str → Option Value} {base : Heap}
theorem ok_luck_drawn (T : Txt K mg w) : FnOk P w K mg base CX0 3 T.a_law_luck_drawn T.fd_law_luck_drawn ["dice"] (Draws (kOne LuckV)) := by
  have G_law_roll := ok_roll (P := P) (w := w) (base := base) T
  have G_law_pick := ok_pick (P := P) (w := w) (base := base) T
  refine T.F_law_luck_drawn.ok sc_law_luck_drawn (fun vs H Q E h => ?_) (fun cdv A outer s H vs Q E hr h => ?_)
  · obtain ⟨p, _, ⟨rfl, _⟩, _⟩ := h; rfl
  · obtain ⟨p, _, ⟨rfl, rfl⟩, hd, q⟩ := h
    refine ⟨_, (pss_cons (ps_if (pt_cmpR op_eq (pe_call G_law_roll (hr.mono (by decide)) (by rfl) T.g_law_roll T.F_law_roll.kp T.b_law_roll .nil pass0 (pa_cons (pv 0) (pa_cons pe_int pa_nil))) pe_int (nomark _)) (pss_one (ps_ret (pe_call G_law_pick (hr.mono (by decide)) (by rfl) T.g_law_pick T.F_law_pick.kp T.b_law_pick .nil pass0 (pa_cons (pv 0) (pa_cons (pe_lst (pa_cons pe_int (pa_cons pe_int (pa_cons pe_int (pa_cons pe_int (pa_cons pe_int (pa_cons pe_int pa_nil))))))) pa_nil))))) pss_nil)
  (pss_one (ps_ret (pe_call G_law_roll (hr.mono (by decide)) (by rfl) T.g_law_roll T.F_law_roll.kp T.b_law_roll .nil pass0 (pa_cons (pv 0) (pa_cons pe_int pa_nil)))))), ?_⟩
    refine (dvt_eq (p := p) (k := 0) ((dv_roll (m := 5) rfl (fun H1 => ev_c) (by decide) (by decide)).mono fun v ⟨r, e, _⟩ => ⟨r, e⟩)) H (Exd.refl p H) hd _ fun b H1 e1 d1 => ?_
    match b with
    | true =>
      refine s_retDv (p := p) (R := LuckV) ((dv_pickL (xs := [.int 0, .int 1, .int 949019055, .int 949019054, .int 999999936, .int 271829]) (R := fun v => v ∈ [V.int 0, .int 1, .int 949019055, .int 949019054, .int 999999936, .int 271829]) rfl (fun H1 _ _ => el_lst (by walk_at "ea") (by decide)) (fun l H1 _ _ hl h => ⟨l, _, rfl, hl, sq_of h, by decide, by decide, rfl⟩)).mono fun v hv => ?_) d1 fun v H2 hv e2 d2 => q v H2 hv (e1.trans e2) d2
      simp only [List.mem_cons, List.not_mem_nil, or_false] at hv
      rcases hv with rfl | rfl | rfl | rfl | rfl | rfl
      · exact ⟨0, rfl, by decide⟩
      · exact ⟨1, rfl, by decide⟩
      · exact ⟨949019055, rfl, by decide⟩
      · exact ⟨949019054, rfl, by decide⟩
      · exact ⟨999999936, rfl, by decide⟩
      · exact ⟨271829, rfl, by decide⟩
    | false => exact s_retDv (p := p) (R := LuckV) ((dv_roll (m := 999999937) rfl (fun H1 => ev_c) (by decide) (by decide)).mono fun v h => small_of (by decide) h) d1 fun v H2 hv e2 d2 => q v H2 hv (e1.trans e2) d2
theorem ok_turns_drawn (T : Txt K mg w) : FnOk P w K mg base CX0 3 T.a_law_turns_drawn T.fd_law_turns_drawn ["dice"] (Draws (kOne TurnV)) := by
  have G_law_roll := ok_roll (P := P) (w := w) (base := base) T
  have G_law_pick := ok_pick (P := P) (w := w) (base := base) T
  refine T.F_law_turns_drawn.ok sc_law_turns_drawn (fun vs H Q E h => ?_) (fun cdv A outer s H vs Q E hr h => ?_)
  · obtain ⟨p, _, ⟨rfl, _⟩, _⟩ := h; rfl
  · obtain ⟨p, _, ⟨rfl, rfl⟩, hd, q⟩ := h
    refine ⟨_, (pss_cons (ps_set (i := 1) sc_law_turns_drawn.nd rfl (.inl rfl) (pe_call G_law_roll (hr.mono (by decide)) (by rfl) T.g_law_roll T.F_law_roll.kp T.b_law_roll .nil pass0 (pa_cons (pv 0) (pa_cons pe_int pa_nil))))
  (pss_cons (ps_if (pt_cmpR op_eq (pv 1) pe_int (nomark _)) (pss_one (ps_ret (pe_call G_law_pick (hr.mono (by decide)) (by rfl) T.g_law_pick T.F_law_pick.kp T.b_law_pick .nil pass0 (pa_cons (pv 0) (pa_cons (pe_lst (pa_cons pe_int (pa_cons pe_int (pa_cons pe_int (pa_cons pe_int (pa_cons pe_int (pa_cons pe_int (pa_cons pe_int pa_nil)))))))) pa_nil))))) pss_nil)
  (pss_cons (ps_if (pt_cmpR op_eq (pv 1) pe_int (nomark _)) (pss_one (ps_ret (pe_op op_add (pe_op op_mulW (pe_call G_law_roll (hr.mono (by decide)) (by rfl) T.g_law_roll T.F_law_roll.kp T.b_law_roll .nil pass0 (pa_cons (pv 0) (pa_cons (pe_op op_pow pe_int pe_int) pa_nil))) (pe_op op_pow pe_int pe_int)) (pe_call G_law_roll (hr.mono (by decide)) (by rfl) T.g_law_roll T.F_law_roll.kp T.b_law_roll .nil pass0 (pa_cons (pv 0) (pa_cons (pe_op op_pow pe_int pe_int) pa_nil)))))) pss_nil)
  (pss_one (ps_ret (pe_ifExp (pt_cmpR op_lt (pv 1) pe_int (nomark _)) (pe_call G_law_roll (hr.mono (by decide)) (by rfl) T.g_law_roll T.F_law_roll.kp T.b_law_roll .nil pass0 (pa_cons (pv 0) (pa_cons pe_int pa_nil))) (pe_call G_law_roll (hr.mono (by decide)) (by rfl) T.g_law_roll T.F_law_roll.kp T.b_law_roll .nil pass0 (pa_cons (pv 0) (pa_cons pe_int pa_nil))))))))), ?_⟩
    refine q_asgDv (dv_roll (p := p) (m := 5) (i := 0) rfl (fun H1 => ev_c) (by decide) (by decide)) hd fun v H1 hv e1 d1 => ?_
    obtain ⟨way, rfl, hw0, hw1⟩ := hv
    refine q_when (b := decide (V.int way = V.int 0)) (by walk_at "et") (fun hc H2 e2 => ?_) (fun hc H2 e2 => ?_)
    · refine s_retDv (p := p) (R := TurnV) ((dv_pickL (xs := [.int 0, .int 1, .int 2, .int 999999936, .int 999999935, .int 999999937, .int 499999968]) (R := fun v => v ∈ [V.int 0, .int 1, .int 2, .int 999999936, .int 999999935, .int 999999937, .int 499999968]) rfl (fun H1 _ _ => el_lst (by walk_at "ea") (by decide)) (fun l H1 _ _ hl h => ⟨l, _, rfl, hl, sq_of h, by decide, by decide, rfl⟩)).mono fun v hv => ?_) (d1.ex e2) fun v H3 hv e3 d3 => q v H3 hv ((e1.trans (Exd.of e2)).trans e3) d3
      simp only [List.mem_cons, List.not_mem_nil, or_false] at hv
      rcases hv with rfl | rfl | rfl | rfl | rfl | rfl | rfl
      · exact ⟨0, rfl, by decide⟩
      · exact ⟨1, rfl, by decide⟩
      · exact ⟨2, rfl, by decide⟩
      · exact ⟨999999936, rfl, by decide⟩
      · exact ⟨999999935, rfl, by decide⟩
      · exact ⟨999999937, rfl, by decide⟩
      · exact ⟨499999968, rfl, by decide⟩
    refine q_when (b := decide (V.int way = V.int 1)) (by walk_at "et") (fun hc H3 e3 => ?_) (fun hc H3 e3 => ?_)
    · refine s_retDv (p := p) (R := TurnV) (dv_op (R1 := fun v => ∃ n : Nat, v = .int n ∧ n < 100000000000000000000000000000000000000000000000000000000000) (R2' := fun v => ∃ r : Int, v = .int r ∧ 0 ≤ r ∧ r < 100000000000000000000000000000) ?_ (dv_roll (m := 100000000000000000000000000000) rfl (fun H1 => by walk_at "pow") (by decide) (by decide)) ?_) ((d1.ex e2).ex e3) fun v H4 hv e4 d4 => q v H4 hv (((e1.trans (Exd.of e2)).trans (Exd.of e3)).trans e4) d4
      · refine dv_op (R1 := fun v => ∃ r : Int, v = .int r ∧ 0 ≤ r ∧ r < 1000000000000000000000000000000) (R2' := fun v => v = .int 100000000000000000000000000000) (dv_roll (m := 1000000000000000000000000000000) rfl (fun H1 => by walk_at "pow") (by decide) (by decide)) (dv_ev (fun H1 _ _ => by walk_at "pow") rfl) ?_
        rintro x y H4 ⟨r, rfl, h0, h1⟩ rfl
        refine ⟨_, rv_I (wide_mul (a := 120) (b := 120) (by omega) (by decide) (by decide) (by decide) (by decide)), (r * 100000000000000000000000000000).toNat, by rw [Int.toNat_of_nonneg (by omega)], by omega⟩
      · rintro x y H4 ⟨n, rfl, h1⟩ ⟨r, rfl, h2, h3⟩
        exact ⟨_, rv_I0, (n + r).toNat, by rw [Int.toNat_of_nonneg (by omega)], by omega⟩
    · refine s_retDv (p := p) (R := TurnV) (dv_if (dvt_of (b := decide (way < 4)) (dvf_et fun H4 _ _ => by walk_at "et")) ((dv_roll (m := 999999936) rfl (fun H1 => ev_c) (by decide) (by decide)).mono fun v h => small_of (by decide) h) ((dv_roll (m := 300) rfl (fun H1 => ev_c) (by decide) (by decide)).mono fun v h => small_of (by decide) h)) ((d1.ex e2).ex e3) fun v H4 hv e4 d4 => q v H4 hv (((e1.trans (Exd.of e2)).trans (Exd.of e3)).trans e4) d4
theorem same_al {a b : Nat} (h : a = b) : (!decide (V.int (a : Int) = V.int (b : Int))) = false := by
  subst h
  rw [decide_eq_true rfl]
  rfl
def kSteps (vs : List V) (_ : Hp) (z : V) : Prop := ∃ x n : Nat, vs = [.int x, .int n] ∧ x < 999999937 ∧ n ≤ 100 ∧ z = .bl true
theorem ok_steps_right (T : Txt K mg w) : FnOk P w K mg base CX0 7 T.a_law_steps_right T.fd_law_steps_right ["luck", "few"] (Pure kSteps) := by
  have G_next_luck := ok_next_luck (P := P) (w := w) (base := base) T
  have G_luck_ahead := ok_luck_ahead (P := P) (w := w) (base := base) T
  have G_luck_after := ok_luck_after (P := P) (w := w) (base := base) T
  have G_luck_before := ok_luck_before (P := P) (w := w) (base := base) T
  refine T.F_law_steps_right.ok sc_law_steps_right (fun vs H Q E h => ?_) (fun cdv A outer s H vs Q E hr h => ?_)
  · obtain ⟨_, ⟨_, _, rfl, _⟩, _⟩ := h; rfl
  · obtain ⟨_, ⟨x, n, rfl, hx, hn, rfl⟩, q⟩ := h
    refine ⟨_, (pss_cons (ps_set (i := 2) sc_law_steps_right.nd rfl (.inl rfl) (pv 0))
  (pss_cons (ps_for PassesOwn.never rfl (pi_range1 rfl T.z_range (pa_cons (pv 1) pa_nil)) (pg_name (i := 3) sc_law_steps_right.nd rfl (.inl rfl)) (pss_cons (ps_set (i := 4) sc_law_steps_right.nd rfl (.inl rfl) (pe_op op_mod (pe_callTy c_int (by rfl) T.z_int (by decide +kernel) (pa_cons (pe_op op_add (pe_op op_mul pe_int (pv 2)) pe_int) pa_nil)) pe_int))
  (pss_cons (ps_if (PW.pt (pw_or (pt_cmpR op_ne (pe_call G_next_luck (hr.mono (by decide)) (by rfl) T.g_next_luck T.F_next_luck.kp T.b_next_luck .nil pass0 (pa_cons (pv 2) pa_nil)) (pv 4) (nomark _)) (pw_or1 (pt_cmpR op_ne (pe_call G_luck_ahead (hr.mono (by decide)) (by rfl) T.g_luck_ahead T.F_luck_ahead.kp T.b_luck_ahead .nil pass0 (pa_cons (pv 4) pa_nil)) (pv 2) (nomark _))))) (pss_one (ps_ret pe_bl)) pss_nil)
  (pss_one (ps_set (i := 2) sc_law_steps_right.nd rfl (.inl rfl) (pv 4))))))
  (pss_one (ps_ret (pe_and (pe_cmpR op_eq (pe_call G_luck_after (hr.mono (by decide)) (by rfl) T.g_luck_after T.F_luck_after.kp T.b_luck_after .nil pass0 (pa_cons (pv 0) (pa_cons (pv 1) pa_nil))) (pv 2) (nomark _)) (pe_one (pe_cmpR op_eq (pe_call G_luck_before (hr.mono (by decide)) (by rfl) T.g_luck_before T.F_luck_before.kp T.b_luck_before .nil pass0 (pa_cons (pv 2) (pa_cons (pv 1) pa_nil))) (pv 0) (nomark _)))))))), ?_⟩
    have h0 : Pg.al x 0 = x := Pg.al_one hx (by decide)
    have hl : ∀ m, Pg.al x m < 999999937 := Pg.al_lt x
    refine q_asg (v := .int (Pg.al x 0 : Nat)) (ev_is (ev_var rfl) (by rw [h0])) fun H1 e1 => ?_
    refine q_forR1 (n := (n : Int)) (by walk_at "ea") (by omega) (fun i σ' H' => Ex H H' ∧ ∃ z1 z2, σ' = [some (.int x), some (.int n), some (.int (Pg.al x i : Nat)), z1, z2]) (fun H2 e2 => ⟨e1.trans e2, none, none, rfl⟩) ?_ ?_
    · rintro i σ' H2 hi ⟨e2, z1, z2, rfl⟩
      have hnx : Pg.al (Pg.al x i) 1 = Pg.al x (i + 1) := Pg.al_al x i 1
      refine q_asg (v := .int (Pg.al x (i + 1) : Nat)) (ev_is (v := .int ((48274 * ((Pg.al x i : Nat) : Int) + 271829) % 999999937)) (by walk_at "ev") ?_) fun H3 e3 => ?_
      · rw [← hnx, ← Pg.al_next, Int.natCast_emod, Int.natCast_add, Int.natCast_mul]
        rfl
      refine q_when (b := false) (et_or (a := false) (b := false) ?_ fun _ => ?_) (fun h => by cases h) fun _ H4 e4 => ?_
      · exact et_is (et_test (ev_op (x := .int (Pg.al (Pg.al x i) 1 : Nat)) (ev_callP (vs := [.int (Pg.al x i : Nat)]) (by walk_at "ea") fun H5 _ => ⟨_, rfl, hl i, rfl⟩) (ev_var rfl) (rv_ne rfl))) (same_al hnx)
      · refine et_is (et_test (ev_op (x := .int (Pg.al (Pg.al x (i + 1)) (back 1) : Nat)) (ev_callP (vs := [.int (Pg.al x (i + 1) : Nat)]) (by walk_at "ea") fun H5 _ => ⟨_, rfl, hl (i + 1), rfl⟩) (ev_var rfl) (rv_ne rfl))) (same_al ?_)
        rw [← hnx]
        exact Pg.al_back (hl i) (back_sum 1)
      · exact s_asg (ev_var rfl) fun H5 e5 => ⟨((e2.trans e3).trans e4).trans e5, _, _, rfl⟩
    · rintro σ' H2 ⟨e2, z1, z2, rfl⟩
      have en : (n : Int).toNat = n := Int.toNat_natCast n
      rw [en]
      refine s_ret (v := .bl true) (ev_is (ev_andV (a := true) (b := true) ?_ fun _ => ?_) rfl) fun H3 e3 => q H3 (e2.trans e3)
      · exact ev_is (ev_op (x := .int (Pg.al x n : Nat)) (ev_callP (vs := [.int x, .int n]) (by walk_at "ea") fun H5 _ => ⟨x, n, rfl, hx, by omega, rfl⟩) (ev_var rfl) (rv_eq rfl)) (by rw [decide_eq_true rfl])
      · refine ev_is (ev_op (x := .int (Pg.al (Pg.al x n) (back n) : Nat)) (ev_callP (vs := [.int (Pg.al x n : Nat), .int n]) (by walk_at "ea") fun H5 _ => ⟨_, n, rfl, hl n, by omega, rfl⟩) (ev_var rfl) (rv_eq rfl)) ?_
        rw [Pg.al_back hx (back_sum n), decide_eq_true rfl]
def kTrue2 (vs : List V) (_ : Hp) (z : V) : Prop := ∃ x y : Nat, vs = [.int x, .int y] ∧ x < 999999937 ∧ y < 999999937 ∧ z = .bl true
theorem ok_between_right (T : Txt K mg w) : FnOk P w K mg base CX0 6 T.a_law_between_right T.fd_law_between_right ["one", "other"] (Pure kTrue2) := by
  have G_lucks_between := ok_lucks_between (P := P) (w := w) (base := base) T
  have G_law_led := ok_led (P := P) (w := w) (base := base) T
  refine T.F_law_between_right.ok sc_law_between_right (fun vs H Q E h => ?_) (fun cdv A outer s H vs Q E hr h => ?_)
  · obtain ⟨_, ⟨_, _, rfl, _⟩, _⟩ := h; rfl
  · obtain ⟨_, ⟨x, y, rfl, hx, hy, rfl⟩, q⟩ := h
    refine ⟨_, (pss_cons (ps_set (i := 2) sc_law_between_right.nd rfl (.inl rfl) (pe_call G_lucks_between (hr.mono (by decide)) (by rfl) T.g_lucks_between T.F_lucks_between.kp T.b_lucks_between .nil pass0 (pa_cons (pv 0) (pa_cons (pv 1) pa_nil))))
  (pss_cons (ps_if (pt_cmpR op_eq (pv 0) (pv 1) (nomark _)) (pss_one (ps_ret (pe_cmpR op_eq (pe_callB c_repr (by rfl) T.z_repr (by decide +kernel) (pa_cons (pv 2) pa_nil)) pe_str (nomark _)))) pss_nil)
  (pss_cons (ps_if (PW.pt (pw_or (pt_cmpR op_eq (pv 0) pe_int (nomark _)) (pw_or1 (pt_cmpR op_eq (pv 1) pe_int (nomark _))))) (pss_one (ps_ret (pe_cmp (pc_isN (pv 2)) rfl))) pss_nil)
  (pss_cons (ps_if (PW.pt (pw_or (pt_val (pe_callB call_isi (by rfl) T.z_isinstance (by decide +kernel) (pa_cons (pv 2) (pa_cons (pe_bltn (v := .ty "bool") (by rfl) T.z_bool (by decide +kernel) rfl) pa_nil)))) (pw_or (pt_not (pt_val (pe_callB call_isi (by rfl) T.z_isinstance (by decide +kernel) (pa_cons (pv 2) (pa_cons (pe_bltn (v := .ty "int") (by rfl) T.z_int (by decide +kernel) rfl) pa_nil))))) (pw_or1 (pt_not (pt_chain op_lt op_lt pe_int (pv 2) pe_int)))))) (pss_one (ps_ret pe_bl)) pss_nil)
  (pss_one (ps_ret (pe_cmpR op_eq (pe_call G_law_led (hr.mono (by decide)) (by rfl) T.g_law_led T.F_law_led.kp T.b_law_led .nil pass0 (pa_cons (pv 0) (pa_cons (pv 2) pa_nil))) (pv 1) (nomark _)))))))), ?_⟩
    have cast : ∀ {a b : Nat}, a ≠ b → decide (V.int (a : Int) = V.int (b : Int)) = false := fun h => decide_eq_false fun z => h (Int.ofNat.inj (V.int.inj z))
    have castS : ∀ {a : Nat}, a ≠ 949019055 → decide (V.int (a : Int) = V.int 949019055) = false := fun h => decide_eq_false fun z => h (Int.ofNat.inj (V.int.inj z))
    rcases Nat.decEq x y with hxy | hxy
    · by_cases hs : x = 949019055 ∨ y = 949019055
      · refine q_asg (v := .non) (ev_callP (vs := [.int x, .int y]) (by walk_at "ea") fun H1 _ => ⟨x, y, rfl, hx, hy, .inr (.inl ⟨hxy, hs, rfl⟩)⟩) fun H1 e1 => ?_
        refine q_when (b := false) (et_is (by walk_at "et") (cast hxy)) (fun h => by cases h) fun _ H2 e2 => ?_
        refine q_when (b := true) ?_ (fun _ H3 e3 => ?_) (fun h => by cases h)
        · refine et_is (b := true) (et_or (a := decide (V.int (x : Int) = V.int 949019055)) (b := decide (V.int (y : Int) = V.int 949019055)) (by walk_at "et") fun _ => by walk_at "et") ?_
          rcases hs with h | h <;> subst h <;> simp
        · exact s_ret (v := .bl true) (fun H4 e4 Q' q' => ⟨_, rfl, q' H4 (Ex.refl H4)⟩) fun H4 e4 => q H4 (((e1.trans e2).trans e3).trans e4)
      · have hs1 : x ≠ 949019055 := fun z => hs (.inl z)
        have hs2 : y ≠ 949019055 := fun z => hs (.inr z)
        obtain ⟨m, hm, hal⟩ := Pg.leads hx hy hs1 hs2
        have hm0 : m ≠ 0 := fun z => by
          subst z
          exact hxy ((Pg.al_one hx (by decide)).symm.trans hal)
        refine q_asg (v := .int m) (ev_callP (vs := [.int x, .int y]) (by walk_at "ea") fun H1 _ => ⟨x, y, rfl, hx, hy, .inr (.inr ⟨hxy, hs1, hs2, m, hm, hal, rfl⟩)⟩) fun H1 e1 => ?_
        refine q_when (b := false) (et_is (by walk_at "et") (cast hxy)) (fun h => by cases h) fun _ H2 e2 => ?_
        refine q_when (b := false) ?_ (fun h => by cases h) fun _ H3 e3 => ?_
        · exact et_is (et_or (a := decide (V.int (x : Int) = V.int 949019055)) (b := decide (V.int (y : Int) = V.int 949019055)) (by walk_at "et") fun _ => by walk_at "et") (by rw [castS hs1, castS hs2]; rfl)
        refine q_when (b := false) ?_ (fun h => by cases h) fun _ H4 e4 => ?_
        · refine et_is (by walk_at "et") ?_
          have h1 : decide ((0 : Int) < m) = true := decide_eq_true (by omega)
          have h2 : decide ((m : Int) < 999999936) = true := decide_eq_true (by omega)
          rw [h1, h2]
          rfl
        · refine s_ret (v := .bl true) (ev_is (ev_op (x := .int (Pg.al x m : Nat)) (ev_callP (vs := [.int x, .int m]) (by walk_at "ea") fun H5 _ => ⟨x, m, rfl, hx, by omega, rfl⟩) (ev_var rfl) (rv_eq rfl)) (by rw [hal, decide_eq_true rfl])) fun H5 e5 => q H5 ((((e1.trans e2).trans e3).trans e4).trans e5)
    · subst hxy
      refine q_asg (v := .int 0) (ev_callP (vs := [.int x, .int x]) (by walk_at "ea") fun H1 _ => ⟨x, x, rfl, hx, hx, .inl ⟨rfl, rfl⟩⟩) fun H1 e1 => ?_
      refine q_when (b := true) (et_is (by walk_at "et") (decide_eq_true rfl)) (fun _ H2 e2 => ?_) (fun h => by cases h)
      exact s_ret (v := .bl true) (ev_is (by walk_at "ev") (by decide +kernel)) fun H3 e3 => q H3 ((e1.trans e2).trans e3)
end
end Kz
set_option Elab.async false
set_option linter.all false
set_option maxRecDepth 100000
set_option maxHeartbeats 4000000
set_option exponentiation.threshold 500
namespace Kz
open PySem PySem.Spec PyProof.Rows L2 Evl Vr
local macro_rules | `(tactic| walk_at "sc") => `(tactic| first | (with_reducible assumption) | (with_reducible exact sc_mul (by omega)) | (with_reducible exact sc_mulr (by omega)) | (with_reducible exact sc_div (by omega) (by decide)) | (show (0 : Int) < _; omega) | (show _ ≠ (0 : Int); omega) | (with_reducible rfl) | decide)
local macro_rules | `(tactic| walk_at "sq") => `(tactic| first | assumption | exact sq_of (by assumption) | exact st_of (by assumption))
local macro_rules | `(tactic| walk_at "pl") => `(tactic| first | assumption | exact pl_int | exact pl_bl | exact pl_str | exact pl_non | exact pl_lst (by assumption) | exact pl_tup (by assumption) | exact pl_dK (by assumption))
local macro_rules | `(tactic| walk_at "rv") => `(tactic| first
  | with_reducible exact rv_I0
  | with_reducible exact ru_neg
  | ((with_reducible apply rv_I); walk_at "sc")
  | ((with_reducible apply rv_ixL); walk_at "sq"; first | rfl | assumption)
  | ((with_reducible apply rv_ixT); walk_at "sq"; first | rfl | assumption)
  | ((with_reducible apply rv_eq); rfl) | ((with_reducible apply rv_ne); rfl))
local macro_rules | `(tactic| walk_at "rc") => `(tactic| first
  | with_reducible exact rc_I1 | with_reducible exact rc_B1 | with_reducible exact rc_I2 | ((with_reducible apply rc_repr); walk_at "sc") | ((with_reducible apply rc_lenL); walk_at "sq")
  | ((with_reducible apply rc_isiInt); walk_at "pl") | ((with_reducible apply rc_isiBool); walk_at "pl"))
local macro_rules | `(tactic| walk_at "ea") => `(tactic| first
  | with_reducible exact ea_nil | ((with_reducible apply ea_cons); walk_at "ev"; walk_at "ea"))
local macro_rules | `(tactic| walk_at "pow") => `(tactic| first
  | with_reducible exact ev_pow (a := 10) (b := 9) (c := 1000000000) (by decide +kernel) (by decide +kernel)
  | with_reducible exact ev_pow (a := 10) (b := 10) (c := 10000000000) (by decide +kernel) (by decide +kernel)
  | with_reducible exact ev_pow (a := 10) (b := 12) (c := 1000000000000) (by decide +kernel) (by decide +kernel)
  | with_reducible exact ev_pow (a := 10) (b := 17) (c := 100000000000000000) (by decide +kernel) (by decide +kernel)
  | with_reducible exact ev_pow (a := 10) (b := 20) (c := 100000000000000000000) (by decide +kernel) (by decide +kernel)
  | with_reducible exact ev_pow (a := 10) (b := 29) (c := 100000000000000000000000000000) (by decide +kernel) (by decide +kernel)
  | with_reducible exact ev_pow (a := 10) (b := 30) (c := 1000000000000000000000000000000) (by decide +kernel) (by decide +kernel)
  | with_reducible exact ev_pow (a := 10) (b := 40) (c := 10000000000000000000000000000000000000000) (by decide +kernel) (by decide +kernel)
  | with_reducible exact ev_pow (a := 10) (b := 57) (c := 1000000000000000000000000000000000000000000000000000000000) (by decide +kernel) (by decide +kernel)
  | with_reducible exact ev_pow (a := 10) (b := 58) (c := 10000000000000000000000000000000000000000000000000000000000) (by decide +kernel) (by decide +kernel)
  | with_reducible exact ev_pow (a := 10) (b := 59) (c := 100000000000000000000000000000000000000000000000000000000000) (by decide +kernel) (by decide +kernel)
  | with_reducible exact ev_pow (a := 10) (b := 60) (c := 1000000000000000000000000000000000000000000000000000000000000) (by decide +kernel) (by decide +kernel))
local macro_rules | `(tactic| walk_at "call") => `(tactic| (intro H9 e9; first | exact ⟨_, rfl, rfl⟩ | exact ⟨_, _, rfl, rfl⟩ | exact ⟨_, _, _, rfl, rfl⟩ | exact ⟨_, rfl, by walk_at "pl", rfl⟩ | (refine ⟨_, _, _, rfl, ?_, rfl⟩; first | exact Plain.ex e9 (by assumption) | walk_at "pl") | (refine ⟨_, rfl, ?_, rfl⟩; first | exact Plain.ex e9 (by assumption) | walk_at "pl")))
local macro_rules | `(tactic| walk_at "ev") => `(tactic| first
  | with_reducible exact ev_c
  | exact ev_var rfl
  | walk_at "pow"
  | ((with_reducible apply ev_op); walk_at "ev"; walk_at "ev"; walk_at "rv")
  | ((with_reducible apply ev_un); walk_at "ev"; walk_at "rv")
  | ((with_reducible apply ev_cb); walk_at "ea"; walk_at "rc")
  | ((with_reducible apply ev_callP); walk_at "ea"; walk_at "call")
  | ((with_reducible apply ev_chain); walk_at "ev"; walk_at "ev"; walk_at "rv"; walk_at "ev"; walk_at "rv")
  | ((with_reducible apply ev_andV); walk_at "ev"; intro _; walk_at "ev")
  | ((with_reducible apply ev_orV); walk_at "ev"; intro _; walk_at "ev")
  | ((with_reducible apply ev_ite); walk_at "et"; intro _; walk_at "ev"; intro _; walk_at "ev")
  | ((with_reducible apply ev_notV); walk_at "ev"))
local macro_rules | `(tactic| walk_at "et") => `(tactic| first
  | ((with_reducible apply et_test); walk_at "ev")
  | ((with_reducible apply et_B); walk_at "ev")
  | ((with_reducible apply et_and); walk_at "et"; intro _; walk_at "et")
  | ((with_reducible apply et_or); walk_at "et"; intro _; walk_at "et")
  | ((with_reducible apply et_not); walk_at "et"))
section
variable {σ : L2.St} {H : Hp} {te ta tb : TE} {z : V}
theorem dv_call2 {ok : List V → Hp → V → Prop} {E : XK} {p : Addr} {i : Nat} {x1 : V} {R : V → Prop} (h1 : σ[i]? = some (some x1)) (h2 : Dv p te σ H R) (ho : ∀ v H1, R v → ok [x1, v] H1 z) : Dv p (tCall (Pure ok) [] E (tCons (tVar i) (tCons te tNil))) σ H (fun v => v = z) := fun H1 e d Q q =>
  ⟨x1, h1, h2 H1 e d _ fun v H2 r e2 d2 => by
    show Pure ok ([x1, v] ++ []) H2 Q E
    exact ⟨z, ho v H2 r, fun H3 e3 => q z H3 rfl (e2.trans (Exd.of e3)) (d2.ex e3)⟩⟩
theorem dv_andT {p : Addr} (h1 : Dv p ta σ H (fun v => v = .bl true)) (h2 : Dv p tb σ H (fun v => v = .bl true)) : Dv p (tAndV ta tb) σ H (fun v => v = .bl true) := fun H1 e d Q q =>
  h1 H1 e d _ fun v H2 r e2 d2 => ⟨true, r, by
    rw [if_pos rfl]
    exact h2 H2 (e.trans e2) d2 Q fun v H3 r e3 d3 => q v H3 r (e2.trans e3) d3⟩
end
section
variable {P : Program} {w : World} {K : PySem.W.Frag} {mg : Str → Option Value} {base : Heap}
theorem ok_law_right (T : Txt K mg w) : FnOk P w K mg base CX0 8 T.a_law_right T.fd_law_right ["dice"] (Draws (kOne fun v => v = .bl true)) := by
  have G_law_luck_drawn := ok_luck_drawn (P := P) (w := w) (base := base) T
  have G_law_turns_drawn := ok_turns_drawn (P := P) (w := w) (base := base) T
  have G_law_roll := ok_roll (P := P) (w := w) (base := base) T
  have G_law_led := ok_led (P := P) (w := w) (base := base) T
  have G_luck_after := ok_luck_after (P := P) (w := w) (base := base) T
  have G_luck_before := ok_luck_before (P := P) (w := w) (base := base) T
  have G_lucks_between := ok_lucks_between (P := P) (w := w) (base := base) T
  have G_law_steps_right := ok_steps_right (P := P) (w := w) (base := base) T
  have G_law_between_right := ok_between_right (P := P) (w := w) (base := base) T
  refine T.F_law_right.ok sc_law_right (fun vs H Q E h => ?_) (fun cdv A outer s H vs Q E hr h => ?_)
  · obtain ⟨_, _, ⟨rfl, _⟩, _⟩ := h; rfl
  · obtain ⟨p, _, ⟨rfl, rfl⟩, hd, q⟩ := h
    refine ⟨_, (pss_cons (ps_par (i := 1) (j := 2) (by rfl) sc_law_right.nd rfl rfl (by decide) rfl rfl (pa_cons (pe_call G_law_luck_drawn (hr.mono (by decide)) (by rfl) T.g_law_luck_drawn T.F_law_luck_drawn.kp T.b_law_luck_drawn .nil pass0 (pa_cons (pv 0) pa_nil)) (pa_cons (pe_call G_law_luck_drawn (hr.mono (by decide)) (by rfl) T.g_law_luck_drawn T.F_law_luck_drawn.kp T.b_law_luck_drawn .nil pass0 (pa_cons (pv 0) pa_nil)) pa_nil)) (by rfl))
  (pss_cons (ps_set (i := 3) sc_law_right.nd rfl (.inl rfl) (pe_call G_law_turns_drawn (hr.mono (by decide)) (by rfl) T.g_law_turns_drawn T.F_law_turns_drawn.kp T.b_law_turns_drawn .nil pass0 (pa_cons (pv 0) pa_nil)))
  (pss_cons (ps_set (i := 4) sc_law_right.nd rfl (.inl rfl) (pe_call G_law_led (hr.mono (by decide)) (by rfl) T.g_law_led T.F_law_led.kp T.b_law_led .nil pass0 (pa_cons (pv 1) (pa_cons (pv 3) pa_nil))))
  (pss_cons (ps_if (PW.pt (pw_or (pt_cmpR op_ne (pe_call G_luck_after (hr.mono (by decide)) (by rfl) T.g_luck_after T.F_luck_after.kp T.b_luck_after .nil pass0 (pa_cons (pv 1) (pa_cons (pv 3) pa_nil))) (pv 4) (nomark _)) (pw_or1 (pt_cmpR op_ne (pe_call G_luck_before (hr.mono (by decide)) (by rfl) T.g_luck_before T.F_luck_before.kp T.b_luck_before .nil pass0 (pa_cons (pv 4) (pa_cons (pv 3) pa_nil))) (pv 1) (nomark _))))) (pss_one (ps_ret pe_bl)) pss_nil)
  (pss_cons (ps_if (PW.pt (pw_and (pt_cmpR op_ne (pv 1) pe_int (nomark _)) (pw_and1 (pt_cmpR op_ne (pe_call G_lucks_between (hr.mono (by decide)) (by rfl) T.g_lucks_between T.F_lucks_between.kp T.b_lucks_between .nil pass0 (pa_cons (pv 1) (pa_cons (pv 4) pa_nil))) (pe_op op_mod (pe_callTy c_int (by rfl) T.z_int (by decide +kernel) (pa_cons (pv 3) pa_nil)) pe_int) (nomark _))))) (pss_one (ps_ret pe_bl)) pss_nil)
  (pss_one (ps_ret (pe_and (pe_call G_law_steps_right (hr.mono (by decide)) (by rfl) T.g_law_steps_right T.F_law_steps_right.kp T.b_law_steps_right .nil pass0 (pa_cons (pv 1) (pa_cons (pe_call G_law_roll (hr.mono (by decide)) (by rfl) T.g_law_roll T.F_law_roll.kp T.b_law_roll .nil pass0 (pa_cons (pv 0) (pa_cons pe_int pa_nil))) pa_nil))) (pe_and (pe_call G_law_between_right (hr.mono (by decide)) (by rfl) T.g_law_between_right T.F_law_between_right.kp T.b_law_between_right .nil pass0 (pa_cons (pv 1) (pa_cons (pv 2) pa_nil))) (pe_one (pe_call G_law_between_right (hr.mono (by decide)) (by rfl) T.g_law_between_right T.F_law_between_right.kp T.b_law_between_right .nil pass0 (pa_cons (pv 2) (pa_cons (pv 1) pa_nil))))))))))))), ?_⟩
    have ld : ∀ {σ : L2.St} {H : Hp}, σ[0]? = some (some (.ref p)) → Dv p (tCall (Draws (kOne LuckV)) [] E0 (tCons (tVar 0) tNil)) σ H LuckV := fun hs => dv_call (vs := [.ref p]) (fun H1 _ _ => ea_cons (ev_var hs) ea_nil) (fun H1 _ _ => ⟨rfl, rfl⟩)
    refine q_parDv (p := p) (ld rfl) (ld rfl) hd fun v1 v2 H1 hv1 hv2 e1 d1 => ?_
    obtain ⟨x, rfl, hx⟩ := hv1
    obtain ⟨y, rfl, hy⟩ := hv2
    refine q_asgDv (p := p) (R := TurnV) (dv_call (vs := [.ref p]) (fun H2 _ _ => ea_cons (ev_var rfl) ea_nil) (fun H2 _ _ => ⟨rfl, rfl⟩)) d1 fun v3 H2 hv3 e2 d2 => ?_
    obtain ⟨m, rfl, hm⟩ := hv3
    have hm1 : m < 1000000000000000000000000000000000000000000000000000000000000 := by omega
    have hm2 : m < 2 ^ 230 := by omega
    have hl := Pg.al_lt x m
    refine q_asg (v := .int (Pg.al x m : Nat)) (ev_callP (vs := [.int x, .int m]) (by walk_at "ea") fun H3 _ => ⟨x, m, rfl, hx, hm2, rfl⟩) fun H3 e3 => ?_
    refine q_when (b := false) (et_or (a := false) (b := false) ?_ fun _ => ?_) (fun h => by cases h) fun _ H4 e4 => ?_
    · exact et_is (et_test (ev_op (x := .int (Pg.al x m : Nat)) (ev_callP (vs := [.int x, .int m]) (by walk_at "ea") fun H5 _ => ⟨x, m, rfl, hx, hm1, rfl⟩) (ev_var rfl) (rv_ne rfl))) (same_al rfl)
    · exact et_is (et_test (ev_op (x := .int (Pg.al (Pg.al x m) (back m) : Nat)) (ev_callP (vs := [.int (Pg.al x m : Nat), .int m]) (by walk_at "ea") fun H5 _ => ⟨_, m, rfl, hl, hm1, rfl⟩) (ev_var rfl) (rv_ne rfl))) (same_al (Pg.al_back hx (back_sum m)))
    have hbet : x ≠ 949019055 → kBetween [.int x, .int (Pg.al x m : Nat)] H4 (.int (m % 999999936 : Nat)) := fun hs => by
      refine ⟨x, Pg.al x m, rfl, hx, hl, ?_⟩
      rcases Nat.decEq x (Pg.al x m) with h | h
      · refine .inr (.inr ⟨h, hs, Pg.al_moves hx hs, m % 999999936, Nat.mod_lt _ (by decide), Pg.al_eq (Pg.pow_round m).symm, rfl⟩)
      · refine .inl ⟨h, ?_⟩
        have e0 : Pg.al x m = Pg.al x 0 := by rw [← h, Pg.al_one hx (by decide)]
        rw [Pg.al_inj hx hs e0]
        rfl
    refine q_when (b := false) ?_ (fun h => by cases h) fun _ H5 e5 => ?_
    · rcases Nat.decEq x 949019055 with hs | hs
      · refine et_is (et_and (a := true) (b := false) ?_ fun _ => ?_) rfl
        · refine et_is (by walk_at "et") ?_
          have hf : decide (V.int (x : Int) = V.int 949019055) = false := decide_eq_false fun z => hs (Int.ofNat.inj (V.int.inj z))
          rw [hf]
          rfl
        · refine et_is (et_test (ev_op (x := .int (m % 999999936 : Nat)) (y := .int (m % 999999936 : Nat)) (ev_callP (vs := [.int x, .int (Pg.al x m : Nat)]) (by walk_at "ea") fun H5 _ => hbet hs) (ev_is (v := .int ((m : Int) % 999999936)) (by walk_at "ev") (by rw [Int.natCast_emod]; rfl)) (rv_ne rfl))) (same_al rfl)
      · subst hs
        refine et_is (et_and (a := false) (b := false) ?_ fun h => by cases h) rfl
        exact et_is (by walk_at "et") (by decide)
    have fin := (e1.trans e2).trans (Exd.of ((e3.trans e4).trans e5))
    refine s_retDv (p := p) (R := fun v => v = .bl true) (dv_andT (dv_call2 (x1 := .int x) rfl (dv_roll (m := 20) rfl (fun H1 => ev_c) (by decide) (by decide)) fun v H6 hv => ?_) (dv_andT (dv_ev (fun H6 _ _ => ev_callP (vs := [.int x, .int y]) (by walk_at "ea") fun H7 _ => ⟨x, y, rfl, hx, hy, rfl⟩) rfl) (dv_ev (fun H6 _ _ => ev_callP (vs := [.int y, .int x]) (by walk_at "ea") fun H7 _ => ⟨y, x, rfl, hy, hx, rfl⟩) rfl))) (d2.ex ((e3.trans e4).trans e5)) fun v H6 hv e6 d6 => q v H6 hv (fin.trans e6) d6
    obtain ⟨r, rfl, h0, h1⟩ := hv
    exact ⟨x, r.toNat, by rw [Int.toNat_of_nonneg h0], hx, by omega, rfl⟩
end
end Kz
set_option Elab.async false
set_option linter.all false
set_option maxRecDepth 100000
set_option maxHeartbeats 4000000
set_option exponentiation.threshold 500
namespace Kz
open PySem PySem.Spec PyProof.Rows L2 Evl Vr
local macro_rules | `(tactic| walk_at "sc") => `(tactic| first | (with_reducible assumption) | (with_reducible exact sc_mul (by omega)) | (with_reducible exact sc_mulr (by omega)) | (with_reducible exact sc_div (by omega) (by decide)) | (show (0 : Int) < _; omega) | (show _ ≠ (0 : Int); omega) | (with_reducible rfl) | decide)
local macro_rules | `(tactic| walk_at "sq") => `(tactic| first | assumption | exact sq_of (by assumption) | exact st_of (by assumption))
local macro_rules | `(tactic| walk_at "pl") => `(tactic| first | assumption | exact pl_int | exact pl_bl | exact pl_str | exact pl_non | exact pl_lst (by assumption) | exact pl_tup (by assumption) | exact pl_dK (by assumption))
local macro_rules | `(tactic| walk_at "rv") => `(tactic| first
  | with_reducible exact rv_I0
  | with_reducible exact ru_neg
  | ((with_reducible apply rv_I); walk_at "sc")
  | ((with_reducible apply rv_ixL); walk_at "sq"; first | rfl | assumption)
  | ((with_reducible apply rv_ixT); walk_at "sq"; first | rfl | assumption)
  | ((with_reducible apply rv_eq); rfl) | ((with_reducible apply rv_ne); rfl))
local macro_rules | `(tactic| walk_at "rc") => `(tactic| first
  | with_reducible exact rc_I1 | with_reducible exact rc_B1 | with_reducible exact rc_I2 | ((with_reducible apply rc_repr); walk_at "sc") | ((with_reducible apply rc_lenL); walk_at "sq")
  | ((with_reducible apply rc_isiInt); walk_at "pl") | ((with_reducible apply rc_isiBool); walk_at "pl"))
local macro_rules | `(tactic| walk_at "ea") => `(tactic| first
  | with_reducible exact ea_nil | ((with_reducible apply ea_cons); walk_at "ev"; walk_at "ea"))
local macro_rules | `(tactic| walk_at "pow") => `(tactic| first
  | with_reducible exact ev_pow (a := 10) (b := 9) (c := 1000000000) (by decide +kernel) (by decide +kernel)
  | with_reducible exact ev_pow (a := 10) (b := 10) (c := 10000000000) (by decide +kernel) (by decide +kernel)
  | with_reducible exact ev_pow (a := 10) (b := 12) (c := 1000000000000) (by decide +kernel) (by decide +kernel)
  | with_reducible exact ev_pow (a := 10) (b := 17) (c := 100000000000000000) (by decide +kernel) (by decide +kernel)
  | with_reducible exact ev_pow (a := 10) (b := 20) (c := 100000000000000000000) (by decide +kernel) (by decide +kernel)
  | with_reducible exact ev_pow (a := 10) (b := 29) (c := 100000000000000000000000000000) (by decide +kernel) (by decide +kernel)
  | with_reducible exact ev_pow (a := 10) (b := 30) (c := 1000000000000000000000000000000) (by decide +kernel) (by decide +kernel)
  | with_reducible exact ev_pow (a := 10) (b := 40) (c := 10000000000000000000000000000000000000000) (by decide +kernel) (by decide +kernel)
  | with_reducible exact ev_pow (a := 10) (b := 57) (c := 1000000000000000000000000000000000000000000000000000000000) (by decide +kernel) (by decide +kernel)
  | with_reducible exact ev_pow (a := 10) (b := 58) (c := 10000000000000000000000000000000000000000000000000000000000) (by decide +kernel) (by decide +kernel)
  | with_reducible exact ev_pow (a := 10) (b := 59) (c := 100000000000000000000000000000000000000000000000000000000000) (by decide +kernel) (by decide +kernel)
  | with_reducible exact ev_pow (a := 10) (b := 60) (c := 1000000000000000000000000000000000000000000000000000000000000) (by decide +kernel) (by decide +kernel))
local macro_rules | `(tactic| walk_at "call") => `(tactic| (intro H9 e9; first | exact ⟨_, rfl, rfl⟩ | exact ⟨_, _, rfl, rfl⟩ | exact ⟨_, _, _, rfl, rfl⟩ | exact ⟨_, rfl, by walk_at "pl", rfl⟩ | (refine ⟨_, _, _, rfl, ?_, rfl⟩; first | exact Plain.ex e9 (by assumption) | walk_at "pl") | (refine ⟨_, rfl, ?_, rfl⟩; first | exact Plain.ex e9 (by assumption) | walk_at "pl")))
local macro_rules | `(tactic| walk_at "ev") => `(tactic| first
  | with_reducible exact ev_c
  | exact ev_var rfl
  | walk_at "pow"
  | ((with_reducible apply ev_op); walk_at "ev"; walk_at "ev"; walk_at "rv")
  | ((with_reducible apply ev_un); walk_at "ev"; walk_at "rv")
  | ((with_reducible apply ev_cb); walk_at "ea"; walk_at "rc")
  | ((with_reducible apply ev_callP); walk_at "ea"; walk_at "call")
  | ((with_reducible apply ev_chain); walk_at "ev"; walk_at "ev"; walk_at "rv"; walk_at "ev"; walk_at "rv")
  | ((with_reducible apply ev_andV); walk_at "ev"; intro _; walk_at "ev")
  | ((with_reducible apply ev_orV); walk_at "ev"; intro _; walk_at "ev")
  | ((with_reducible apply ev_ite); walk_at "et"; intro _; walk_at "ev"; intro _; walk_at "ev")
  | ((with_reducible apply ev_notV); walk_at "ev"))
local macro_rules | `(tactic| walk_at "et") => `(tactic| first
  | ((with_reducible apply et_test); walk_at "ev")
  | ((with_reducible apply et_B); walk_at "ev")
  | ((with_reducible apply et_and); walk_at "et"; intro _; walk_at "et")
  | ((with_reducible apply et_or); walk_at "et"; intro _; walk_at "et")
  | ((with_reducible apply et_not); walk_at "et"))
section
variable {σ : L2.St} {H : Hp} {te : TE} {t : TT} {K : PySem.W.Frag}
theorem el_lcNT {xs : List V} {tl : TE} {j : Nat} {vs : List Nat} (f : Nat → Bool) (v : Nat → V) (h : EvU tl σ H xs) (hz : xs.length ≤ 40000) (hw : ∀ x, wipe ((wipe σ vs).set j (some x)) vs = wipe σ vs)
    (ht : ∀ (i : Nat) (x : V) H1, Ex H H1 → xs[i]? = some x → EvT t ((wipe σ vs).set j (some x)) H1 (f i)) (he : ∀ (i : Nat) (x : V) H1, Ex H H1 → xs[i]? = some x → f i = true → Ev te ((wipe σ vs).set j (some x)) H1 (v i)) :
    EvL (tLc (iTup K tl) (gName j) t te vs) σ H (given xs.length f v) := fun H0 e Q q => h H0 e _ fun a H1 ha e1 hx => ⟨a, rfl, ⟨xs, st_of hx⟩, fun Dl hD =>
  lc_tup (xs := xs) (Cw H1 f v Dl) ⟨hD, Ex.new hD, upd_same⟩ (fun i H' _ p => st_of (p.2.1 a _ hx)) (fun i x H' hi p => ⟨hw x, cw_turn p (by have := (List.getElem?_eq_some_iff.mp hi).1; omega) (ht i x H1 (e.trans e1) hi) (fun hf => he i x H1 (e.trans e1) hi hf)⟩)
    (fun H' p => q Dl H' (fresh_back e1 p.1) (e1.trans p.2.1) p.2.2)⟩
end
theorem al_mp {x y m : Nat} (hy : y < 999999937) (h : Pg.sh x * Pg.mp 40 1 48274 m % 999999937 = Pg.sh y) : Pg.al x m = y := Pg.al_of hy (by
  have e : 48274 ^ m % 999999937 = Pg.mp 40 1 48274 m := Pg.pw 40
  rw [Nat.mul_mod, e, Nat.mod_mul_mod, h])
theorem al01 : Pg.al 0 433376679 = 1 := al_mp (by decide) (by decide +kernel)
theorem al10 : Pg.al 1 566623257 = 0 := al_mp (by decide) (by decide +kernel)
theorem not_ne {a : Nat} {b : Int} (h : (a : Int) = b) : (!decide (V.int (a : Int) = V.int b)) = false := by
  rw [h, decide_eq_true rfl]
  rfl
def fewV : List V := [.int 2, .int 3, .int 13, .int 83, .int 1609]
theorem few_at {i : Nat} {x : V} (h : fewV[i]? = some x) : ∃ n : Nat, x = .int n ∧ 0 < n ∧ n < 2000 ∧ 999999936 / n % 999999936 ≠ 0 := by
  match i, h with
  | 0, h => exact ⟨2, (Option.some.inj h).symm, by decide, by decide, by decide⟩
  | 1, h => exact ⟨3, (Option.some.inj h).symm, by decide, by decide, by decide⟩
  | 2, h => exact ⟨13, (Option.some.inj h).symm, by decide, by decide, by decide⟩
  | 3, h => exact ⟨83, (Option.some.inj h).symm, by decide, by decide, by decide⟩
  | 4, h => exact ⟨1609, (Option.some.inj h).symm, by decide, by decide, by decide⟩
  | i + 5, h => cases h
section
variable {P : Program} {w : World} {K : PySem.W.Frag} {mg : Str → Option Value} {base : Heap}
def spLaw (K : PySem.W.Frag) : Sp := fun vs H Q _ => ∃ (a : Addr) (ns : List Int), vs = [.ref a] ∧ SqL K H a (ns.map V.int) ∧ ns.length ≤ 63 ∧ ∀ H', Q (.bl true) H'
theorem ok_law (T : Txt K mg w) {f : Addr} {fd : FuncData} (F : Fun K "law" "law" s_law f fd) : FnOk P w K mg base CX0 9 f fd ["script"] (spLaw K) := by
  have G_law_dice := ok_dice (P := P) (w := w) (base := base) T
  have G_law_right := ok_law_right (P := P) (w := w) (base := base) T
  have G_next_luck := ok_next_luck (P := P) (w := w) (base := base) T
  have G_luck_after := ok_luck_after (P := P) (w := w) (base := base) T
  have G_lucks_between := ok_lucks_between (P := P) (w := w) (base := base) T
  refine F.ok sc_law (fun vs H Q E h => ?_) (fun cdv A outer s H vs Q E hr h => ?_)
  · obtain ⟨_, _, rfl, _⟩ := h; rfl
  · obtain ⟨a, ns, rfl, hS, hlen, q⟩ := h
    refine ⟨_, (pss_cons (ps_for PassesOwn.never rfl (pi_range1 rfl T.z_range (pa_cons (pe_callB (c_max rfl) (by rfl) T.z_max (by decide +kernel) (pa_cons pe_int (pa_cons (pe_callB (c_min rfl) (by rfl) T.z_min (by decide +kernel) (pa_cons pe_int (pa_cons (pe_callB c_len (by rfl) T.z_len PySem.boot_len (pa_cons (pv 0) pa_nil)) pa_nil))) pa_nil))) pa_nil)) (pg_name (i := 1) sc_law.nd rfl (.inl rfl)) (pss_cons (ps_set (i := 2) sc_law.nd rfl (.inl rfl) (pe_call G_law_dice (hr.mono (by decide)) (by rfl) T.g_law_dice T.F_law_dice.kp T.b_law_dice .nil pass0 (pa_cons (pv 0) (pa_cons (pv 1) pa_nil))))
  (pss_one (ps_if (PW.pt (pw_or (pt_not (pt_val (pe_call G_law_right (hr.mono (by decide)) (by rfl) T.g_law_right T.F_law_right.kp T.b_law_right .nil pass0 (pa_cons (pv 2) pa_nil)))) (pw_or1 (pt_not (pt_val (pe_call G_law_right (hr.mono (by decide)) (by rfl) T.g_law_right T.F_law_right.kp T.b_law_right .nil pass0 (pa_cons (pv 2) pa_nil))))))) (pss_one (ps_ret pe_bl)) pss_nil))))
  (pss_cons (ps_if (PW.pt (pw_or (pt_cmpR (op_neD hr.units) (pe_tup (pa_cons (pe_glob (v := .int 999999937) rfl T.g_MODULUS ⟨_, rfl⟩) (pa_cons (pe_glob (v := .int 949019055) rfl T.g_STILL ⟨_, rfl⟩) pa_nil))) (pe_tup (pa_cons pe_int (pa_cons pe_int pa_nil))) (nomark _)) (pw_or (pt_cmpR op_ne (pe_call G_next_luck (hr.mono (by decide)) (by rfl) T.g_next_luck T.F_next_luck.kp T.b_next_luck .nil pass0 (pa_cons pe_int pa_nil)) pe_int (nomark _)) (pw_or1 (pt_cmpR op_ne (pe_call G_luck_after (hr.mono (by decide)) (by rfl) T.g_luck_after T.F_luck_after.kp T.b_luck_after .nil pass0 (pa_cons pe_int (pa_cons (pe_op op_pow pe_int pe_int) pa_nil))) pe_int (nomark _)))))) (pss_one (ps_ret pe_bl)) pss_nil)
  (pss_cons (ps_if (PW.pt (pw_or (pt_cmpR (op_neD hr.units) (pe_lc (own := [("part", 3)]) (g := gName 3) (by rfl) sc_law.nd (pi_tup (pe_tup (pa_cons pe_int (pa_cons pe_int (pa_cons pe_int (pa_cons pe_int (pa_cons pe_int pa_nil))))))) (blkOk_by (own := [("part", 3)]) (N := ["script", "spot", "dice", "part"]) (sc := defScope s_law) (by decide +kernel)) (fun _ _ _ _ _ => pg_name (i := 3) sc_law.nd rfl (Or.inl rfl)) (fun _ _ _ _ _ => (pts_one (pt_cmpR op_eq (pe_call G_luck_after (hr.mono (by decide)) (by rfl) T.g_luck_after T.F_luck_after.kp T.b_luck_after .nil pass0 (pa_cons pe_int (pa_cons (pe_op op_fdivW pe_int (pv 3)) pa_nil))) pe_int (nomark _)))) (fun _ _ _ _ _ => (pv 3))) (pe_lst pa_nil) (nomark _)) (pw_or1 (pt_cmpR op_ne (pe_call G_luck_after (hr.mono (by decide)) (by rfl) T.g_luck_after T.F_luck_after.kp T.b_luck_after .nil pass0 (pa_cons pe_int (pa_cons pe_int pa_nil))) pe_int (nomark _))))) (pss_one (ps_ret pe_bl)) pss_nil)
  (pss_one (ps_ret (pe_cmpR (op_eqD hr.units) (pe_lst (pa_cons (pe_call G_lucks_between (hr.mono (by decide)) (by rfl) T.g_lucks_between T.F_lucks_between.kp T.b_lucks_between .nil pass0 (pa_cons pe_int (pa_cons pe_int pa_nil))) (pa_cons (pe_call G_lucks_between (hr.mono (by decide)) (by rfl) T.g_lucks_between T.F_lucks_between.kp T.b_lucks_between .nil pass0 (pa_cons pe_int (pa_cons pe_int pa_nil))) (pa_cons (pe_call G_lucks_between (hr.mono (by decide)) (by rfl) T.g_lucks_between T.F_lucks_between.kp T.b_lucks_between .nil pass0 (pa_cons pe_int (pa_cons pe_int pa_nil))) (pa_cons (pe_call G_lucks_between (hr.mono (by decide)) (by rfl) T.g_lucks_between T.F_lucks_between.kp T.b_lucks_between .nil pass0 (pa_cons pe_int (pa_cons pe_int pa_nil))) pa_nil))))) (pe_lst (pa_cons pe_int (pa_cons pe_int (pa_cons pe_non (pa_cons pe_int pa_nil))))) (nomark _))))))), ?_⟩
    have hcnt : ∃ m : Int, 0 ≤ m ∧ m ≤ 1000 ∧ (if (if (ns.map V.int).length < (3 : Int) then ((ns.map V.int).length : Int) else 3) > 1 then (if (ns.map V.int).length < (3 : Int) then ((ns.map V.int).length : Int) else 3) else 1) = m := ⟨_, by split <;> split <;> omega, by split <;> split <;> omega, rfl⟩
    obtain ⟨m, hm0, hm1, hm⟩ := hcnt
    refine q_forR1 (n := m) (ea_cons (ev_is (by walk_at "ev") (by rw [← hm])) ea_nil) ⟨hm0, by omega⟩ (fun i σ' H' => Ex H H' ∧ ∃ z1 z2, σ' = [some (.ref a), z1, z2, none]) (fun H1 e1 => ⟨e1, none, none, rfl⟩) ?_ ?_
    · rintro i σ' H1 hi ⟨e1, z1, z2, rfl⟩
      refine goA (vs := [.ref a, .int (i : Int)]) (by walk_at "ea") fun H2 e2 => ⟨a, ns, i, rfl, ex_l (e1.trans e2) hS, fun p H3 hp e3 d3 => ?_⟩
      dsimp only [gName, List.set]
      have right : ∀ H4, DvF p (tNot (tB (tCall (Draws (kOne fun v => v = V.bl true)) [] E0 (tCons (tVar 2) tNil)))) [some (.ref a), some (.int (i : Int)), some (.ref p), none] H4 false := fun H4 => dvf_not (b := true) (dvf_B (dv_call (p := p) (R := fun v => v = .bl true) (vs := [.ref p]) (fun H1 _ _ => by walk_at "ea") (fun H1 _ _ => ⟨rfl, rfl⟩)))
      refine s_whenF (p := p) (dvf_or (right _) (right _)) d3 fun H4 e4 d4 => ⟨?_, _, _, rfl⟩
      exact (e1.trans e2).trans (e4.out e3 hp)
    rintro σ' H1 ⟨e1, z1, z2, rfl⟩
    refine q_when (b := false) (et_or (a := false) (b := false) ?_ fun _ => et_or (a := false) (b := false) ?_ fun _ => ?_) (fun h => by cases h) fun _ H2 e2 => ?_
    · refine et_is (et_test (ev_neD (d := .tuple [.int 999999937, .int 949019055]) (e := .tuple [.int 999999937, .int 949019055]) (evd_tup (evda_cons (evd_int ev_c) (evda_cons (evd_int ev_c) evda_nil)) (by decide)) (evd_tup (evda_cons (evd_int ev_c) (evda_cons (evd_int ev_c) evda_nil)) (by decide)) (by decide +kernel) (by decide +kernel))) (by decide +kernel)
    · exact et_is (et_test (ev_op (x := .int (Pg.al 949019055 1 : Nat)) (ev_callP (vs := [.int 949019055]) (by walk_at "ea") fun _ _ => ⟨949019055, rfl, by decide, rfl⟩) ev_c (rv_ne rfl))) (not_ne (by rw [Pg.al_still]; rfl))
    · exact et_is (et_test (ev_op (x := .int (Pg.al 949019055 10000000000000000000000000000000000000000 : Nat)) (ev_callP (vs := [.int 949019055, .int 10000000000000000000000000000000000000000]) (by walk_at "ea") fun _ _ => ⟨949019055, 10000000000000000000000000000000000000000, rfl, by decide, by decide, rfl⟩) ev_c (rv_ne rfl))) (not_ne (by rw [Pg.al_still]; rfl))
    refine q_when (b := false) (et_or (a := false) (b := false) ?_ fun _ => ?_) (fun h => by cases h) fun _ H3 e3 => ?_
    · refine et_is (et_test (ev_neD (d := .list (([] : List Int).map PyData.int)) (e := .list []) (evd_ints (el_lcNT (xs := [.int 2, .int 3, .int 13, .int 83, .int 1609]) (fun _ => false) (fun _ => .non) (eu_tup (by walk_at "ea") (by decide)) (by decide) (fun _ => rfl) (fun i x H4 e4 hx => ?_) (fun i x H4 e4 hx h => by cases h))) (evd_lst evda_nil (by decide)) (by decide +kernel) (by decide +kernel))) (by decide +kernel)
      obtain ⟨n, rfl, hn0, hn1, hk⟩ := few_at (show fewV[i]? = some x from hx)
      have cd : CDivW (999999936 : Int) n := wide_div (b := 20) (by omega) (by omega) (by decide) (by decide)
      have kl : 999999936 / n < 1000000000000000000000000000000000000000000000000000000000000 := Nat.lt_of_le_of_lt (Nat.div_le_self ..) (by decide)
      generalize hK : 999999936 / n = k at *
      refine et_is (et_test (ev_op (x := .int (Pg.al 5 k : Nat)) (ev_callP (vs := [.int 5, .int k]) (ea_cons ev_c (ea_cons (ev_is (ev_op (z := .int (999999936 / (n : Int))) ev_c (ev_var rfl) (rv_I cd)) (by rw [← hK, Int.natCast_ediv]; rfl)) ea_nil)) fun _ _ => ⟨5, k, rfl, by decide, kl, rfl⟩) ev_c (rv_eq rfl))) (decide_eq_false fun z => ?_)
      have z1 : Pg.al 5 k = 5 := Int.ofNat.inj (V.int.inj z)
      have z2 : Pg.al 5 k = Pg.al 5 0 := by rw [z1, Pg.al_one (by decide) (by decide)]
      exact hk (Pg.al_inj (by decide) (by decide) z2)
    · exact et_is (et_test (ev_op (x := .int (Pg.al 5 999999936 : Nat)) (ev_callP (vs := [.int 5, .int 999999936]) (by walk_at "ea") fun _ _ => ⟨5, 999999936, rfl, by decide, by decide, rfl⟩) ev_c (rv_ne rfl))) (not_ne (by rw [Pg.al_round (by decide) (by decide)]; rfl))
    refine s_ret (v := .bl true) (ev_is (ev_eqD (d := .list [.int 433376679, .int 566623257, .none, .int 0]) (e := .list [.int 433376679, .int 566623257, .none, .int 0]) (evd_lst ?_ (by decide)) (evd_lst (evda_cons (evd_int ev_c) (evda_cons (evd_int ev_c) (evda_cons (evd_non ev_c) (evda_cons (evd_int ev_c) evda_nil)))) (by decide)) (by decide +kernel) (by decide +kernel)) (by decide +kernel)) fun H4 e4 => q H4
    refine evda_cons (evd_int (ev_callP (vs := [.int 0, .int 1]) (by walk_at "ea") fun _ _ => ⟨0, 1, rfl, by decide, by decide, .inr (.inr ⟨by decide, by decide, by decide, 433376679, by decide, al01, rfl⟩)⟩)) (evda_cons (evd_int (ev_callP (vs := [.int 1, .int 0]) (by walk_at "ea") fun _ _ => ⟨1, 0, rfl, by decide, by decide, .inr (.inr ⟨by decide, by decide, by decide, 566623257, by decide, al10, rfl⟩)⟩)) (evda_cons (evd_non (ev_callP (vs := [.int 0, .int 949019055]) (by walk_at "ea") fun _ _ => ⟨0, 949019055, rfl, by decide, by decide, .inr (.inl ⟨by decide, .inr rfl, rfl⟩)⟩)) (evda_cons (evd_int (ev_callP (vs := [.int 949019055, .int 949019055]) (by walk_at "ea") fun _ _ => ⟨949019055, 949019055, rfl, by decide, by decide, .inl ⟨rfl, rfl⟩⟩)) evda_nil)))
end
end Kz
set_option Elab.async false
set_option linter.all false
set_option maxRecDepth 100000
set_option maxHeartbeats 4000000
set_option exponentiation.threshold 500
namespace Kz
open PySem PySem.Spec PyProof.Rows L2 Evl Vr
theorem all_mk {l : PySem.W.OpenLaw} {w : World} {K : PySem.W.Frag} {h : Heap} {mg : Str → Option Value} {fa f0 f1 f2 f3 f4 f5 f6 f7 f8 f9 f10 f11 f12 f13 f14 f15 f16 f17 f18 f19 f20 f21 f22 f23 f24 f25 f26 f27 f28 : Addr} (X : K.In h) (G : h.Ns mainGlobals mg) (hfa : mg "law" = some (.ref fa)) {aRP : Addr} {odRP : Option Addr} {tRP0 tRP1 tRP2 tRP3 tRP4 : Tok} {nRP : Nat} {slRP : Array (Option Value)} {t_MODULUS : Tok} {t_SUMMAND : Tok} {t_FACTOR : Tok} {t_STILL : Tok}
    {od0 an0 od1 an1 od2 an2 od3 an3 od4 an4 od5 an5 od6 an6 od7 an7 od8 an8 od9 an9 od10 an10 od11 an11 od12 an12 od13 an13 od14 an14 od15 an15 od16 an16 od17 an17 od18 an18 od19 an19 od20 an20 od21 an21 od22 an22 od23 an23 od24 an24 od25 an25 od26 an26 od27 an27 od28 an28 : Option Addr} {sl0 sl1 sl2 sl3 sl4 sl5 sl6 sl7 sl8 sl9 sl10 sl11 sl12 sl13 sl14 sl15 sl16 sl17 sl18 sl19 sl20 sl21 sl22 sl23 sl24 sl25 sl26 sl27 sl28 : Array (Option Value)} {oc0 kV0 dc0 pm0 cd0 ct0 oc1 kV1 dc1 pm1 cd1 ct1 oc2 kV2 dc2 pm2 cd2 ct2 oc3 kV3 dc3 pm3 cd3 ct3 oc4 kV4 dc4 pm4 cd4 ct4 oc5 kV5 dc5 pm5 cd5 ct5 oc6 kV6 dc6 pm6 cd6 ct6 oc7 kV7 dc7 pm7 cd7 ct7 oc8 kV8 dc8 pm8 cd8 ct8 oc9 kV9 dc9 pm9 cd9 ct9 oc10 kV10 dc10 pm10 cd10 ct10 oc11 kV11 dc11 pm11 cd11 ct11 oc12 kV12 dc12 pm12 cd12 ct12 oc13 kV13 dc13 pm13 cd13 ct13 oc14 kV14 dc14 pm14 cd14 ct14 oc15 kV15 dc15 pm15 cd15 ct15 oc16 kV16 dc16 pm16 cd16 ct16 oc17 kV17 dc17 pm17 cd17 ct17 oc18 kV18 dc18 pm18 cd18 ct18 oc19 kV19 dc19 pm19 cd19 ct19 oc20 kV20 dc20 pm20 cd20 ct20 oc21 kV21 dc21 pm21 cd21 ct21 oc22 kV22 dc22 pm22 cd22 ct22 oc23 kV23 dc23 pm23 cd23 ct23 oc24 kV24 dc24 pm24 cd24 ct24 oc25 kV25 dc25 pm25 cd25 ct25 oc26 kV26 dc26 pm26 cd26 ct26 oc27 kV27 dc27 pm27 cd27 ct27 oc28 kV28 dc28 pm28 cd28 ct28 : Value}
    (a0 : PySem.W.nsIn K mainGlobals "is_integer" = some (some (.ref f0))) (l0 : K.lookup f0 = some ⟨oc0, od0, .func (PySem.W.fnOf "is_integer" "is_integer" (defArgs s_is_integer) (defBody s_is_integer) (defScope s_is_integer) .none kV0 dc0 pm0 an0 cd0 ct0), sl0⟩) (c0 : PySem.W.codeIn K cd0 "is_integer" = true) (k0 : PySem.W.keepIn K (.ref f0) = true)
    (a1 : PySem.W.nsIn K mainGlobals "is_within" = some (some (.ref f1))) (l1 : K.lookup f1 = some ⟨oc1, od1, .func (PySem.W.fnOf "is_within" "is_within" (defArgs s_is_within) (defBody s_is_within) (defScope s_is_within) .none kV1 dc1 pm1 an1 cd1 ct1), sl1⟩) (c1 : PySem.W.codeIn K cd1 "is_within" = true) (k1 : PySem.W.keepIn K (.ref f1) = true)
    (a2 : PySem.W.nsIn K mainGlobals "is_whole" = some (some (.ref f2))) (l2 : K.lookup f2 = some ⟨oc2, od2, .func (PySem.W.fnOf "is_whole" "is_whole" (defArgs s_is_whole) (defBody s_is_whole) (defScope s_is_whole) .none kV2 dc2 pm2 an2 cd2 ct2), sl2⟩) (c2 : PySem.W.codeIn K cd2 "is_whole" = true) (k2 : PySem.W.keepIn K (.ref f2) = true)
    (a3 : PySem.W.nsIn K mainGlobals "need_whole" = some (some (.ref f3))) (l3 : K.lookup f3 = some ⟨oc3, od3, .func (PySem.W.fnOf "need_whole" "need_whole" (defArgs s_need_whole) (defBody s_need_whole) (defScope s_need_whole) .none kV3 dc3 pm3 an3 cd3 ct3), sl3⟩) (c3 : PySem.W.codeIn K cd3 "need_whole" = true) (k3 : PySem.W.keepIn K (.ref f3) = true)
    (a4 : PySem.W.nsIn K mainGlobals "is_luck" = some (some (.ref f4))) (l4 : K.lookup f4 = some ⟨oc4, od4, .func (PySem.W.fnOf "is_luck" "is_luck" (defArgs s_is_luck) (defBody s_is_luck) (defScope s_is_luck) .none kV4 dc4 pm4 an4 cd4 ct4), sl4⟩) (c4 : PySem.W.codeIn K cd4 "is_luck" = true) (k4 : PySem.W.keepIn K (.ref f4) = true)
    (a5 : PySem.W.nsIn K mainGlobals "need_luck" = some (some (.ref f5))) (l5 : K.lookup f5 = some ⟨oc5, od5, .func (PySem.W.fnOf "need_luck" "need_luck" (defArgs s_need_luck) (defBody s_need_luck) (defScope s_need_luck) .none kV5 dc5 pm5 an5 cd5 ct5), sl5⟩) (c5 : PySem.W.codeIn K cd5 "need_luck" = true) (k5 : PySem.W.keepIn K (.ref f5) = true)
    (a6 : PySem.W.nsIn K mainGlobals "power" = some (some (.ref f6))) (l6 : K.lookup f6 = some ⟨oc6, od6, .func (PySem.W.fnOf "power" "power" (defArgs s_power) (defBody s_power) (defScope s_power) .none kV6 dc6 pm6 an6 cd6 ct6), sl6⟩) (c6 : PySem.W.codeIn K cd6 "power" = true) (k6 : PySem.W.keepIn K (.ref f6) = true)
    (a7 : PySem.W.nsIn K mainGlobals "next_luck" = some (some (.ref f7))) (l7 : K.lookup f7 = some ⟨oc7, od7, .func (PySem.W.fnOf "next_luck" "next_luck" (defArgs s_next_luck) (defBody s_next_luck) (defScope s_next_luck) .none kV7 dc7 pm7 an7 cd7 ct7), sl7⟩) (c7 : PySem.W.codeIn K cd7 "next_luck" = true) (k7 : PySem.W.keepIn K (.ref f7) = true)
    (a8 : PySem.W.nsIn K mainGlobals "following" = some (some (.ref f8))) (l8 : K.lookup f8 = some ⟨oc8, od8, .func (PySem.W.fnOf "following" "following" (defArgs s_following) (defBody s_following) (defScope s_following) .none kV8 dc8 pm8 an8 cd8 ct8), sl8⟩) (c8 : PySem.W.codeIn K cd8 "following" = true) (k8 : PySem.W.keepIn K (.ref f8) = true)
    (a9 : PySem.W.nsIn K mainGlobals "luck_ahead" = some (some (.ref f9))) (l9 : K.lookup f9 = some ⟨oc9, od9, .func (PySem.W.fnOf "luck_ahead" "luck_ahead" (defArgs s_luck_ahead) (defBody s_luck_ahead) (defScope s_luck_ahead) .none kV9 dc9 pm9 an9 cd9 ct9), sl9⟩) (c9 : PySem.W.codeIn K cd9 "luck_ahead" = true) (k9 : PySem.W.keepIn K (.ref f9) = true)
    (a10 : PySem.W.nsIn K mainGlobals "luck_after" = some (some (.ref f10))) (l10 : K.lookup f10 = some ⟨oc10, od10, .func (PySem.W.fnOf "luck_after" "luck_after" (defArgs s_luck_after) (defBody s_luck_after) (defScope s_luck_after) .none kV10 dc10 pm10 an10 cd10 ct10), sl10⟩) (c10 : PySem.W.codeIn K cd10 "luck_after" = true) (k10 : PySem.W.keepIn K (.ref f10) = true)
    (a11 : PySem.W.nsIn K mainGlobals "luck_before" = some (some (.ref f11))) (l11 : K.lookup f11 = some ⟨oc11, od11, .func (PySem.W.fnOf "luck_before" "luck_before" (defArgs s_luck_before) (defBody s_luck_before) (defScope s_luck_before) .none kV11 dc11 pm11 an11 cd11 ct11), sl11⟩) (c11 : PySem.W.codeIn K cd11 "luck_before" = true) (k11 : PySem.W.keepIn K (.ref f11) = true)
    (a12 : PySem.W.nsIn K mainGlobals "along" = some (some (.ref f12))) (l12 : K.lookup f12 = some ⟨oc12, od12, .func (PySem.W.fnOf "along" "along" (defArgs s_along) (defBody s_along) (defScope s_along) .none kV12 dc12 pm12 an12 cd12 ct12), sl12⟩) (c12 : PySem.W.codeIn K cd12 "along" = true) (k12 : PySem.W.keepIn K (.ref f12) = true)
    (a13 : PySem.W.nsIn K mainGlobals "lucks_between" = some (some (.ref f13))) (l13 : K.lookup f13 = some ⟨oc13, od13, .func (PySem.W.fnOf "lucks_between" "lucks_between" (defArgs s_lucks_between) (defBody s_lucks_between) (defScope s_lucks_between) .none kV13 dc13 pm13 an13 cd13 ct13), sl13⟩) (c13 : PySem.W.codeIn K cd13 "lucks_between" = true) (k13 : PySem.W.keepIn K (.ref f13) = true)
    (a14 : PySem.W.nsIn K mainGlobals "logarithm" = some (some (.ref f14))) (l14 : K.lookup f14 = some ⟨oc14, od14, .func (PySem.W.fnOf "logarithm" "logarithm" (defArgs s_logarithm) (defBody s_logarithm) (defScope s_logarithm) .none kV14 dc14 pm14 an14 cd14 ct14), sl14⟩) (c14 : PySem.W.codeIn K cd14 "logarithm" = true) (k14 : PySem.W.keepIn K (.ref f14) = true)
    (a15 : PySem.W.nsIn K mainGlobals "turns_to" = some (some (.ref f15))) (l15 : K.lookup f15 = some ⟨oc15, od15, .func (PySem.W.fnOf "turns_to" "turns_to" (defArgs s_turns_to) (defBody s_turns_to) (defScope s_turns_to) .none kV15 dc15 pm15 an15 cd15 ct15), sl15⟩) (c15 : PySem.W.codeIn K cd15 "turns_to" = true) (k15 : PySem.W.keepIn K (.ref f15) = true)
    (a16 : PySem.W.nsIn K mainGlobals "inverse" = some (some (.ref f16))) (l16 : K.lookup f16 = some ⟨oc16, od16, .func (PySem.W.fnOf "inverse" "inverse" (defArgs s_inverse) (defBody s_inverse) (defScope s_inverse) .none kV16 dc16 pm16 an16 cd16 ct16), sl16⟩) (c16 : PySem.W.codeIn K cd16 "inverse" = true) (k16 : PySem.W.keepIn K (.ref f16) = true)
    (a17 : PySem.W.nsIn K mainGlobals "_law_dice" = some (some (.ref f17))) (l17 : K.lookup f17 = some ⟨oc17, od17, .func (PySem.W.fnOf "_law_dice" "_law_dice" (defArgs s_law_dice) (defBody s_law_dice) (defScope s_law_dice) .none kV17 dc17 pm17 an17 cd17 ct17), sl17⟩) (c17 : PySem.W.codeIn K cd17 "_law_dice" = true) (k17 : PySem.W.keepIn K (.ref f17) = true)
    (a18 : PySem.W.nsIn K mainGlobals "_law_roll" = some (some (.ref f18))) (l18 : K.lookup f18 = some ⟨oc18, od18, .func (PySem.W.fnOf "_law_roll" "_law_roll" (defArgs s_law_roll) (defBody s_law_roll) (defScope s_law_roll) .none kV18 dc18 pm18 an18 cd18 ct18), sl18⟩) (c18 : PySem.W.codeIn K cd18 "_law_roll" = true) (k18 : PySem.W.keepIn K (.ref f18) = true)
    (a19 : PySem.W.nsIn K mainGlobals "_law_pick" = some (some (.ref f19))) (l19 : K.lookup f19 = some ⟨oc19, od19, .func (PySem.W.fnOf "_law_pick" "_law_pick" (defArgs s_law_pick) (defBody s_law_pick) (defScope s_law_pick) .none kV19 dc19 pm19 an19 cd19 ct19), sl19⟩) (c19 : PySem.W.codeIn K cd19 "_law_pick" = true) (k19 : PySem.W.keepIn K (.ref f19) = true)
    (a20 : PySem.W.nsIn K mainGlobals "_law_behind" = some (some (.ref f20))) (l20 : K.lookup f20 = some ⟨oc20, od20, .func (PySem.W.fnOf "_law_behind" "_law_behind" (defArgs s_law_behind) (defBody s_law_behind) (defScope s_law_behind) .none kV20 dc20 pm20 an20 cd20 ct20), sl20⟩) (c20 : PySem.W.codeIn K cd20 "_law_behind" = true) (k20 : PySem.W.keepIn K (.ref f20) = true)
    (a21 : PySem.W.nsIn K mainGlobals "_law_line" = some (some (.ref f21))) (l21 : K.lookup f21 = some ⟨oc21, od21, .func (PySem.W.fnOf "_law_line" "_law_line" (defArgs s_law_line) (defBody s_law_line) (defScope s_law_line) .none kV21 dc21 pm21 an21 cd21 ct21), sl21⟩) (c21 : PySem.W.codeIn K cd21 "_law_line" = true) (k21 : PySem.W.keepIn K (.ref f21) = true)
    (a22 : PySem.W.nsIn K mainGlobals "_law_led" = some (some (.ref f22))) (l22 : K.lookup f22 = some ⟨oc22, od22, .func (PySem.W.fnOf "_law_led" "_law_led" (defArgs s_law_led) (defBody s_law_led) (defScope s_law_led) .none kV22 dc22 pm22 an22 cd22 ct22), sl22⟩) (c22 : PySem.W.codeIn K cd22 "_law_led" = true) (k22 : PySem.W.keepIn K (.ref f22) = true)
    (a23 : PySem.W.nsIn K mainGlobals "_law_luck_drawn" = some (some (.ref f23))) (l23 : K.lookup f23 = some ⟨oc23, od23, .func (PySem.W.fnOf "_law_luck_drawn" "_law_luck_drawn" (defArgs s_law_luck_drawn) (defBody s_law_luck_drawn) (defScope s_law_luck_drawn) .none kV23 dc23 pm23 an23 cd23 ct23), sl23⟩) (c23 : PySem.W.codeIn K cd23 "_law_luck_drawn" = true) (k23 : PySem.W.keepIn K (.ref f23) = true)
    (a24 : PySem.W.nsIn K mainGlobals "_law_turns_drawn" = some (some (.ref f24))) (l24 : K.lookup f24 = some ⟨oc24, od24, .func (PySem.W.fnOf "_law_turns_drawn" "_law_turns_drawn" (defArgs s_law_turns_drawn) (defBody s_law_turns_drawn) (defScope s_law_turns_drawn) .none kV24 dc24 pm24 an24 cd24 ct24), sl24⟩) (c24 : PySem.W.codeIn K cd24 "_law_turns_drawn" = true) (k24 : PySem.W.keepIn K (.ref f24) = true)
    (a25 : PySem.W.nsIn K mainGlobals "_law_steps_right" = some (some (.ref f25))) (l25 : K.lookup f25 = some ⟨oc25, od25, .func (PySem.W.fnOf "_law_steps_right" "_law_steps_right" (defArgs s_law_steps_right) (defBody s_law_steps_right) (defScope s_law_steps_right) .none kV25 dc25 pm25 an25 cd25 ct25), sl25⟩) (c25 : PySem.W.codeIn K cd25 "_law_steps_right" = true) (k25 : PySem.W.keepIn K (.ref f25) = true)
    (a26 : PySem.W.nsIn K mainGlobals "_law_between_right" = some (some (.ref f26))) (l26 : K.lookup f26 = some ⟨oc26, od26, .func (PySem.W.fnOf "_law_between_right" "_law_between_right" (defArgs s_law_between_right) (defBody s_law_between_right) (defScope s_law_between_right) .none kV26 dc26 pm26 an26 cd26 ct26), sl26⟩) (c26 : PySem.W.codeIn K cd26 "_law_between_right" = true) (k26 : PySem.W.keepIn K (.ref f26) = true)
    (a27 : PySem.W.nsIn K mainGlobals "_law_right" = some (some (.ref f27))) (l27 : K.lookup f27 = some ⟨oc27, od27, .func (PySem.W.fnOf "_law_right" "_law_right" (defArgs s_law_right) (defBody s_law_right) (defScope s_law_right) .none kV27 dc27 pm27 an27 cd27 ct27), sl27⟩) (c27 : PySem.W.codeIn K cd27 "_law_right" = true) (k27 : PySem.W.keepIn K (.ref f27) = true)
    (a28 : PySem.W.nsIn K mainGlobals "law" = some (some (.ref f28))) (l28 : K.lookup f28 = some ⟨oc28, od28, .func (PySem.W.fnOf "law" "law" (defArgs s_law) (defBody s_law) (defScope s_law) .none kV28 dc28 pm28 an28 cd28 ct28), sl28⟩) (c28 : PySem.W.codeIn K cd28 "law" = true) (k28 : PySem.W.keepIn K (.ref f28) = true)
    (z_abs : PySem.W.nsIn K mainGlobals "abs" = some none)
    (z_max : PySem.W.nsIn K mainGlobals "max" = some none)
    (z_min : PySem.W.nsIn K mainGlobals "min" = some none)
    (z_int : PySem.W.nsIn K mainGlobals "int" = some none)
    (z_len : PySem.W.nsIn K mainGlobals "len" = some none)
    (z_range : PySem.W.nsIn K mainGlobals "range" = some none)
    (z_repr : PySem.W.nsIn K mainGlobals "repr" = some none)
    (z_isinstance : PySem.W.nsIn K mainGlobals "isinstance" = some none)
    (z_bool : PySem.W.nsIn K mainGlobals "bool" = some none)
    (v_MODULUS : PySem.W.nsIn K mainGlobals "MODULUS" = some (some (.int 999999937 t_MODULUS)))
    (v_SUMMAND : PySem.W.nsIn K mainGlobals "SUMMAND" = some (some (.int 271829 t_SUMMAND)))
    (v_FACTOR : PySem.W.nsIn K mainGlobals "FACTOR" = some (some (.int 48274 t_FACTOR)))
    (v_STILL : PySem.W.nsIn K mainGlobals "STILL" = some (some (.int 949019055 t_STILL)))
    (rA : PySem.W.nsIn K mainGlobals "RING_PARTS" = some (some (.ref aRP)))
    (rL : K.lookup aRP = some ⟨.type "tuple", odRP, .seq #[.int 64 tRP0, .int 9 tRP1, .int 13 tRP2, .int 83 tRP3, .int 1609 tRP4] nRP, slRP⟩)
    : ∃ fd : FuncData, (∀ (s : Shared) (v : Value), BindsTo s fd ⟨[v], []⟩ [("script", v)]) ∧ ∀ base : Heap, K.In base → base.Ns mainGlobals mg → FnOk l.prog w K mg base CX0 9 fa fd ["script"] (spLaw K) := by
  have e := hfa.symm.trans (PySem.W.mg_of X G a28)
  cases e
  have F0 := fun_mk (st := s_is_integer) l0 c0 k0
  have b0 := F0.binds (ps := ["value"]) fun _ _ _ _ _ _ us hl => match us, hl with | [_], _ => rfl
  have F1 := fun_mk (st := s_is_within) l1 c1 k1
  have b1 := F1.binds (ps := ["value", "low", "high"]) fun _ _ _ _ _ _ us hl => match us, hl with | [_, _, _], _ => rfl
  have F2 := fun_mk (st := s_is_whole) l2 c2 k2
  have b2 := F2.binds (ps := ["value"]) fun _ _ _ _ _ _ us hl => match us, hl with | [_], _ => rfl
  have F3 := fun_mk (st := s_need_whole) l3 c3 k3
  have b3 := F3.binds (ps := ["value"]) fun _ _ _ _ _ _ us hl => match us, hl with | [_], _ => rfl
  have F4 := fun_mk (st := s_is_luck) l4 c4 k4
  have b4 := F4.binds (ps := ["value"]) fun _ _ _ _ _ _ us hl => match us, hl with | [_], _ => rfl
  have F5 := fun_mk (st := s_need_luck) l5 c5 k5
  have b5 := F5.binds (ps := ["value"]) fun _ _ _ _ _ _ us hl => match us, hl with | [_], _ => rfl
  have F6 := fun_mk (st := s_power) l6 c6 k6
  have b6 := F6.binds (ps := ["base", "exponent"]) fun _ _ _ _ _ _ us hl => match us, hl with | [_, _], _ => rfl
  have F7 := fun_mk (st := s_next_luck) l7 c7 k7
  have b7 := F7.binds (ps := ["luck"]) fun _ _ _ _ _ _ us hl => match us, hl with | [_], _ => rfl
  have F8 := fun_mk (st := s_following) l8 c8 k8
  have b8 := F8.binds (ps := ["luck"]) fun _ _ _ _ _ _ us hl => match us, hl with | [_], _ => rfl
  have F9 := fun_mk (st := s_luck_ahead) l9 c9 k9
  have b9 := F9.binds (ps := ["luck"]) fun _ _ _ _ _ _ us hl => match us, hl with | [_], _ => rfl
  have F10 := fun_mk (st := s_luck_after) l10 c10 k10
  have b10 := F10.binds (ps := ["luck", "many"]) fun _ _ _ _ _ _ us hl => match us, hl with | [_, _], _ => rfl
  have F11 := fun_mk (st := s_luck_before) l11 c11 k11
  have b11 := F11.binds (ps := ["luck", "many"]) fun _ _ _ _ _ _ us hl => match us, hl with | [_, _], _ => rfl
  have F12 := fun_mk (st := s_along) l12 c12 k12
  have b12 := F12.binds (ps := ["luck", "many"]) fun _ _ _ _ _ _ us hl => match us, hl with | [_, _], _ => rfl
  have F13 := fun_mk (st := s_lucks_between) l13 c13 k13
  have b13 := F13.binds (ps := ["one", "other"]) fun _ _ _ _ _ _ us hl => match us, hl with | [_, _], _ => rfl
  have F14 := fun_mk (st := s_logarithm) l14 c14 k14
  have b14 := F14.binds (ps := ["result"]) fun _ _ _ _ _ _ us hl => match us, hl with | [_], _ => rfl
  have F15 := fun_mk (st := s_turns_to) l15 c15 k15
  have b15 := F15.binds (ps := ["base", "result", "part"]) fun _ _ _ _ _ _ us hl => match us, hl with | [_, _, _], _ => rfl
  have F16 := fun_mk (st := s_inverse) l16 c16 k16
  have b16 := F16.binds (ps := ["number", "part"]) fun _ _ _ _ _ _ us hl => match us, hl with | [_, _], _ => rfl
  have F17 := fun_mk (st := s_law_dice) l17 c17 k17
  have b17 := F17.binds (ps := ["script", "spot"]) fun _ _ _ _ _ _ us hl => match us, hl with | [_, _], _ => rfl
  have F18 := fun_mk (st := s_law_roll) l18 c18 k18
  have b18 := F18.binds (ps := ["dice", "total"]) fun _ _ _ _ _ _ us hl => match us, hl with | [_, _], _ => rfl
  have F19 := fun_mk (st := s_law_pick) l19 c19 k19
  have b19 := F19.binds (ps := ["dice", "items"]) fun _ _ _ _ _ _ us hl => match us, hl with | [_, _], _ => rfl
  have F20 := fun_mk (st := s_law_behind) l20 c20 k20
  have b20 := F20.binds (ps := ["one", "other"]) fun _ _ _ _ _ _ us hl => match us, hl with | [_, _], _ => rfl
  have F21 := fun_mk (st := s_law_line) l21 c21 k21
  have b21 := F21.binds (ps := ["many"]) fun _ _ _ _ _ _ us hl => match us, hl with | [_], _ => rfl
  have F22 := fun_mk (st := s_law_led) l22 c22 k22
  have b22 := F22.binds (ps := ["luck", "many"]) fun _ _ _ _ _ _ us hl => match us, hl with | [_, _], _ => rfl
  have F23 := fun_mk (st := s_law_luck_drawn) l23 c23 k23
  have b23 := F23.binds (ps := ["dice"]) fun _ _ _ _ _ _ us hl => match us, hl with | [_], _ => rfl
  have F24 := fun_mk (st := s_law_turns_drawn) l24 c24 k24
  have b24 := F24.binds (ps := ["dice"]) fun _ _ _ _ _ _ us hl => match us, hl with | [_], _ => rfl
  have F25 := fun_mk (st := s_law_steps_right) l25 c25 k25
  have b25 := F25.binds (ps := ["luck", "few"]) fun _ _ _ _ _ _ us hl => match us, hl with | [_, _], _ => rfl
  have F26 := fun_mk (st := s_law_between_right) l26 c26 k26
  have b26 := F26.binds (ps := ["one", "other"]) fun _ _ _ _ _ _ us hl => match us, hl with | [_, _], _ => rfl
  have F27 := fun_mk (st := s_law_right) l27 c27 k27
  have b27 := F27.binds (ps := ["dice"]) fun _ _ _ _ _ _ us hl => match us, hl with | [_], _ => rfl
  have F28 := fun_mk (st := s_law) l28 c28 k28
  let T : Txt K mg w := {
    a_is_integer := f0
    fd_is_integer := _
    F_is_integer := F0
    g_is_integer := PySem.W.mg_of X G a0
    b_is_integer := b0
    a_is_within := f1
    fd_is_within := _
    F_is_within := F1
    g_is_within := PySem.W.mg_of X G a1
    b_is_within := b1
    a_is_whole := f2
    fd_is_whole := _
    F_is_whole := F2
    g_is_whole := PySem.W.mg_of X G a2
    b_is_whole := b2
    a_need_whole := f3
    fd_need_whole := _
    F_need_whole := F3
    g_need_whole := PySem.W.mg_of X G a3
    b_need_whole := b3
    a_is_luck := f4
    fd_is_luck := _
    F_is_luck := F4
    g_is_luck := PySem.W.mg_of X G a4
    b_is_luck := b4
    a_need_luck := f5
    fd_need_luck := _
    F_need_luck := F5
    g_need_luck := PySem.W.mg_of X G a5
    b_need_luck := b5
    a_power := f6
    fd_power := _
    F_power := F6
    g_power := PySem.W.mg_of X G a6
    b_power := b6
    a_next_luck := f7
    fd_next_luck := _
    F_next_luck := F7
    g_next_luck := PySem.W.mg_of X G a7
    b_next_luck := b7
    a_following := f8
    fd_following := _
    F_following := F8
    g_following := PySem.W.mg_of X G a8
    b_following := b8
    a_luck_ahead := f9
    fd_luck_ahead := _
    F_luck_ahead := F9
    g_luck_ahead := PySem.W.mg_of X G a9
    b_luck_ahead := b9
    a_luck_after := f10
    fd_luck_after := _
    F_luck_after := F10
    g_luck_after := PySem.W.mg_of X G a10
    b_luck_after := b10
    a_luck_before := f11
    fd_luck_before := _
    F_luck_before := F11
    g_luck_before := PySem.W.mg_of X G a11
    b_luck_before := b11
    a_along := f12
    fd_along := _
    F_along := F12
    g_along := PySem.W.mg_of X G a12
    b_along := b12
    a_lucks_between := f13
    fd_lucks_between := _
    F_lucks_between := F13
    g_lucks_between := PySem.W.mg_of X G a13
    b_lucks_between := b13
    a_logarithm := f14
    fd_logarithm := _
    F_logarithm := F14
    g_logarithm := PySem.W.mg_of X G a14
    b_logarithm := b14
    a_turns_to := f15
    fd_turns_to := _
    F_turns_to := F15
    g_turns_to := PySem.W.mg_of X G a15
    b_turns_to := b15
    a_inverse := f16
    fd_inverse := _
    F_inverse := F16
    g_inverse := PySem.W.mg_of X G a16
    b_inverse := b16
    a_law_dice := f17
    fd_law_dice := _
    F_law_dice := F17
    g_law_dice := PySem.W.mg_of X G a17
    b_law_dice := b17
    a_law_roll := f18
    fd_law_roll := _
    F_law_roll := F18
    g_law_roll := PySem.W.mg_of X G a18
    b_law_roll := b18
    a_law_pick := f19
    fd_law_pick := _
    F_law_pick := F19
    g_law_pick := PySem.W.mg_of X G a19
    b_law_pick := b19
    a_law_behind := f20
    fd_law_behind := _
    F_law_behind := F20
    g_law_behind := PySem.W.mg_of X G a20
    b_law_behind := b20
    a_law_line := f21
    fd_law_line := _
    F_law_line := F21
    g_law_line := PySem.W.mg_of X G a21
    b_law_line := b21
    a_law_led := f22
    fd_law_led := _
    F_law_led := F22
    g_law_led := PySem.W.mg_of X G a22
    b_law_led := b22
    a_law_luck_drawn := f23
    fd_law_luck_drawn := _
    F_law_luck_drawn := F23
    g_law_luck_drawn := PySem.W.mg_of X G a23
    b_law_luck_drawn := b23
    a_law_turns_drawn := f24
    fd_law_turns_drawn := _
    F_law_turns_drawn := F24
    g_law_turns_drawn := PySem.W.mg_of X G a24
    b_law_turns_drawn := b24
    a_law_steps_right := f25
    fd_law_steps_right := _
    F_law_steps_right := F25
    g_law_steps_right := PySem.W.mg_of X G a25
    b_law_steps_right := b25
    a_law_between_right := f26
    fd_law_between_right := _
    F_law_between_right := F26
    g_law_between_right := PySem.W.mg_of X G a26
    b_law_between_right := b26
    a_law_right := f27
    fd_law_right := _
    F_law_right := F27
    g_law_right := PySem.W.mg_of X G a27
    b_law_right := b27
    z_abs := PySem.W.mg_none_of X G z_abs
    z_max := PySem.W.mg_none_of X G z_max
    z_min := PySem.W.mg_none_of X G z_min
    z_int := PySem.W.mg_none_of X G z_int
    z_len := PySem.W.mg_none_of X G z_len
    z_range := PySem.W.mg_none_of X G z_range
    z_repr := PySem.W.mg_none_of X G z_repr
    z_isinstance := PySem.W.mg_none_of X G z_isinstance
    z_bool := PySem.W.mg_none_of X G z_bool
    t_MODULUS := t_MODULUS
    g_MODULUS := PySem.W.mg_of X G v_MODULUS
    t_SUMMAND := t_SUMMAND
    g_SUMMAND := PySem.W.mg_of X G v_SUMMAND
    t_FACTOR := t_FACTOR
    g_FACTOR := PySem.W.mg_of X G v_FACTOR
    t_STILL := t_STILL
    g_STILL := PySem.W.mg_of X G v_STILL
    a_RING_PARTS := aRP
    g_RING_PARTS := PySem.W.mg_of X G rA
    o_RING_PARTS := fun H => .inr ⟨_, _, _, rL, rfl, rfl, sz_of (by show 5 ≤ 100000; decide), .cons ⟨_, rfl⟩ (.cons ⟨_, rfl⟩ (.cons ⟨_, rfl⟩ (.cons ⟨_, rfl⟩ (.cons ⟨_, rfl⟩ .nil))))⟩
  }
  exact ⟨PySem.W.fnOf "law" "law" (defArgs s_law) (defBody s_law) (defScope s_law) .none kV28 dc28 pm28 an28 cd28 ct28, fun s v => .of_eq rfl, fun base _ _ => ok_law T F28⟩
end Kz
open PySem PySem.W PyProof.Rows
set_option maxHeartbeats 0 in
theorem PySem.Challenge.cw_settledplay_k03_whole_luck_goes_round_holds : PySem.Challenge.rw_settledplay_k03_whole_luck_goes_round.Holds := by
  w_on; o_law; k_head; (case hw => w_witness2)
  k_fill
  refine L2.walk_of (l := PySem.Challenge.rw_settledplay_k03_whole_luck_goes_round) (n := 63) (k := 9) (x := "script") (CX := fun _ => L2.CX0) (sp := fun w => Kz.spLaw _) rfl (by decide) rfl ⟨rfl, by decide, by decide⟩ (fun w h Y => PySem.W.kIn_of Y) ?F (fun _ _ a ns hl _ hS => ⟨a, ns, rfl, hS, hl, fun _ => rfl⟩) (fun _ _ _ _ _ h => h)
  case F =>
    intro w mg fa h KX G hmg
    refine' Kz.all_mk KX G hmg ?a0 ?l0 ?c0 ?k0 ?a1 ?l1 ?c1 ?k1 ?a2 ?l2 ?c2 ?k2 ?a3 ?l3 ?c3 ?k3 ?a4 ?l4 ?c4 ?k4 ?a5 ?l5 ?c5 ?k5 ?a6 ?l6 ?c6 ?k6 ?a7 ?l7 ?c7 ?k7 ?a8 ?l8 ?c8 ?k8 ?a9 ?l9 ?c9 ?k9 ?a10 ?l10 ?c10 ?k10 ?a11 ?l11 ?c11 ?k11 ?a12 ?l12 ?c12 ?k12 ?a13 ?l13 ?c13 ?k13 ?a14 ?l14 ?c14 ?k14 ?a15 ?l15 ?c15 ?k15 ?a16 ?l16 ?c16 ?k16 ?a17 ?l17 ?c17 ?k17 ?a18 ?l18 ?c18 ?k18 ?a19 ?l19 ?c19 ?k19 ?a20 ?l20 ?c20 ?k20 ?a21 ?l21 ?c21 ?k21 ?a22 ?l22 ?c22 ?k22 ?a23 ?l23 ?c23 ?k23 ?a24 ?l24 ?c24 ?k24 ?a25 ?l25 ?c25 ?k25 ?a26 ?l26 ?c26 ?k26 ?a27 ?l27 ?c27 ?k27 ?a28 ?l28 ?c28 ?k28 ?z_abs ?z_max ?z_min ?z_int ?z_len ?z_range ?z_repr ?z_isinstance ?z_bool ?v_MODULUS ?v_SUMMAND ?v_FACTOR ?v_STILL ?rA ?rL
    (case a0 => k_is)
    (case l0 => k_is)
    (case c0 => k_is)
    (case k0 => k_is)
    (case a1 => k_is)
    (case l1 => k_is)
    (case c1 => k_is)
    (case k1 => k_is)
    (case a2 => k_is)
    (case l2 => k_is)
    (case c2 => k_is)
    (case k2 => k_is)
    (case a3 => k_is)
    (case l3 => k_is)
    (case c3 => k_is)
    (case k3 => k_is)
    (case a4 => k_is)
    (case l4 => k_is)
    (case c4 => k_is)
    (case k4 => k_is)
    (case a5 => k_is)
    (case l5 => k_is)
    (case c5 => k_is)
    (case k5 => k_is)
    (case a6 => k_is)
    (case l6 => k_is)
    (case c6 => k_is)
    (case k6 => k_is)
    (case a7 => k_is)
    (case l7 => k_is)
    (case c7 => k_is)
    (case k7 => k_is)
    (case a8 => k_is)
    (case l8 => k_is)
    (case c8 => k_is)
    (case k8 => k_is)
    (case a9 => k_is)
    (case l9 => k_is)
    (case c9 => k_is)
    (case k9 => k_is)
    (case a10 => k_is)
    (case l10 => k_is)
    (case c10 => k_is)
    (case k10 => k_is)
    (case a11 => k_is)
    (case l11 => k_is)
    (case c11 => k_is)
    (case k11 => k_is)
    (case a12 => k_is)
    (case l12 => k_is)
    (case c12 => k_is)
    (case k12 => k_is)
    (case a13 => k_is)
    (case l13 => k_is)
    (case c13 => k_is)
    (case k13 => k_is)
    (case a14 => k_is)
    (case l14 => k_is)
    (case c14 => k_is)
    (case k14 => k_is)
    (case a15 => k_is)
    (case l15 => k_is)
    (case c15 => k_is)
    (case k15 => k_is)
    (case a16 => k_is)
    (case l16 => k_is)
    (case c16 => k_is)
    (case k16 => k_is)
    (case a17 => k_is)
    (case l17 => k_is)
    (case c17 => k_is)
    (case k17 => k_is)
    (case a18 => k_is)
    (case l18 => k_is)
    (case c18 => k_is)
    (case k18 => k_is)
    (case a19 => k_is)
    (case l19 => k_is)
    (case c19 => k_is)
    (case k19 => k_is)
    (case a20 => k_is)
    (case l20 => k_is)
    (case c20 => k_is)
    (case k20 => k_is)
    (case a21 => k_is)
    (case l21 => k_is)
    (case c21 => k_is)
    (case k21 => k_is)
    (case a22 => k_is)
    (case l22 => k_is)
    (case c22 => k_is)
    (case k22 => k_is)
    (case a23 => k_is)
    (case l23 => k_is)
    (case c23 => k_is)
    (case k23 => k_is)
    (case a24 => k_is)
    (case l24 => k_is)
    (case c24 => k_is)
    (case k24 => k_is)
    (case a25 => k_is)
    (case l25 => k_is)
    (case c25 => k_is)
    (case k25 => k_is)
    (case a26 => k_is)
    (case l26 => k_is)
    (case c26 => k_is)
    (case k26 => k_is)
    (case a27 => k_is)
    (case l27 => k_is)
    (case c27 => k_is)
    (case k27 => k_is)
    (case a28 => k_is)
    (case l28 => k_is)
    (case c28 => k_is)
    (case k28 => k_is)
    (case z_abs => k_is)
    (case z_max => k_is)
    (case z_min => k_is)
    (case z_int => k_is)
    (case z_len => k_is)
    (case z_range => k_is)
    (case z_repr => k_is)
    (case z_isinstance => k_is)
    (case z_bool => k_is)
    (case v_MODULUS => k_is)
    (case v_SUMMAND => k_is)
    (case v_FACTOR => k_is)
    (case v_STILL => k_is)
    (case rA => k_is)
    (case rL => k_is)
