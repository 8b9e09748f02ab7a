import PyProof.Rows.All
import Wide.All
import OpenK.AllK
import Wide.FinOn
import HandS.ForMost
import HandS.Wide
import HandS.Evl
import HandS.IsInst
import HandS.RaiseMore
import HandS.More
import HandS.CallLocal
import HandS.Style
import HandS.TupAny
import HandS.Strs
import HandS.Walk
import HandS.Iter
import KE.GoesMore
import KE.IntTextLaws
import HandS.OwnEq
import HandS.OwnIter
import HandS.DictComp
import HandS.StrMore
import HandS.FStr
import HandS.Zip
import HandS.Text
import HandS.Star
import HandS.Defaults
import PyProof.InstEq
import PyProof.CallStr
import HandS.IterVal
import PyProof.NeKinds
import HandS.SetFor
import PyProof.SetRoads
import HandS.Deep
import HandS.NoneIn
import PyProof.ListStr
import HandS.ExcInit
import HandS.ExcField
import HandS.Lambda
import HandS.TryMany
import HandS.WordsExc
import KE.KExcInit
import PyProof.ReprRoads
import HandS.ExcInitHot
import HandS.RaiseFrom
import HandS.SuiteRaise
import HandS.EndTab
import HandS.List
import KE.KxField
import PyProof.Rows.StrIntSpec
import HandS.Rev
import HandS.RevTup
import HandS.Dict
import HandS.MakeKwOnly
import PySem.Challenge.RW_settledplay_k33_errors_of_differences_an
import HandS.Small
import HandS.Exc
import HandS.ExcOwn
import HandS.TryOnly
import HandS.Codes
import HandS.WrittenGet
import HandS.TupMul
import HandS.Comp
import HandS.SetBool
import HandS.TupLe
import HandS.Conv
import KE.KNestM
set_option Elab.async false
set_option linter.all false
set_option maxRecDepth 100000
set_option maxHeartbeats 4000000
namespace Vr
open PySem PySem.Spec PyProof.Rows L2 Evl
/-! ### rules of calls whose answer is one -/
section
variable {X : Cx}
def rI1 (g : Int → V) : List V → Hp → VK → Prop := fun xs H Q => ∃ i, xs = [.int i] ∧ Q (g i) H
def rB1 (g : Bool → V) : List V → Hp → VK → Prop := fun xs H Q => ∃ i, xs = [.bl i] ∧ Q (g i) H
def rI2 (g : Int → Int → V) : List V → Hp → VK → Prop := fun xs H Q => ∃ i j, xs = [.int i, .int j] ∧ Q (g i j) H
theorem callR_mono {f : Value} {r r' : List V → Hp → VK → Prop} (h : CallR X f r) (k : ∀ vs H Q, r' vs H Q → r vs H Q) : CallR X f r' :=
  fun pins s σ H xs us Q I rv q => h pins s σ H xs us Q I rv (k _ _ _ q)
theorem c_int : CallR X (.type "int") (rI1 fun i => .int i) := callR_mono call_int1 fun _ _ _ h => .inl h
theorem c_intB : CallR X (.type "int") (rB1 fun k => .int (if k then 1 else 0)) := callR_mono call_int1 fun _ _ _ h => .inr h
theorem c_abs : CallR X (.builtin "abs") (rI1 fun i => .int (if i < 0 then -i else i)) := call_abs
theorem c_max (hc : X.calm = true) : CallR X (.builtin "max") (rI2 fun i j => .int (if j > i then j else i)) := call_max2 hc
theorem c_min (hc : X.calm = true) : CallR X (.builtin "min") (rI2 fun i j => .int (if j < i then j else i)) := call_min2 hc
def rRepr : List V → Hp → VK → Prop := fun xs H Q => ∃ i : Int, xs = [.int i] ∧ i.natAbs.log2 < 1920 ∧ Q (.str (toString i)) H
theorem c_repr : CallR X (.builtin "repr") rRepr := SkE.call_repr_int
theorem c_len : CallR X (.builtin "len") (rLenS X.K) := call_len_seq
end
section
variable {K : PySem.W.Frag} {σ : L2.St} {H H' : Hp} {ta tb tc te : TE} {t u : TT} {x y z v : V} {r r' : R2} {D : Ends}
theorem sc_mul {i j : Int} (h : -18446744073709551616 < i ∧ i < 18446744073709551616) : CMul i j := .inl h
theorem sc_div {i j : Int} (h : 0 < j) (h2 : j.natAbs.log2 < 9000) : CDivW i j := ⟨h, h2⟩
theorem rc_I1 {g : Int → V} {i : Int} : RC (rI1 g) [.int i] H (g i) := fun H1 _ _ q => ⟨i, rfl, q H1 (Ex.refl H1)⟩
theorem rc_B1 {g : Bool → V} {i : Bool} : RC (rB1 g) [.bl i] H (g i) := fun H1 _ _ q => ⟨i, rfl, q H1 (Ex.refl H1)⟩
theorem rc_I2 {g : Int → Int → V} {i j : Int} : RC (rI2 g) [.int i, .int j] H (g i j) := fun H1 _ _ q => ⟨i, j, rfl, q H1 (Ex.refl H1)⟩
theorem rc_repr {i : Int} (h : i.natAbs.log2 < 1920) : RC rRepr [.int i] H (.str (toString i)) := fun H1 _ _ q => ⟨i, rfl, h, q H1 (Ex.refl H1)⟩
theorem rc_lenL {p : Addr} {xs : List V} (h : SqL K H p xs) : RC (rLenS K) [.ref p] H (.int (xs.length : Int)) := fun H1 e _ q => ⟨p, xs, rfl, .inl (ex_l e h), q H1 (Ex.refl H1)⟩
theorem ev_chain {a b : Bool} (h1 : Ev ta σ H x) (h2 : Ev tb σ H y) (r1 : RV r x y H (.bl a)) (h3 : Ev tc σ H z) (r2 : RV r' y z H (.bl b)) : Ev (tChain r r' ta tb tc) σ H (.bl (a && b)) := fun H1 e Q q =>
  h1 H1 e _ fun H2 e2 => h2 H2 (e.trans e2) _ fun H3 e3 => r1 H3 ((e.trans e2).trans e3) _ fun H4 e4 => ⟨a, rfl, by
    cases a with
    | true =>
      rw [if_pos rfl]
      exact h3 H4 (((e.trans e2).trans e3).trans e4) _ fun H5 e5 => r2 H5 ((((e.trans e2).trans e3).trans e4).trans e5) _ fun H6 e6 => q H6 ((((e2.trans e3).trans e4).trans e5).trans e6)
    | false =>
      rw [if_neg Bool.false_ne_true]
      exact q H4 ((e2.trans e3).trans e4)⟩
/-- an expression that evaluates, then what follows -/
theorem go {Q : VK} (h : Ev te σ H v) (k : ∀ H1, Ex H H1 → Q v H1) : te σ H Q := h H (Ex.refl H) Q k
theorem goT {b : Bool} {Q : Bool → Hp → Prop} (h : EvT t σ H b) (k : ∀ H1, Ex H H1 → Q b H1) : t σ H Q := h H (Ex.refl H) Q k
theorem goA {ts : TA} {vs : List V} {Q : List V → Hp → Prop} (h : EvA ts σ H vs) (k : ∀ H1, Ex H H1 → Q vs H1) : ts σ H Q := h H (Ex.refl H) Q k
/-! ### promises of defs that answer by their arguments, whatever else they make -/
def Pure (ok : List V → Hp → V → Prop) : Sp := fun vs H Q _ => ∃ z, ok vs H z ∧ ∀ H', Ex H H' → Q z H'
theorem ev_callP {ok : List V → Hp → V → Prop} {E : XK} {ts : TA} {vs : List V} (h : EvA ts σ H vs) (ho : ∀ H1, Ex H H1 → ok vs H1 z) : Ev (tCall (Pure ok) [] E ts) σ H z := fun H1 e Q q =>
  h H1 e _ fun H2 e2 => by
    show Pure ok (vs ++ []) H2 Q E
    rw [List.append_nil]
    exact ⟨z, ho H2 (e.trans e2), fun H3 e3 => q H3 (e2.trans e3)⟩
theorem fin {Q : VK} (k : ∀ H', Ex H H' → Q z H') (e : Ex H H') : Q z H' := k H' e
/-! ### the dice: a list of three ints at p, all else as it was -/
def Exd (p : Addr) (H H' : Hp) : Prop := ∀ a o, a ≠ p → H a = some o → H' a = some o
theorem Exd.refl (p : Addr) (H : Hp) : Exd p H H := fun _ _ _ h => h
theorem Exd.trans {p : Addr} {H H1 H2 : Hp} (a : Exd p H H1) (b : Exd p H1 H2) : Exd p H H2 := fun c o n h => b c o n (a c o n h)
theorem Exd.of {p : Addr} (e : Ex H H') : Exd p H H' := fun a o _ h => e a o h
theorem Exd.upd {p : Addr} {o : HO} : Exd p H (upd H p o) := fun a u n h => by rw [upd_ne n]; exact h
def Dice (p : Addr) (H : Hp) : Prop := ∃ a b c : Int, H p = some (.lst [.int a, .int b, .int c])
theorem Dice.ex {p : Addr} (e : Ex H H') (d : Dice p H) : Dice p H' := by
  obtain ⟨a, b, c, h⟩ := d
  exact ⟨a, b, c, e _ _ h⟩
theorem Exd.l {p a : Addr} {xs : List V} (e : Exd p H H') (n : a ≠ p) (h : SqL K H a xs) : SqL K H' a xs := by
  rcases h with (h | ⟨o, h⟩) | h
  · exact .inl (.inl (e _ _ n h))
  · exact .inl (.inr ⟨o, e _ _ n h⟩)
  · exact .inr h
/-! ### more values -/
theorem ev_ite {b : Bool} {v1 v2 : V} (h : EvT t σ H b) (h1 : b = true → Ev ta σ H v1) (h2 : b = false → Ev tb σ H v2) : Ev (tIf t ta tb) σ H (if b = true then v1 else v2) :=
  ev_if h (fun e => by rw [if_pos e]; exact h1 e) (fun e => by rw [if_neg (by rw [e]; exact Bool.false_ne_true)]; exact h2 e)
theorem ev_pow {a b c : Int} (h : 0 ≤ b ∧ b ≤ 1000000 ∧ a.natAbs < 2 ^ 64) (e : a ^ b.toNat = c) : Ev (tOp (rI CPow fun i j => .int (i ^ j.toNat)) (tC (.int a)) (tC (.int b))) σ H (.int c) := by
  rw [← e]
  exact ev_op ev_c ev_c (rv_I h)
/-- the type of a value, and what isinstance says of int and bool -/
def isIB : V → Bool
  | .int _ => true
  | .bl _ => true
  | _ => false
def isB : V → Bool
  | .bl _ => true
  | _ => false
def isS : V → Bool
  | .str _ => true
  | _ => false
/-- a plain value: its type is a built-in one -/
def Plain (K : PySem.W.Frag) (H : Hp) (x : V) : Prop := ∃ n, TyX K H x (.type n)
theorem isi_int {n : String} (h : TyX K H x (.type n)) : PySem.W.kitOne K (.type n) (.type "int") = some (isIB x) := by
  cases h with
  | base b => cases b <;> first | exact kit_ty (r := false) (by decide +kernel) | exact kit_ty (r := true) (by decide +kernel)
  | byt _ => first | exact kit_ty (r := false) (by decide +kernel) | exact kit_ty (r := true) (by decide +kernel)
  | set _ => first | exact kit_ty (r := false) (by decide +kernel) | exact kit_ty (r := true) (by decide +kernel)
  | kList _ _ => first | exact kit_ty (r := false) (by decide +kernel) | exact kit_ty (r := true) (by decide +kernel)
  | kTuple _ _ => first | exact kit_ty (r := false) (by decide +kernel) | exact kit_ty (r := true) (by decide +kernel)
  | kDict _ _ => first | exact kit_ty (r := false) (by decide +kernel) | exact kit_ty (r := true) (by decide +kernel)
  | fTuple _ => first | exact kit_ty (r := false) (by decide +kernel) | exact kit_ty (r := true) (by decide +kernel)
  | fDict _ => first | exact kit_ty (r := false) (by decide +kernel) | exact kit_ty (r := true) (by decide +kernel)
theorem isi_bool {n : String} (h : TyX K H x (.type n)) : PySem.W.kitOne K (.type n) (.type "bool") = some (isB x) := by
  cases h with
  | base b => cases b <;> first | exact kit_ty (r := false) (by decide +kernel) | exact kit_ty (r := true) (by decide +kernel)
  | byt _ => first | exact kit_ty (r := false) (by decide +kernel) | exact kit_ty (r := true) (by decide +kernel)
  | set _ => first | exact kit_ty (r := false) (by decide +kernel) | exact kit_ty (r := true) (by decide +kernel)
  | kList _ _ => first | exact kit_ty (r := false) (by decide +kernel) | exact kit_ty (r := true) (by decide +kernel)
  | kTuple _ _ => first | exact kit_ty (r := false) (by decide +kernel) | exact kit_ty (r := true) (by decide +kernel)
  | kDict _ _ => first | exact kit_ty (r := false) (by decide +kernel) | exact kit_ty (r := true) (by decide +kernel)
  | fTuple _ => first | exact kit_ty (r := false) (by decide +kernel) | exact kit_ty (r := true) (by decide +kernel)
  | fDict _ => first | exact kit_ty (r := false) (by decide +kernel) | exact kit_ty (r := true) (by decide +kernel)
theorem ty_ex {u : Value} (e : Ex H H') (h : TyX K H x u) : TyX K H' x u := by
  cases h with
  | base b =>
    cases b with
    | non => exact .base .non
    | bl y => exact .base (.bl y)
    | int y => exact .base (.int y)
    | str y => exact .base (.str y)
    | flt y => exact .base (.flt y)
    | lst h => exact .base (.lst (e _ _ h))
    | frz h => exact .base (.frz (e _ _ h))
    | tup h => exact .base (.tup (e _ _ h))
    | dK h => exact .base (.dK (e _ _ h))
    | dT h => exact .base (.dT (e _ _ h))
    | ins h a b c d f => exact .base (.ins (e _ _ h) a b c d f)
  | byt b => exact .byt b
  | set h => exact .set (e _ _ h)
  | kList h c => exact .kList h c
  | kTuple h c => exact .kTuple h c
  | kDict h c => exact .kDict h c
  | fTuple h => exact .fTuple (e _ _ h)
  | fDict h => exact .fDict (e _ _ h)
theorem Plain.ex (e : Ex H H') (h : Plain K H x) : Plain K H' x := by
  obtain ⟨n, h⟩ := h
  exact ⟨n, ty_ex e h⟩
theorem rc_isiInt (h : Plain K H x) : RC (rIsi K) [x, .ty "int"] H (.bl (isIB x)) := fun H1 e Q q => by
  obtain ⟨n, h⟩ := h.ex e
  exact ⟨x, .ty "int", .type n, .type "int", _, rfl, .ty _, h, isi_int h, q H1 (Ex.refl H1)⟩
theorem rc_isiBool (h : Plain K H x) : RC (rIsi K) [x, .ty "bool"] H (.bl (isB x)) := fun H1 e Q q => by
  obtain ⟨n, h⟩ := h.ex e
  exact ⟨x, .ty "bool", .type n, .type "bool", _, rfl, .ty _, h, isi_bool h, q H1 (Ex.refl H1)⟩
/-- an integer of at most sixty digits -/
def isIntV : V → Bool
  | .int i => decide (-1000000000000000000000000000000000000000000000000000000000000 < i) && decide (i < 1000000000000000000000000000000000000000000000000000000000000)
  | _ => false
def isWithin (lo hi : Int) : V → Bool
  | .int i => isIntV (.int i) && (decide (lo ≤ i) && decide (i ≤ hi))
  | _ => false
theorem pl_int {i : Int} : Plain K H (.int i) := ⟨_, .base (.int i)⟩
theorem pl_bl {i : Bool} : Plain K H (.bl i) := ⟨_, .base (.bl i)⟩
theorem pl_str {i : Str} : Plain K H (.str i) := ⟨_, .base (.str i)⟩
theorem pl_non : Plain K H .non := ⟨_, .base .non⟩
theorem pl_lst {a : Addr} {xs : List V} (h : H a = some (.lst xs)) : Plain K H (.ref a) := ⟨_, .base (.lst h)⟩
theorem pl_tup {a : Addr} {xs : List V} (h : H a = some (.tup xs)) : Plain K H (.ref a) := ⟨_, .base (.tup h)⟩
theorem pl_dK {a : Addr} {xs : List (Key × V)} (h : H a = some (.dK xs)) : Plain K H (.ref a) := ⟨_, .base (.dK h)⟩
/-! ### loops over a new tuple -/
variable {tu tw tz : TS} {g : TG}
theorem s_forNU {xs : List V} {tl : TE} (h : EvU tl σ H xs) (Pv : Addr → Nat → L2.St → Hp → Prop) (h0 : ∀ p H1, H p = none → Ex H H1 → H1 p = some (.tup xs) → Pv p 0 σ H1) (hl : ∀ p i σ' H', i ≤ xs.length → Pv p i σ' H' → SqT K H' p xs)
    (hs : ∀ p i x σ' H', xs[i]? = some x → Pv p i σ' H' → g x σ' H' fun σ2 H2 => tu { D with nx := Pv p (i + 1), ct := Pv p (i + 1), bk := D.nx } σ2 H2) (hd : ∀ p σ' H', Pv p xs.length σ' H' → D.nx σ' H') : tFor (iTup K tl) g tu D σ H :=
  h H (Ex.refl H) _ fun p H1 hp e h1 => ⟨p, rfl, ⟨xs, st_of h1⟩, for_tup (Pv p) (h0 p H1 hp e h1) (hl p) (hs p) (hd p)⟩
theorem q_forNU {xs : List V} {tl : TE} (h : EvU tl σ H xs) (Pv : Addr → Nat → L2.St → Hp → Prop) (h0 : ∀ p H1, H p = none → Ex H H1 → H1 p = some (.tup xs) → Pv p 0 σ H1) (hl : ∀ p i σ' H', i ≤ xs.length → Pv p i σ' H' → SqT K H' p xs)
    (hs : ∀ p i x σ' H', xs[i]? = some x → Pv p i σ' H' → g x σ' H' fun σ2 H2 => tu { D with nx := Pv p (i + 1), ct := Pv p (i + 1), bk := tz D } σ2 H2) (hd : ∀ p σ' H', Pv p xs.length σ' H' → tz D σ' H') : tSeq (tFor (iTup K tl) g tu) tz D σ H :=
  s_forNU (D := { D with nx := tz D }) h Pv h0 hl hs hd
/-! ### what draws from the dice -/
def Dv (p : Addr) (te : TE) (σ : L2.St) (H : Hp) (R : V → Prop) : Prop := ∀ H1, Exd p H H1 → Dice p H1 → ∀ Q : VK, (∀ v H2, R v → Exd p H1 H2 → Dice p H2 → Q v H2) → te σ H1 Q
def DvA (p : Addr) (ta : TA) (σ : L2.St) (H : Hp) (R : List V → Prop) : Prop := ∀ H1, Exd p H H1 → Dice p H1 → ∀ Q : List V → Hp → Prop, (∀ v H2, R v → Exd p H1 H2 → Dice p H2 → Q v H2) → ta σ H1 Q
theorem dv_ev {p : Addr} {R : V → Prop} (h : ∀ H1, Exd p H H1 → Dice p H1 → Ev te σ H1 v) (hr : R v) : Dv p te σ H R := fun H1 e d Q q => h H1 e d H1 (Ex.refl H1) Q fun H2 e2 => q v H2 hr (Exd.of e2) (d.ex e2)
theorem Dv.mono {p : Addr} {R R' : V → Prop} (h : Dv p te σ H R) (k : ∀ v, R v → R' v) : Dv p te σ H R' := fun H1 e d Q q => h H1 e d Q fun v H2 r => q v H2 (k v r)
theorem da_nil {p : Addr} {P : V → Prop} : DvA p tNil σ H (fun vs => vs.length = 0 ∧ ∀ v ∈ vs, P v) := fun H1 e d Q q => q [] H1 ⟨rfl, fun _ h => by cases h⟩ (Exd.refl p H1) d
theorem da_cons {p : Addr} {n : Nat} {P : V → Prop} {tr : TA} (h : Dv p te σ H P) (hr : DvA p tr σ H (fun vs => vs.length = n ∧ ∀ v ∈ vs, P v)) : DvA p (tCons te tr) σ H (fun vs => vs.length = n + 1 ∧ ∀ v ∈ vs, P v) := fun H1 e d Q q =>
  h H1 e d _ fun v H2 r e2 d2 => hr H2 (e.trans e2) d2 _ fun vs H3 rs e3 d3 => q (v :: vs) H3 ⟨by rw [List.length_cons, rs.1], fun x hx => by
    rcases List.mem_cons.mp hx with z | z
    · rw [z]; exact r
    · exact rs.2 x z⟩ (e2.trans e3) d3
theorem Exd.none {p a : Addr} (e : Exd p H H') (n : a ≠ p) (h : H' a = none) : H a = none := by
  cases q : H a with
  | none => rfl
  | some o => rw [e a o n q] at h; cases h
theorem Dice.ne {p a : Addr} (d : Dice p H) (h : H a = none) : a ≠ p := by
  obtain ⟨x, y, z, hp⟩ := d
  intro e
  rw [e, hp] at h
  cases h
/-- the call of a def that draws: what it promises of its answer -/
def Draws (ok : List V → Hp → Addr → (V → Prop) → Prop) : Sp := fun vs H Q _ => ∃ (p : Addr) (R : V → Prop), ok vs H p R ∧ Dice p H ∧ ∀ v H', R v → Exd p H H' → Dice p H' → Q v H'
theorem dv_call {ok : List V → Hp → Addr → (V → Prop) → Prop} {E : XK} {ts : TA} {p : Addr} {R : V → Prop} {vs : List V} (h : ∀ H1, Exd p H H1 → Dice p H1 → EvA ts σ H1 vs) (ho : ∀ H1, Exd p H H1 → Dice p H1 → ok vs H1 p R) : Dv p (tCall (Draws ok) [] E ts) σ H R := fun H1 e d Q q =>
  h H1 e d H1 (Ex.refl H1) _ fun H2 e2 => by
    show Draws ok (vs ++ []) H2 Q E
    rw [List.append_nil]
    exact ⟨p, R, ho H2 (e.trans (Exd.of e2)) (d.ex e2), d.ex e2, fun v H3 r e3 d3 => q v H3 r ((Exd.of e2).trans e3) d3⟩
theorem sc_mulr {i j : Int} (h : -18446744073709551616 < j ∧ j < 18446744073709551616) : CMul i j := .inr h
theorem q_asgI {i : Nat} (h : ∃ c : Int, Ev te σ H (.int c)) (k : ∀ (c : Int) H1, Ex H H1 → tz D (σ.set i (some (.int c))) H1) : tSeq (tAsg te (gName i)) tz D σ H := by
  obtain ⟨c, h⟩ := h
  exact q_asg h (k c)
/-! ### data of any depth -/
mutual
theorem dp_ex (e : Ex H H') : ∀ {d : PyData} {x : V}, Dp K H x d → Dp K H' x d
  | _, _, .non => .non
  | _, _, .bl b => .bl b
  | _, _, .int i => .int i
  | _, _, .str z => .str z
  | _, _, .lst h a => .lst (ex_l e h) (dpa_ex e a)
  | _, _, .tup h a => .tup (ex_t e h) (dpa_ex e a)
theorem dpa_ex (e : Ex H H') : ∀ {ds : List PyData} {xs : List V}, DpAll K H xs ds → DpAll K H' xs ds
  | _, _, .nil => .nil
  | _, _, .cons h t => .cons (dp_ex e h) (dpa_ex e t)
end
def EvD (K : PySem.W.Frag) (te : TE) (σ : L2.St) (H : Hp) (d : PyData) : Prop := ∀ H1, Ex H H1 → ∀ Q : VK, (∀ v H2, Ex H1 H2 → Dp K H2 v d → Q v H2) → te σ H1 Q
def EvDA (K : PySem.W.Frag) (ta : TA) (σ : L2.St) (H : Hp) (ds : List PyData) : Prop := ∀ H1, Ex H H1 → ∀ Q : List V → Hp → Prop, (∀ vs H2, Ex H1 H2 → DpAll K H2 vs ds → Q vs H2) → ta σ H1 Q
theorem dpa_len : ∀ {vs : List V} {ds : List PyData}, DpAll K H vs ds → vs.length = ds.length
  | _, _, .nil => rfl
  | _, _, .cons _ t => congrArg (· + 1) (dpa_len t)
theorem evd_of {d : PyData} (h : Ev te σ H v) (hd : ∀ H1, Ex H H1 → Dp K H1 v d) : EvD K te σ H d := fun H1 e Q q => h H1 e Q fun H2 e2 => q v H2 e2 (hd H2 (e.trans e2))
theorem evd_int {i : Int} (h : Ev te σ H (.int i)) : EvD K te σ H (.int i) := evd_of h fun _ _ => .int i
theorem evd_bl {b : Bool} (h : Ev te σ H (.bl b)) : EvD K te σ H (.bool b) := evd_of h fun _ _ => .bl b
theorem evd_str {z : Str} (h : Ev te σ H (.str z)) : EvD K te σ H (.str z) := evd_of h fun _ _ => .str z
theorem evd_non (h : Ev te σ H .non) : EvD K te σ H .none := evd_of h fun _ _ => .non
theorem evda_nil : EvDA K tNil σ H [] := fun H1 _ _ q => q [] H1 (Ex.refl H1) .nil
theorem evda_cons {d : PyData} {ds : List PyData} {tr : TA} (h : EvD K te σ H d) (hr : EvDA K tr σ H ds) : EvDA K (tCons te tr) σ H (d :: ds) := fun H1 e Q q =>
  h H1 e _ fun v H2 e2 hv => hr H2 (e.trans e2) _ fun vs H3 e3 hs => q (v :: vs) H3 (e2.trans e3) (.cons (dp_ex e3 hv) hs)
theorem evd_tup {ds : List PyData} {ts : TA} (h : EvDA K ts σ H ds) (hl : ds.length ≤ 100000) : EvD K (tTup ts) σ H (.tuple ds) := fun H1 e Q q =>
  h H1 e _ fun vs H2 e2 hs => ⟨by rw [dpa_len hs]; exact sz_of hl, fun p hp => q _ _ (e2.trans (Ex.new hp)) (.tup (st_of upd_same) (dpa_ex (Ex.new hp) hs))⟩
theorem evd_lst {ds : List PyData} {ts : TA} (h : EvDA K ts σ H ds) (hl : ds.length ≤ 100000) : EvD K (tLst ts) σ H (.list ds) := fun H1 e Q q =>
  h H1 e _ fun vs H2 e2 hs => ⟨by rw [dpa_len hs]; exact sz_of hl, fun p hp => q _ _ (e2.trans (Ex.new hp)) (.lst (sq_of upd_same) (dpa_ex (Ex.new hp) hs))⟩
theorem ev_eqD {d e : PyData} (h1 : EvD K ta σ H d) (h2 : EvD K tb σ H e) (s1 : SeqAt.shaped d = true) (s2 : SeqAt.shaped e = true) : Ev (tOp (rEqD K) ta tb) σ H (.bl (PyData.eqv d e)) := fun H1 x Q q =>
  h1 H1 x _ fun v H2 x2 hv => h2 H2 (x.trans x2) _ fun u H3 x3 hu => ⟨d, e, dp_ex x3 hv, hu, s1, s2, q H3 (x2.trans x3)⟩
theorem ev_neD {d e : PyData} (h1 : EvD K ta σ H d) (h2 : EvD K tb σ H e) (s1 : SeqAt.shaped d = true) (s2 : SeqAt.shaped e = true) : Ev (tOp (rNeD K) ta tb) σ H (.bl (!PyData.eqv d e)) := fun H1 x Q q =>
  h1 H1 x _ fun v H2 x2 hv => h2 H2 (x.trans x2) _ fun u H3 x3 hu => ⟨d, e, dp_ex x3 hv, hu, s1, s2, q H3 (x2.trans x3)⟩
/-! ### dicts laid on the way -/
def EvPs (trs : List (TE × TE)) (σ : L2.St) (H : Hp) (ps : List (V × V)) : Prop := ∀ H1, Ex H H1 → ∀ Q : List (V × V) → Hp → Prop, (∀ H2, Ex H1 H2 → Q ps H2) → tPairs trs σ H1 Q
theorem eps_nil : EvPs [] σ H [] := fun H1 _ _ q => q H1 (Ex.refl H1)
theorem eps_cons {trs : List (TE × TE)} {ps : List (V × V)} (h1 : Ev ta σ H x) (h2 : Ev tb σ H y) (hr : EvPs trs σ H ps) : EvPs ((ta, tb) :: trs) σ H ((x, y) :: ps) := fun H1 e Q q =>
  h1 H1 e _ fun H2 e2 => h2 H2 (e.trans e2) _ fun H3 e3 => hr H3 ((e.trans e2).trans e3) _ fun H4 e4 => q H4 ((e2.trans e3).trans e4)
def EvK (te : TE) (σ : L2.St) (H : Hp) (kvs : List (Key × V)) : Prop := ∀ H1, Ex H H1 → ∀ Q : VK, (∀ p H2, H1 p = none → Ex H1 H2 → H2 p = some (.dK kvs) → Q (.ref p) H2) → te σ H1 Q
theorem ek_disp {trs : List (TE × TE)} {ps : List (V × V)} (kvs : List (Key × V)) (h : EvPs trs σ H ps) (e : ps = kvs.map fun kv => (kV kv.1, kv.2)) (hl : kvs.length ≤ 15) : EvK (tDisp trs) σ H (mergeK [] kvs) := fun H1 x Q q p hp =>
  h (upd H1 p (.dK [])) (x.trans (Ex.new hp)) _ fun H2 x2 => ⟨x2 _ _ upd_same, kvs, e, hl, q p _ hp (fun a o ha => by rw [upd_ne (ne_of_none ha hp)]; exact x2 _ _ (Ex.new hp _ _ ha)) upd_same⟩
theorem ev_dgetK {kvs : List (Key × V)} {k : Key} (h1 : EvK ta σ H kvs) (h2 : Ev tb σ H (kV k)) (hv : valV kvs k = some v) : Ev (tDGet ta tb) σ H v := fun H1 e Q q =>
  h1 H1 e _ fun p H2 hp e2 h => h2 H2 (e.trans e2) _ fun H3 e3 => ⟨p, v, rfl, by rw [← hv]; exact DGet.k (e3 _ _ h), q H3 (e2.trans e3)⟩
/-! ### sorted ints, an item of a new list -/
theorem el_sorted {tl : TE} {ns ms : List Int} (h : EvL tl σ H (ns.map V.int)) (hl : ns.length < 64) (hp : ms.Perm ns) (hs : ms.Pairwise (· ≤ ·)) : EvL (tCB (rSorted K) (tCons tl tNil)) σ H (ms.map V.int) := fun H1 e Q q =>
  h H1 e _ fun p H2 hp2 e2 h2 => ⟨p, ns, rfl, sq_of h2, hl, fun ns' a hp' hs' ha => by
    have z : ns' = ms := PySem.W.ksm_same (hp'.trans hp.symm) hs' hs
    rw [z]
    exact q a _ (fresh_back e2 ha) (e2.trans (Ex.new ha)) upd_same⟩
theorem ev_ixN {xs : List V} {i : Int} (h : EvL ta σ H xs) (hb : ∀ H1, Ex H H1 → Ev tb σ H1 (.int i)) (ha : atI xs i = some v) : Ev (tOp (rIxL K) ta tb) σ H v := ev_opL1 h hb fun p H1 hp _ => rv_ixL (sq_of hp) ha
theorem q_asgDL {p : Addr} {i : Nat} {ts : TA} {R : List V → Prop} (h : DvA p ts σ H R) (hd : Dice p H) (hl : ∀ vs, R vs → vs.length ≤ 100000) (k : ∀ l xs H1, R xs → Exd p H H1 → Dice p H1 → H1 l = some (.lst xs) → l ≠ p → tz D (σ.set i (some (.ref l))) H1) : tSeq (tAsg (tLst ts) (gName i)) tz D σ H :=
  h H (Exd.refl p H) hd _ fun xs H1 hx e1 d1 => ⟨sz_of (hl xs hx), fun l hl => k l xs _ hx (e1.trans (Exd.of (Ex.new hl))) (d1.ex (Ex.new hl)) upd_same (d1.ne hl)⟩
/-- xs + [drawn things]: a new list of both -/
theorem cat_go {p : Addr} {ts : TA} {R : List V → Prop} {l : Addr} {i : Nat} {xs : List V} {Q : VK} (h : DvA p ts σ H R) (hd : Dice p H) (hx : H l = some (.lst xs)) (hlp : l ≠ p) (hi : σ[i]? = some (some (.ref l))) (hl : ∀ ys, R ys → xs.length + ys.length ≤ 100000)
    (k : ∀ ys l4 H', R ys → Exd p H H' → Dice p H' → H' l4 = some (.lst (xs ++ ys)) → l4 ≠ p → Q (.ref l4) H') : tOp rCat (tVar i) (tLst ts) σ H Q :=
  ⟨.ref l, hi, h H (Exd.refl p H) hd _ fun ys H3 hy e3 d3 => ⟨sz_of (Nat.le_trans (Nat.le_add_left _ _) (hl ys hy)), fun l2 hl2 => ⟨l, l2, xs, ys, rfl, rfl, Ex.new hl2 _ _ (e3 _ _ hlp hx), upd_same, sz_of (hl ys hy), fun l4 hl4 =>
    k ys l4 _ hy (e3.trans ((Exd.of (Ex.new hl2)).trans (Exd.of (Ex.new hl4)))) ((d3.ex (Ex.new hl2)).ex (Ex.new hl4)) upd_same ((d3.ex (Ex.new hl2)).ne hl4)⟩⟩⟩
/-- a if t else b, as a test -/
def tIfT (t u1 u2 : TT) : TT := fun σ H Q => t σ H fun c H1 => if c = true then u1 σ H1 Q else u2 σ H1 Q
theorem pt_ifExp {X : Cx} {c a b : Expr} {pos : Pos} {tA t1 t2 : TT} (hc : PT X c tA) (ha : PT X a t1) (hb : PT X b t2) : PT X (.IfExp c a b pos) (tIfT tA t1 t2) := by
  refine ⟨fun pins s σ H Q I h => ?_⟩
  refine isTrue_IfExp (thn (hc.run pins s σ H _ I h) fun d s1 ⟨H1, I1, q1⟩ => ?_)
  cases d with
  | true => exact ha.run pins s1 σ H1 Q I1 q1
  | false => exact hb.run pins s1 σ H1 Q I1 q1
theorem et_ifT {u1 u2 : TT} {b c : Bool} (h : EvT t σ H b) (h1 : b = true → EvT u1 σ H c) (h2 : b = false → EvT u2 σ H c) : EvT (tIfT t u1 u2) σ H c := fun H1 e Q q => h H1 e _ fun H2 e2 => by
  cases b with
  | true =>
    rw [if_pos rfl]
    exact h1 rfl H2 (e.trans e2) Q fun H3 e3 => q H3 (e2.trans e3)
  | false =>
    rw [if_neg Bool.false_ne_true]
    exact h2 rfl H2 (e.trans e2) Q fun H3 e3 => q H3 (e2.trans e3)
/-- a, b = a new tuple of two -/
theorem q_asg2U {i j : Nat} {v1 v2 : V} (h : EvU te σ H [v1, v2]) (k : ∀ H1, Ex H H1 → tz D ((σ.set i (some v1)).set j (some v2)) H1) : tSeq (tAsg te (gTup K 2 (gCons (gName i) (gCons (gName j) gNil)))) tz D σ H :=
  h H (Ex.refl H) _ fun p H1 hp e hl => ⟨p, [v1, v2], rfl, st_of hl, rfl, v1, [v2], rfl, v2, [], rfl, rfl, k H1 e⟩
/-! ### tests that hang on the dice, calls with a new tuple -/
def DvT (p : Addr) (t : TT) (σ : L2.St) (H : Hp) : Prop := ∀ H1, Exd p H H1 → Dice p H1 → ∀ Q : Bool → Hp → Prop, (∀ b H2, Exd p H1 H2 → Dice p H2 → Q b H2) → t σ H1 Q
def IntV (v : V) : Prop := ∃ n : Int, v = .int n
theorem dvt_eq {p : Addr} {k : Int} (h : Dv p ta σ H IntV) : DvT p (tTest (tOp rEq ta (tC (.int k)))) σ H := fun H1 e d Q q =>
  h H1 e d _ fun v H2 hv e2 d2 => by
    obtain ⟨n, rfl⟩ := hv
    exact ⟨rfl, _, rfl, q _ H2 e2 d2⟩
theorem dv_if {p : Addr} {R : V → Prop} (h : DvT p t σ H) (h1 : Dv p ta σ H R) (h2 : Dv p tb σ H R) : Dv p (tIf t ta tb) σ H R := fun H1 e d Q q =>
  h H1 e d _ fun b H2 e2 d2 => by
    cases b with
    | true =>
      rw [if_pos rfl]
      exact h1 H2 (e.trans e2) d2 Q fun v H3 r e3 d3 => q v H3 r (e2.trans e3) d3
    | false =>
      rw [if_neg Bool.false_ne_true]
      exact h2 H2 (e.trans e2) d2 Q fun v H3 r e3 d3 => q v H3 r (e2.trans e3) d3
theorem dv_op {p : Addr} {R1 R2' R : V → Prop} (h1 : Dv p ta σ H R1) (h2 : Dv p tb σ H R2') (hr : ∀ x y H1, R1 x → R2' y → ∃ z, RV r x y H1 z ∧ R z) : Dv p (tOp r ta tb) σ H R := fun H1 e d Q q =>
  h1 H1 e d _ fun x H2 hx e2 d2 => h2 H2 (e.trans e2) d2 _ fun y H3 hy e3 d3 => by
    obtain ⟨z, hz, rz⟩ := hr x y H3 hx hy
    exact hz H3 (Ex.refl H3) Q fun H4 e4 => q z H4 rz ((e2.trans e3).trans (Exd.of e4)) (d3.ex e4)
theorem dv_c {p : Addr} {R : V → Prop} (hr : R v) : Dv p (tC v) σ H R := dv_ev (fun H1 _ _ => ev_c) hr
theorem dv_var {p : Addr} {i : Nat} {R : V → Prop} (h : σ[i]? = some (some v)) (hr : R v) : Dv p (tVar i) σ H R := dv_ev (fun H1 _ _ => ev_var h) hr
theorem ev_callU {ok : List V → Hp → V → Prop} {E : XK} {xs : List V} (h1 : Ev ta σ H x) (h2 : EvU tb σ H xs) (ho : ∀ p H1, Ex H H1 → H1 p = some (.tup xs) → ok [x, .ref p] H1 z) : Ev (tCall (Pure ok) [] E (tCons ta (tCons tb tNil))) σ H z := fun H1 e Q q =>
  h1 H1 e _ fun H2 e2 => h2 H2 (e.trans e2) _ fun p H3 hp e3 h3 => ⟨z, ho p H3 ((e.trans e2).trans e3) h3, fun H4 e4 => q H4 ((e2.trans e3).trans e4)⟩
/-- a call that draws, whose last argument is a new list -/
theorem dv_pickL {ok : List V → Hp → Addr → (V → Prop) → Prop} {E : XK} {p : Addr} {R : V → Prop} {xs : List V} {i : Nat} (hs : σ[i]? = some (some (.ref p))) (h : ∀ H1, Exd p H H1 → Dice p H1 → EvL tb σ H1 xs) (ho : ∀ l H1, Exd p H H1 → Dice p H1 → l ≠ p → H1 l = some (.lst xs) → ok [.ref p, .ref l] H1 p R) :
    Dv p (tCall (Draws ok) [] E (tCons (tVar i) (tCons tb tNil))) σ H R := fun H1 e d Q q => ⟨.ref p, hs, h H1 e d H1 (Ex.refl H1) _ fun l H2 hl e2 h2 => ⟨p, R, ho l H2 (e.trans (Exd.of e2)) (d.ex e2) (d.ne hl) h2, d.ex e2, fun v H3 r e3 d3 => q v H3 r ((Exd.of e2).trans e3) d3⟩⟩
theorem q_asgDv {p : Addr} {i : Nat} {R : V → Prop} (h : Dv p te σ H R) (hd : Dice p H) (k : ∀ v H1, R v → Exd p H H1 → Dice p H1 → tz D (σ.set i (some v)) H1) : tSeq (tAsg te (gName i)) tz D σ H := h H (Exd.refl p H) hd _ fun v H1 r e1 d1 => k v H1 r e1 d1
theorem s_retDv {p : Addr} {R : V → Prop} (h : Dv p te σ H R) (hd : Dice p H) (k : ∀ v H1, R v → Exd p H H1 → Dice p H1 → D.rt v H1) : tRet te D σ H := h H (Exd.refl p H) hd _ fun v H1 r e1 d1 => k v H1 r e1 d1
theorem q_par {ts : TA} {i j : Nat} {v1 v2 : V} (h : EvA ts σ H [v1, v2]) (k : ∀ H1, Ex H H1 → tz D ((σ.set i (some v1)).set j (some v2)) H1) : tSeq (tPar i j ts) tz D σ H := h H (Ex.refl H) _ fun H1 e1 => ⟨v1, v2, rfl, k H1 e1⟩
theorem q_parDv {p : Addr} {i j : Nat} {R1 R2' : V → Prop} (h1 : Dv p ta σ H R1) (h2 : Dv p tb σ H R2') (hd : Dice p H) (k : ∀ v1 v2 H1, R1 v1 → R2' v2 → Exd p H H1 → Dice p H1 → tz D ((σ.set i (some v1)).set j (some v2)) H1) : tSeq (tPar i j (tCons ta (tCons tb tNil))) tz D σ H :=
  h1 H (Exd.refl p H) hd _ fun v1 H1 r1 e1 d1 => h2 H1 e1 d1 _ fun v2 H2 r2 e2 d2 => ⟨v1, v2, rfl, k v1 v2 H2 r1 r2 (e1.trans e2) d2⟩
/-! ### tests that are known, whatever the dice did -/
def DvF (p : Addr) (t : TT) (σ : L2.St) (H : Hp) (b : Bool) : Prop := ∀ H1, Exd p H H1 → Dice p H1 → ∀ Q : Bool → Hp → Prop, (∀ H2, Exd p H1 H2 → Dice p H2 → Q b H2) → t σ H1 Q
theorem dvf_et {p : Addr} {b : Bool} (h : ∀ H1, Exd p H H1 → Dice p H1 → EvT t σ H1 b) : DvF p t σ H b := fun H1 e d Q q => h H1 e d H1 (Ex.refl H1) Q fun H2 e2 => q H2 (Exd.of e2) (d.ex e2)
theorem dvf_or {p : Addr} {b : Bool} (h1 : DvF p t σ H false) (h2 : DvF p u σ H b) : DvF p (tOr t u) σ H b := fun H1 e d Q q => h1 H1 e d _ fun H2 e2 d2 => by
  rw [if_neg Bool.false_ne_true]
  exact h2 H2 (e.trans e2) d2 Q fun H3 e3 d3 => q H3 (e2.trans e3) d3
theorem dvf_not {p : Addr} {b : Bool} (h : DvF p t σ H b) : DvF p (tNot t) σ H (!b) := fun H1 e d Q q => h H1 e d _ fun H2 e2 d2 => q H2 e2 d2
theorem dvf_B {p : Addr} {b : Bool} (h : Dv p te σ H (fun v => v = .bl b)) : DvF p (tB te) σ H b := fun H1 e d Q q => h H1 e d _ fun v H2 hv e2 d2 => ⟨b, hv, q H2 e2 d2⟩
theorem q_whenF {p : Addr} (h : DvF p t σ H false) (hd : Dice p H) (k : ∀ H1, Exd p H H1 → Dice p H1 → tz D σ H1) : tSeq (tIfS t tu tNext) tz D σ H := h H (Exd.refl p H) hd _ fun H1 e1 d1 => by
  rw [if_neg Bool.false_ne_true]
  exact k H1 e1 d1
/-! ### tuples, whatever the dice did -/
def DvU (K : PySem.W.Frag) (p : Addr) (te : TE) (σ : L2.St) (H : Hp) (R : List V → Prop) : Prop := ∀ H1, Exd p H H1 → Dice p H1 → ∀ Q : VK, (∀ b xs H2, R xs → b ≠ p → Exd p H1 H2 → Dice p H2 → SqT K H2 b xs → Q (.ref b) H2) → te σ H1 Q
theorem Exd.tt {p a : Addr} {xs : List V} (e : Exd p H H') (n : a ≠ p) (h : SqT K H a xs) : SqT K H' a xs := by
  rcases h with (h | ⟨o, h⟩) | h
  · exact .inl (.inl (e _ _ n h))
  · exact .inl (.inr ⟨o, e _ _ n h⟩)
  · exact .inr h
theorem du_sl {p a : Addr} {i : Nat} {xs : List V} {lo hi : Option Int} {tl th : TO} (hs : σ[i]? = some (some (.ref a))) (hap : a ≠ p) (hT : SqT K H a xs) (hl : ∀ H1, EvO tl σ H1 lo) (hh : ∀ H1, EvO th σ H1 hi) (hc : HT.sIx xs.length 0 lo = 0 ∧ HT.sIx xs.length xs.length hi = xs.length → cutV xs lo hi = xs) :
    DvU K p (tSl (rSlA K) (tVar i) tl th) σ H (fun ys => ys = cutV xs lo hi) := fun H1 e d Q q => ⟨.ref a, hs, hl H1 H1 (Ex.refl H1) _ fun H2 e2 => hh H2 H2 (Ex.refl H2) _ fun H3 e3 => ⟨a, xs, rfl, ex_t (e2.trans e3) (e.tt hap hT),
  fun z => q a xs H3 (hc z).symm hap (Exd.of (e2.trans e3)) (d.ex (e2.trans e3)) (ex_t (e2.trans e3) (e.tt hap hT)),
  fun _ b hb => q b _ _ rfl ((d.ex (e2.trans e3)).ne hb) (Exd.of ((e2.trans e3).trans (Ex.new hb))) (d.ex ((e2.trans e3).trans (Ex.new hb))) (st_of upd_same)⟩⟩
theorem du_one {p : Addr} {R : V → Prop} (h : Dv p te σ H R) : DvU K p (tTup (tCons te tNil)) σ H (fun ys => ∃ v, ys = [v] ∧ R v) := fun H1 e d Q q => h H1 e d _ fun v H2 hv e2 d2 => ⟨by show 1 ≤ sizeLine; decide, fun b hb => q b [v] _ ⟨v, rfl, hv⟩ (d2.ne hb) (e2.trans (Exd.of (Ex.new hb))) (d2.ex (Ex.new hb)) (st_of upd_same)⟩
theorem du_cat {p : Addr} {R1 R2' R : List V → Prop} (h1 : DvU K p ta σ H R1) (h2 : DvU K p tb σ H R2') (hr : ∀ xs ys, R1 xs → R2' ys → R (xs ++ ys) ∧ xs.length + ys.length ≤ 100000) : DvU K p (tOp (rCatA K) ta tb) σ H R := fun H1 e d Q q =>
  h1 H1 e d _ fun a xs H2 hx ha e2 d2 h2x => h2 H2 (e.trans e2) d2 _ fun b ys H3 hy hb e3 d3 h3y => by
    obtain ⟨r1, r2⟩ := hr xs ys hx hy
    refine ⟨a, b, xs, ys, rfl, rfl, e3.tt ha h2x, h3y, sz_of r2, fun z => ?_, fun _ z => ?_, fun _ _ c hc => ?_⟩
    · subst z
      exact q b ys H3 r1 hb (e2.trans e3) d3 h3y
    · subst z
      rw [List.append_nil] at r1
      exact q a xs H3 r1 ha (e2.trans e3) d3 (e3.tt ha h2x)
    · exact q c _ _ r1 (d3.ne hc) ((e2.trans e3).trans (Exd.of (Ex.new hc))) (d3.ex (Ex.new hc)) (st_of upd_same)
theorem q_asgU2 {p : Addr} {i : Nat} {R : List V → Prop} (h : DvU K p te σ H R) (hd : Dice p H) (k : ∀ b xs H1, R xs → b ≠ p → Exd p H H1 → Dice p H1 → SqT K H1 b xs → tz D (σ.set i (some (.ref b))) H1) : tSeq (tAsg te (gName i)) tz D σ H := h H (Exd.refl p H) hd _ fun b xs H1 hx hb e1 d1 hT => k b xs H1 hx hb e1 d1 hT
def rTupL (K : PySem.W.Frag) : List V → Hp → VK → Prop := fun xs H Q => ∃ p ys, xs = [.ref p] ∧ SqL K H p ys ∧ ∀ l, H l = none → Q (.ref l) (upd H l (.tup ys))
theorem c_tupL {X : Cx} : CallR X (.type "tuple") (rTupL X.K) := callR_mono call_tuple_of fun vs H Q h => by
  obtain ⟨p, ys, e, hs, k⟩ := h
  exact ⟨p, ys, e, .inl ⟨hs, k⟩⟩
/-- [e for x in range(n)], each e drawn -/
theorem dl_lcR {p : Addr} {n j : Nat} {vs : List Nat} {R : V → Prop} {Q : VK} (hw : ∀ x, wipe ((wipe σ vs).set j (some x)) vs = wipe σ vs) (hn : n ≤ 1000) (he : ∀ i : Nat, i < n → Dv p te ((wipe σ vs).set j (some (.int (0 + (i : Int))))) H R) (hd : Dice p H)
    (k : ∀ l xs H2, (xs.length = n ∧ ∀ v ∈ xs, R v) → l ≠ p → Exd p H H2 → Dice p H2 → H2 l = some (.lst xs) → Q (.ref l) H2) : tLc (iRng1 (tCons (tC (.int n)) tNil)) (gName j) tYes te vs σ H Q :=
  ⟨n, rfl, by omega, by omega, fun Dl hD => by
    have hDp : Dl ≠ p := hd.ne hD
    rw [show ((n : Int).toNat) = n from Int.toNat_natCast n]
    refine lc_range (fun i H' => Exd p H H' ∧ Dice p H' ∧ ∃ acc, H' Dl = some (.lst acc) ∧ acc.length = i ∧ ∀ v ∈ acc, R v) ⟨Exd.of (Ex.new hD), hd.ex (Ex.new hD), [], upd_same, rfl, fun _ h => by cases h⟩ ?_ ?_
    · rintro i H' hi ⟨e', d', acc, hacc, hlen, hR⟩
      refine ⟨hw _, ?_⟩
      unfold tYes
      dsimp only
      rw [if_pos rfl]
      refine he i hi H' e' d' _ fun v H4 hv e4 d4 => ⟨acc, e4 _ _ hDp hacc, sz_lt (by omega), fun a o ha ho => ?_, ?_, acc ++ [v], upd_same, by rw [List.length_append, hlen]; rfl, fun x hx => ?_⟩
      · rw [upd_ne (ne_of_none ho hD)]
        exact e4 _ _ ha (e' _ _ ha ho)
      · obtain ⟨x, y, z, h⟩ := d4
        exact ⟨x, y, z, by rw [upd_ne (Ne.symm hDp)]; exact h⟩
      · rcases List.mem_append.mp hx with z | z
        · exact hR x z
        · rw [List.mem_singleton.mp z]; exact hv
    · rintro H' ⟨e', d', acc, hacc, hlen, hR⟩
      exact k Dl acc H' ⟨hlen, hR⟩ hDp e' d' hacc⟩
theorem du_tupLc {p : Addr} {n j : Nat} {vs : List Nat} {R : V → Prop} (hw : ∀ x, wipe ((wipe σ vs).set j (some x)) vs = wipe σ vs) (hn : n ≤ 1000) (he : ∀ i : Nat, i < n → Dv p te ((wipe σ vs).set j (some (.int (0 + (i : Int))))) H R) :
    DvU K p (tCB (rTupL K) (tCons (tLc (iRng1 (tCons (tC (.int n)) tNil)) (gName j) tYes te vs) tNil)) σ H (fun ys => ys.length = n ∧ ∀ v ∈ ys, R v) := fun H1 e d Q q =>
  dl_lcR (Q := fun x H2 => rTupL K [x] H2 Q) hw hn (fun i hi H2 e2 => he i hi H2 (e.trans e2)) d fun l xs H2 hx hl e2 d2 h2 => ⟨l, xs, rfl, sq_of h2, fun b hb => q b xs _ hx (d2.ne hb) (e2.trans (Exd.of (Ex.new hb))) (d2.ex (Ex.new hb)) (st_of upd_same)⟩
theorem q_parU {p : Addr} {i j : Nat} {R1 : V → Prop} {R2' : List V → Prop} (h1 : Dv p ta σ H R1) (h2 : DvU K p tb σ H R2') (hd : Dice p H) (k : ∀ v1 b xs H1, R1 v1 → R2' xs → b ≠ p → Exd p H H1 → Dice p H1 → SqT K H1 b xs → tz D ((σ.set i (some v1)).set j (some (.ref b))) H1) : tSeq (tPar i j (tCons ta (tCons tb tNil))) tz D σ H :=
  h1 H (Exd.refl p H) hd _ fun v1 H1 r1 e1 d1 => h2 H1 e1 d1 _ fun b xs H2 hx hb e2 d2 hT => ⟨v1, .ref b, rfl, k v1 b xs H2 r1 hx hb (e1.trans e2) d2 hT⟩
theorem s_retCallDv {p : Addr} {ok : List V → Hp → V → Prop} {E : XK} {R : V → Prop} {i j : Nat} {x1 x2 : V} (h1 : σ[i]? = some (some x1)) (h2 : σ[j]? = some (some x2)) (h3 : Dv p te σ H R) (hd : Dice p H) (k : ∀ v H1, R v → Exd p H H1 → Dice p H1 → ok [x1, x2, v] H1 z) (q : ∀ H1, Exd p H H1 → Dice p H1 → D.rt z H1) :
    tRet (tCall (Pure ok) [] E (tCons (tVar i) (tCons (tVar j) (tCons te tNil)))) D σ H := ⟨x1, h1, x2, h2, h3 H (Exd.refl p H) hd _ fun v H1 r e1 d1 => ⟨z, k v H1 r e1 d1, fun H2 e2 => q H2 (e1.trans (Exd.of e2)) (d1.ex e2)⟩⟩
theorem s_whenF {p : Addr} (h : DvF p t σ H false) (hd : Dice p H) (k : ∀ H1, Exd p H H1 → Dice p H1 → D.nx σ H1) : tIfS t tu tNext D σ H := h H (Exd.refl p H) hd _ fun H1 e1 d1 => by
  rw [if_neg Bool.false_ne_true]
  exact k H1 e1 d1
/-- what the dice did is nothing to a heap that has not got them -/
theorem Exd.out {p : Addr} {H0 : Hp} (e : Exd p H H') (e0 : Ex H0 H) (h : H0 p = Option.none) : Ex H0 H' := fun a o ho => e a o (fun z => by rw [z, h] at ho; cases ho) (e0 a o ho)
theorem dpa_ints : ∀ ns : List Int, DpAll K H (ns.map V.int) (ns.map PyData.int)
  | [] => .nil
  | n :: ns => .cons (.int n) (dpa_ints ns)
theorem evd_ints {ns : List Int} (h : EvL te σ H (ns.map V.int)) : EvD K te σ H (.list (ns.map PyData.int)) := fun H1 e Q q => h H1 e Q fun p H2 _ e2 h2 => q _ H2 e2 (.lst (sq_of h2) (dpa_ints ns))
end
end Vr
set_option Elab.async false
set_option linter.all false
set_option maxRecDepth 100000
set_option maxHeartbeats 4000000
namespace En
open PySem PySem.Spec PyProof.Rows L2 Evl Vr
theorem meets_newT (l : Addr) (items : Array Value) :
    Meets (Builtin.«enumerate.__new__» ⟨[.type "enumerate", .ref l], []⟩) (fun _ R s => s.heap.IsTuple l items ∧
      R (.ok (.ret (.ref (s.heap.push { cls := .type "tuple_iterator", data := .fields #[.ref l, .int 0 0] }).objs.size)))
        { s with heap := (s.heap.push { cls := .type "tuple_iterator", data := .fields #[.ref l, .int 0 0] }).push { cls := .type "enumerate", data := .fields #[.none, .bool false, .ref s.heap.objs.size, rawInt 0, .none, .none] } }) :=
  .of_wp fun prog w A R s h => by
    obtain ⟨hp, g, d, tk, os⟩ := s; obtain ⟨hl, h⟩ := h
    have hsub := sub_enumerate
    have q1 : ∀ {A' : Around} {E : Value → Shared → Prop} {Q : Value → Shared → Prop}, Q (.ref hp.objs.size) ⟨hp.push { cls := .type "tuple_iterator", data := .fields #[.ref l, .int 0 0] }, g, d, tk, os⟩ → wpAny (model prog w) A' (pyIter (.ref l)) Q E ⟨hp, g, d, tk, os⟩ :=
      fun q => wpAny_pyIter_tuple (s := ⟨hp, g, d, tk, os⟩) hl q
    wp_walk using q1
    refine wpAny_stack_any fun st => wpAny_pure ?_
    split
    · rename_i c _ _ _ _ _
      cases (c == Value.type "enumerate")
      · wp_walk using q1
        exact ⟨_, rfl, h⟩
      · wp_walk using q1
        exact ⟨_, rfl, h⟩
    · wp_walk using q1
      exact ⟨_, rfl, h⟩
theorem call_enumT {prog : Program} {w : World} {A : Around} {E : Value → Shared → Prop} {s : Shared} {l : Addr} {items : Array Value} {Q : Value → Shared → Prop} (hL : s.heap.IsTuple l items)
    (h : ∀ h', IsEnum h' (s.heap.objs.size + 1) s.heap.objs.size 0 .none → h'.IsTupleIter s.heap.objs.size l 0 → h'.objs.size = s.heap.objs.size + 2 →
      (∀ b o, s.heap.get? b = some o → h'.get? b = some o) → Q (.ref (s.heap.objs.size + 1)) { s with heap := h' }) :
    wpAny (model prog w) A (call (.type "enumerate") [.ref l]) Q E s := by
  refine callType_new F.called_enumerate (by decide) (F.typeCall_enumerate_1 _) (F.newCall_enumerate_1 _) (fun obj => F.args_object_init_2 obj _) F.entry_enumerate_new
    (meets_newT l items) ⟨hL, ?_⟩
  have hz : (s.heap.push { cls := .type "tuple_iterator", data := .fields #[.ref l, .int 0 0] }).objs.size = s.heap.objs.size + 1 := Heap.size_push ..
  show _ ∧ _
  rw [hz]
  have he : IsEnum ((s.heap.push { cls := .type "tuple_iterator", data := .fields #[.ref l, .int 0 0] }).push
      { cls := .type "enumerate", data := .fields #[.none, .bool false, .ref s.heap.objs.size, rawInt 0, .none, .none] }) (s.heap.objs.size + 1) s.heap.objs.size 0 .none := by
    have := Heap.get?_push_size (s.heap.push { cls := .type "tuple_iterator", data := .fields #[.ref l, .int 0 0] })
      (o := { cls := .type "enumerate", data := .fields #[.none, .bool false, .ref s.heap.objs.size, rawInt 0, .none, .none] }) rfl
    rw [hz] at this; exact this
  refine ⟨⟨_, he, rfl⟩, h _ he ⟨_, Heap.get?_push_of_some _ (Heap.get?_push_size _ rfl), rfl, rfl⟩ (by rw [Heap.size_push, hz]) fun b o x => Heap.get?_push_of_some _ (Heap.get?_push_of_some _ x)⟩
/-- the tuple at a, each item in a new pair -/
def IteT (K : PySem.W.Frag) (a : Addr) : It :=
  ⟨fun i H => ∃ (xs : List V) (x : V), SqT K H a xs ∧ xs[i]? = some x, fun i H v H' => ∃ T x, v = .ref T ∧ H T = none ∧ H' = upd H T (.tup [.int (i : Nat), x]) ∧ ∀ xs, SqT K H a xs → xs[i]? = some x, fun i H => ∃ xs : List V, SqT K H a xs ∧ xs.length ≤ i⟩
theorem turn_enumT {P : Program} {w : World} {K : PySem.W.Frag} {elts : List Expr} {kk : Nat} {tpos : Pos} (a e it : Addr) :
    Turn P w K (.Tuple elts kk tpos) (IteT K a) [e, it] e (fun i h => (∃ old, IsEnum h e it ((i : Nat) : Int) old) ∧ h.IsTupleIter it a i ∧ e ≠ it) where
  mem := by simp
  obj := fun i h st b hb => by
    obtain ⟨⟨old, he⟩, ⟨o, ho, hc, hd⟩, _⟩ := st
    have e' : b = e ∨ b = it := by simpa using hb
    rcases e' with z | z
    · rw [z]; exact ⟨_, he, fun v q => nomatch q⟩
    · rw [z]; exact ⟨o, ho, fun v q => by rw [hd] at q; cases q⟩
  keep := fun i h h' st k => let ⟨⟨old, he⟩, hi, hne⟩ := st; ⟨⟨old, k e (by simp) _ he⟩, hi.at fun o q => k it (by simp) o q, hne⟩
  item := by
    intro X hP hw hK hc i pins s σ H E I hf st hg
    subst hP hw hK
    obtain ⟨⟨old, he⟩, hit, hne⟩ := st
    obtain ⟨xs, x, hq, hx⟩ := hg
    obtain ⟨its, rv, p, hz⟩ := I.tuple hq
    have p : s.heap.IsTuple a its.toArray := p
    obtain ⟨u, hu, ru⟩ := rv.get hx
    have hel : e < s.heap.objs.size := Heap.lt_size he
    have hil : it < s.heap.objs.size := by obtain ⟨_, q, _⟩ := hit; exact Heap.lt_size q
    have hai : a ≠ it := by
      intro z
      obtain ⟨o, ho, hc1, _⟩ := hit
      obtain ⟨o2, ho2, hc2, _⟩ := p
      rw [z, ho] at ho2
      cases ho2
      rw [hc1] at hc2
      exact absurd hc2 (by decide)
    have hae : e ≠ a := by
      intro z
      obtain ⟨o2, ho2, hc2, _⟩ := p
      have he' : s.heap.get? e = _ := he
      rw [z, ho2] at he'
      cases he'
      exact absurd (show Value.type "enumerate" = Value.type "tuple" from hc2) (by decide)
    have hh : X.A.handled = none := I.ok.hd hc
    have Dr := Draws.tuple (prog := X.prog) (w := X.w) (A := X.A.in1) (by simp [hh]) it a hai its.toArray
    have hlt : i < its.toArray.size := by
      have := (List.getElem?_eq_some_iff.mp hu).1
      simpa using this
    refine wpAny_pyNext_enum_itemD Dr he ⟨hit, p⟩ hlt hne (by simp [hne, hae]) fun x' h' tk hPx ho hit' hT hsz hk => ?_
    have hxu : x' = u := by
      have h1 : its[i]? = some x' := by simpa using hPx
      rw [hu] at h1
      exact (Option.some.inj h1).symm
    subst hxu
    obtain ⟨hit', _⟩ := hit'
    refine ⟨_, rfl, wpAny_letOwnedTupleGo_enum (s := { s with heap := h', toks := tk + 1 }) ho fun h'' he' sb => ?_⟩
    have hT2 : h''.get? s.heap.objs.size = some { cls := .type "tuple", data := .seq #[.int i tk, x'] } := (sb.2 _ (Nat.ne_of_gt hel)).trans hT
    have new : ObjOk X.prog X.w (upd H s.heap.objs.size (.tup [.int (i : Nat), x])) h'' s.heap.objs.size (.tup [.int (i : Nat), x]) :=
      ⟨by show 2 ≤ sizeLine; decide, [.int i tk, x'], .cons ⟨_, rfl⟩ (.cons ru .nil), ⟨_, hT2, rfl, _, rfl⟩⟩
    have I1 : Inv X pins σ (upd H s.heap.objs.size (.tup [.int (i : Nat), x])) { s with heap := h'', toks := tk + 1 } :=
      I.turnedNew (ch := [e, it]) (fun b ob hb q => (sb.2 b (fun z => hb (by simp [z]))).trans (hk b ob (fun z => hb (by simp [z])) (fun z => hb (by simp [z])) q)) hf (Nat.le_refl _) new
    refine ⟨.ref s.heap.objs.size, _, I1, rfl, ⟨_, x, rfl, I.hok.fresh (Nat.le_refl _), rfl, fun ys hy => by rw [I.tuple_inj hy hq]; exact hx⟩, ⟨⟨x', ?_⟩, hit'.at fun o q => (sb.2 it (Ne.symm hne)).trans q, hne⟩, fun b hb => ?_⟩
    · have e1 : ((i + 1 : Nat) : Int) = (i : Int) + 1 := by omega
      rw [e1]; exact he'
    · have hb' : b < s.heap.objs.size := by
        have e' : b = e ∨ b = it := by simpa using hb
        rcases e' with z | z
        · rw [z]; exact hel
        · rw [z]; exact hil
      rw [upd_ne (Nat.ne_of_lt hb')]
      exact (hf b hb).1
  done := by
    intro X hP hw hK hc i pins s σ H E I hf st hg
    subst hP hw hK
    obtain ⟨⟨old, he⟩, hit, hne⟩ := st
    obtain ⟨xs, hq, hx⟩ := hg
    obtain ⟨its, rv, p, hz⟩ := I.tuple hq
    have p : s.heap.IsTuple a its.toArray := p
    obtain ⟨f0, f1, f2, f3, f4, f5⟩ := hf it (by simp)
    have hl := rv.length
    have hT : s.TypeIs (.ref e) "enumerate" := ⟨_, he, rfl⟩
    have hh : X.A.handled = none := I.ok.hd hc
    unfold pyNext
    refine wpAny_bind (wpAny_attempt (wpAny_callSpecial?_slot (name := Str.ofString "__next__") hT F.slot_enumerate_next
      (wpAny_call_entry F.slot_enumerate_next hT F.entry_enumerate_next ?_ (F.args_enumerate_next_1 _))))
    show wpAny _ _ (field (.ref e) 2 >>= _) _ _ _
    refine wpAny_bind (wpAny_field he rfl (x := .ref it) rfl ?_)
    refine wpAny_bind (wpAny_nextOf_tuple_end (by simp [hh]) hit p (by simp; omega) fun h' x he' hx' => ?_)
    obtain ⟨o, ho, hc⟩ := hx'
    refine wpAny_bind (wpAny_isInstance (T := "StopIteration") (b := true) ⟨o, ho, hc⟩ isSubtype_stop ?_)
    exact wpAny_pure ⟨rfl, I.turned (t' := s.toks) (fun b o hb q => he' b o hb q) f0 f1 f3 f4 f5⟩
  self := fun A i s Q E st h => let ⟨⟨_, he⟩, _⟩ := st; wpAny_pyIter_enum he h
def iEnumT (K : PySem.W.Frag) (ta : TA) : TI := fun σ H R => ta σ H fun vs H1 => ∃ a xs, vs = [.ref a] ∧ SqT K H1 a xs ∧ R (IteT K a) H1
theorem pi_enumT {X : Cx} {e : Expr} {ta : TA} {p pos tpos : Pos} {elts : List Expr} {kk : Nat} (hg : Gl X "enumerate") (hm : X.mg "enumerate" = none) (ha : PA X [e] ta) (hs : starEach [e] X.env = [(false, eval e X.env)] := by rfl) :
    PI X (.Tuple elts kk tpos) (.Call (.Name "enumerate" p) [e] [] pos) (iEnumT X.K ta) := by
  refine ⟨fun pins s σ H R I h => ?_⟩
  refine Call_ (ld_blt I hg hm boot_enumerate (PyProof.Rows.callWith_type1 (thn (ha.run pos pins s σ H _ I h) fun us s1 ⟨vs, H1, I1, r1, q1⟩ => ?_) hs rfl))
  obtain ⟨a, xs, ex, hq, q⟩ := q1
  subst ex
  cases r1 with
  | cons r rr =>
    cases rr
    cases r
    obtain ⟨its, rv, p', hz⟩ := I1.tuple hq
    have p' : s1.heap.IsTuple a its.toArray := p'
    refine call_enumT p' fun h' he hit hsz hk => wpAny_pyIter_enum he ?_
    have I2 : Inv X pins σ H1 { s1 with heap := h' } := I1.kept (t' := s1.toks) hk
    refine ⟨s1.heap.objs.size + 1, [s1.heap.objs.size + 1, s1.heap.objs.size], _, _, H1, rfl, I2, turn_enumT a (s1.heap.objs.size + 1) s1.heap.objs.size, ⟨⟨.none, he⟩, hit, Nat.succ_ne_self _⟩, fun b hb => ?_, q⟩
    have e' : b = s1.heap.objs.size + 1 ∨ b = s1.heap.objs.size := by simpa using hb
    have hle : s1.heap.objs.size ≤ b := by
      rcases e' with z | z
      · rw [z]; exact Nat.le_add_right _ _
      · rw [z]; exact Nat.le_refl _
    exact I1.fpOk hle (I1.hok.fresh hle)
theorem walk_enumT {K : PySem.W.Frag} {a : Addr} {xs : List V} : Walk (IteT K a) xs.length (fun H => SqT K H a xs) (YPair (fun i => some (.int (i : Nat))) (fun i => xs[i]?)) := by
  refine ⟨fun i _ hi q => ⟨xs, xs[i], q, by simp [hi]⟩, fun _ q => ⟨xs, q, Nat.le_refl _⟩, fun i H v H' _ q y => ?_⟩
  obtain ⟨T, x, h1, h2, h3, h4⟩ := y
  exact ⟨T, .int (i : Nat), x, h1, h2, h3, rfl, h4 xs q⟩
/-- [e for i, x in enumerate(tuple) if t] -/
theorem el_lcEnumT {σ : L2.St} {H : Hp} {te : TE} {t : TT} {K : PySem.W.Frag} {a : Addr} {xs : List V} {ta : TA} {j l : Nat} {vs : List Nat} (f : Nat → Bool) (v : Nat → V) (h : EvA ta σ H [.ref a]) (hx : SqT K H a xs) (hz : xs.length ≤ 40000)
    (hw : ∀ x y, wipe (((wipe σ vs).set j (some x)).set l (some y)) vs = wipe σ vs)
    (ht : ∀ (i : Nat) (x : V) H1, Ex H H1 → xs[i]? = some x → EvT t (((wipe σ vs).set j (some (.int (i : Nat)))).set l (some x)) H1 (f i)) (he : ∀ (i : Nat) (x : V) H1, Ex H H1 → xs[i]? = some x → f i = true → Ev te (((wipe σ vs).set j (some (.int (i : Nat)))).set l (some x)) H1 (v i)) :
    EvL (tLc (iEnumT K ta) (gTup K 2 (gCons (gName j) (gCons (gName l) gNil))) t te vs) σ H (given xs.length f v) := fun H0 e Q q => h H0 e _ fun H1 e1 => ⟨a, xs, rfl, ex_t (e.trans e1) hx, fun Dl hD =>
  lc_it walk_enumT (Cw H1 f v Dl) ⟨hD, Ex.new hD, upd_same⟩ (fun i H' _ p => ex_t ((e.trans e1).trans p.2.1) hx) (fun i x H' H'' hi p y => by
    obtain ⟨T, y1, y2, rfl, hT, rfl, h3, h4⟩ := y
    have h3 : y1 = .int (i : Nat) := (Option.some.inj h3).symm
    subst h3
    have eT : Ex H' (upd H' T (.tup [.int (i : Nat), y2])) := Ex.new hT
    refine ⟨T, [.int (i : Nat), y2], rfl, st_of upd_same, rfl, .int (i : Nat), [y2], rfl, y2, [], rfl, rfl, hw _ _, ?_⟩
    have p' : Cw H1 f v Dl i (upd H' T (.tup [.int (i : Nat), y2])) := ⟨p.1, p.2.1.trans eT, eT _ _ p.2.2⟩
    exact cw_turn p' (by omega) (ht i y2 H1 (e.trans e1) h4) (fun hf => he i y2 H1 (e.trans e1) h4 hf))
    (fun H' p => q Dl H' (fresh_back e1 p.1) (e1.trans p.2.1) p.2.2)⟩
end En
set_option Elab.async false
set_option linter.all false
set_option maxRecDepth 100000
set_option maxHeartbeats 4000000
namespace Tx
open PySem PySem.Builtin.Str PySem.StrLaws
/-! texts as lists of signs -/
abbrev S (l : List Nat) : Str := ⟨l.toArray⟩
theorem S_toList (l : List Nat) : (S l).cps.toList = l := rfl
theorem S_of (z : Str) : S z.cps.toList = z := by cases z; rfl
theorem S_len (l : List Nat) : (S l).length = l.length := by simp [Str.length]
theorem S_app (a b : List Nat) : S a ++ S b = S (a ++ b) := by
  apply Str.ext'
  simp [Str.cps_append]
theorem S_inj {a b : List Nat} (h : S a = S b) : a = b := by
  have := congrArg (fun z : Str => z.cps.toList) h
  exact this
def splitL (c : Nat) : List Nat → List (List Nat)
  | [] => [[]]
  | x :: xs => if x = c then [] :: splitL c xs else match splitL c xs with
    | [] => [[x]]
    | p :: ps => (x :: p) :: ps
def joinL (c : Nat) : List (List Nat) → List Nat
  | [] => []
  | [p] => p
  | p :: q :: r => p ++ c :: joinL c (q :: r)
theorem splitL_ne (c : Nat) : ∀ xs, ∃ p ps, splitL c xs = p :: ps
  | [] => ⟨[], [], rfl⟩
  | x :: xs => by
    obtain ⟨p, ps, h⟩ := splitL_ne c xs
    by_cases hx : x = c
    · exact ⟨[], splitL c xs, by show (if x = c then _ else _) = _; rw [if_pos hx]⟩
    · exact ⟨x :: p, ps, by show (if x = c then _ else _) = _; rw [if_neg hx, h]⟩
theorem splitL_hit {c x : Nat} {xs : List Nat} (h : x = c) : splitL c (x :: xs) = [] :: splitL c xs := by
  show (if x = c then _ else _) = _
  rw [if_pos h]
theorem splitL_miss {c x : Nat} {xs p : List Nat} {ps : List (List Nat)} (h : x ≠ c) (e : splitL c xs = p :: ps) : splitL c (x :: xs) = (x :: p) :: ps := by
  show (if x = c then _ else _) = _
  rw [if_neg h, e]
theorem joinL_cons {c : Nat} {p : List Nat} {ps : List (List Nat)} (h : ps ≠ []) : joinL c (p :: ps) = p ++ c :: joinL c ps := by
  cases ps with
  | nil => exact absurd rfl h
  | cons q r => rfl
theorem join_splitL (c : Nat) : ∀ xs, joinL c (splitL c xs) = xs
  | [] => rfl
  | x :: xs => by
    obtain ⟨p, ps, h⟩ := splitL_ne c xs
    have ih := join_splitL c xs
    by_cases hx : x = c
    · rw [splitL_hit hx, joinL_cons (by rw [h]; simp), ih, hx]
      rfl
    · rw [splitL_miss hx h]
      rw [h] at ih
      cases ps with
      | nil => show x :: p = x :: xs; rw [show p = xs from ih]
      | cons q r =>
        show x :: (p ++ c :: joinL c (q :: r)) = _
        rw [show p ++ c :: joinL c (q :: r) = xs from ih]
theorem splitL_no (c : Nat) : ∀ xs, ∀ p ∈ splitL c xs, c ∉ p
  | [], p, h => by
    rw [List.mem_singleton.mp h]
    simp
  | x :: xs, p, h => by
    have ih := splitL_no c xs
    obtain ⟨q, qs, e⟩ := splitL_ne c xs
    by_cases hx : x = c
    · rw [splitL_hit hx] at h
      rcases List.mem_cons.mp h with rfl | h
      · simp
      · exact ih p h
    · rw [splitL_miss hx e] at h
      rcases List.mem_cons.mp h with rfl | h
      · have := ih q (by rw [e]; exact List.mem_cons_self ..)
        simp only [List.mem_cons, not_or]
        exact ⟨fun z => hx z.symm, this⟩
      · exact ih p (by rw [e]; exact List.mem_cons_of_mem _ h)
theorem splitL_part {c : Nat} : ∀ {p rest : List Nat}, c ∉ p → splitL c (p ++ c :: rest) = p :: splitL c rest
  | [], rest, _ => splitL_hit rfl
  | x :: p, rest, h => by
    have h' : x ≠ c ∧ c ∉ p := ⟨fun z => h (by rw [z]; exact List.mem_cons_self ..), fun z => h (List.mem_cons_of_mem _ z)⟩
    exact splitL_miss h'.1 (splitL_part h'.2)
theorem splitL_one {c : Nat} : ∀ {p : List Nat}, c ∉ p → splitL c p = [p]
  | [], _ => rfl
  | x :: p, h => splitL_miss (fun z => h (by rw [z]; exact List.mem_cons_self ..)) (splitL_one fun z => h (List.mem_cons_of_mem _ z))
theorem split_joinL {c : Nat} : ∀ {ps : List (List Nat)}, ps ≠ [] → (∀ p ∈ ps, c ∉ p) → splitL c (joinL c ps) = ps
  | [], h, _ => absurd rfl h
  | [p], _, h => splitL_one (h p (List.mem_cons_self ..))
  | p :: q :: r, _, h => by
    show splitL c (p ++ c :: joinL c (q :: r)) = _
    rw [splitL_part (h p (List.mem_cons_self ..)), split_joinL (by simp) fun x hx => h x (List.mem_cons_of_mem _ hx)]
theorem splitL_infix (c : Nat) : ∀ xs, ∀ p ∈ splitL c xs, p <:+: xs := fun xs p hp => by
  have key : ∀ ps : List (List Nat), ∀ p ∈ ps, p <:+: joinL c ps := by
    intro ps
    induction ps with
    | nil => intro p h; cases h
    | cons q r ih =>
      intro p h
      cases r with
      | nil =>
        rw [List.mem_singleton.mp h]
        exact List.infix_refl _
      | cons q2 r =>
        show p <:+: q ++ c :: joinL c (q2 :: r)
        rcases List.mem_cons.mp h with rfl | h
        · exact ⟨[], c :: joinL c (q2 :: r), by simp⟩
        · obtain ⟨a, b, e⟩ := ih p h
          exact ⟨q ++ c :: a, b, by rw [← e]; simp⟩
  have := key _ p hp
  rwa [join_splitL] at this
theorem splitL_length (c : Nat) : ∀ xs, (splitL c xs).length ≤ xs.length + 1
  | [] => Nat.le_refl _
  | x :: xs => by
    have ih := splitL_length c xs
    obtain ⟨q, qs, e⟩ := splitL_ne c xs
    by_cases hx : x = c
    · rw [splitL_hit hx, List.length_cons, List.length_cons]; omega
    · rw [splitL_miss hx e]
      rw [e] at ih
      simp only [List.length_cons] at ih ⊢
      omega
/-! the model's split by one sign -/
def posL (c : Nat) : Nat → List Nat → List Nat
  | _, [] => []
  | k, x :: xs => if x = c then k :: posL c (k + 1) xs else posL c (k + 1) xs
theorem subAt1 {l : List Nat} {c k : Nat} {x : Nat} {xs : List Nat} (h : l.drop k = x :: xs) : subAt (S l) (S [c]) k = decide (x = c) := by
  rw [subAt_eq]
  show ((l.drop k).take 1 == [c]) = _
  rw [h]
  by_cases hx : x = c
  · subst hx; simp
  · simp [hx]
theorem occ_go (l : List Nat) (c : Nat) : ∀ (xs : List Nat) (k : Nat) (acc : Array Nat) (free : Nat), l.drop k = xs → k + xs.length = l.length → free ≤ k → acc.size ≤ k →
    (forIn (List.range' k (xs.length + 1)) (acc, free) (occBody (S l) (S [c]) l.length (l.length + 1))).run.fst.toList = acc.toList ++ posL c k xs
  | [], k, acc, free, h, hk, hf, ha => by
    rw [List.range'_succ, List.forIn_cons]
    unfold occBody
    rw [if_neg (fun z => by
      have z2 : k + (S [c]).length ≤ l.length := z.1.2
      rw [S_len] at z2
      have : k = l.length := by simpa using hk
      simp only [List.length_cons, List.length_nil] at z2
      omega)]
    show _ = acc.toList ++ []
    rw [List.append_nil]
    rfl
  | x :: xs, k, acc, free, h, hk, hf, ha => by
    have hs := subAt1 (c := c) h
    have h1 : l.drop (k + 1) = xs := by rw [← List.drop_drop, h]; rfl
    have h2 : k + 1 + xs.length = l.length := by rw [List.length_cons] at hk; omega
    have h3 : k + 1 ≤ l.length := by omega
    rw [List.length_cons, List.range'_succ, List.forIn_cons]
    by_cases hx : x = c
    · have e : occBody (S l) (S [c]) l.length (l.length + 1) k (acc, free) = pure (ForInStep.yield (acc.push k, k + 1)) := by
        unfold occBody
        rw [if_pos ⟨⟨⟨by show acc.size < l.length + 1; omega, hf⟩, by rw [S_len]; exact h3⟩, by rw [hs, decide_eq_true hx]⟩, S_len]
        rfl
      rw [e]
      refine Eq.trans (b := (forIn (m := Id) (List.range' (k + 1) (xs.length + 1)) (acc.push k, k + 1) (occBody (S l) (S [c]) l.length (l.length + 1))).run.fst.toList) rfl ?_
      rw [occ_go l c xs (k + 1) (acc.push k) (k + 1) h1 h2 (Nat.le_refl _) (by rw [Array.size_push]; omega), Array.toList_push]
      show _ = acc.toList ++ (if x = c then _ else _)
      rw [if_pos hx, List.append_assoc]
      rfl
    · have e : occBody (S l) (S [c]) l.length (l.length + 1) k (acc, free) = pure (ForInStep.yield (acc, free)) := by
        unfold occBody
        rw [if_neg (fun z => by rw [hs, decide_eq_false hx] at z; exact absurd z.2 (by simp))]
      rw [e]
      refine Eq.trans (b := (forIn (m := Id) (List.range' (k + 1) (xs.length + 1)) (acc, free) (occBody (S l) (S [c]) l.length (l.length + 1))).run.fst.toList) rfl ?_
      rw [occ_go l c xs (k + 1) acc free h1 h2 (by omega) (by omega)]
      show _ = acc.toList ++ (if x = c then _ else _)
      rw [if_neg hx]
theorem occ_one (l : List Nat) (c : Nat) : occurrences (S l) (S [c]) 0 (S l).length ((S l).length + 1) = posL c 0 l := by
  rw [occ_eq, S_len]
  have := occ_go l c l 0 #[] 0 rfl (by simp) (Nat.le_refl _) (Nat.le_refl _)
  simpa using this
theorem sub_S (l : List Nat) (a b : Nat) : strSub (S l) a b = S ((l.drop a).take (b - a)) := by
  apply Str.ext'
  apply Array.toList_inj.mp
  rw [strSub_toList]
theorem parts_go (l : List Nat) (c : Nat) : ∀ (xs : List Nat) (a k : Nat) (p : List Nat) (ps : List (List Nat)), l.drop k = xs → a ≤ k → k + xs.length = l.length → splitL c xs = p :: ps →
    partsFrom (S l) 1 a (posL c k xs) = S ((l.drop a).take (k - a) ++ p) :: ps.map S
  | [], a, k, p, ps, h, ha, hk, hs => by
    have e : splitL c [] = [[]] := rfl
    rw [e] at hs
    cases hs
    show [strSub (S l) a (S l).length] = _
    rw [sub_S, S_len, List.append_nil]
    have : k = l.length := by simpa using hk
    rw [this]
    rfl
  | x :: xs, a, k, p, ps, h, ha, hk, hs => by
    have h1 : l.drop (k + 1) = xs := by rw [← List.drop_drop, h]; rfl
    have h2 : k + 1 + xs.length = l.length := by rw [List.length_cons] at hk; omega
    obtain ⟨q, qs, e⟩ := splitL_ne c xs
    by_cases hx : x = c
    · rw [splitL_hit hx] at hs
      cases hs
      show partsFrom (S l) 1 a (if x = c then k :: posL c (k + 1) xs else _) = _
      rw [if_pos hx]
      show strSub (S l) a k :: partsFrom (S l) 1 (k + 1) (posL c (k + 1) xs) = _
      rw [parts_go l c xs (k + 1) (k + 1) q qs h1 (Nat.le_refl _) h2 e, sub_S, List.append_nil, e, Nat.sub_self]
      simp
    · rw [splitL_miss hx e] at hs
      cases hs
      show partsFrom (S l) 1 a (if x = c then _ else posL c (k + 1) xs) = _
      rw [if_neg hx, parts_go l c xs a (k + 1) q ps h1 (by omega) h2 e]
      congr 2
      have e1 : k + 1 - a = (k - a) + 1 := by omega
      have e2 : (l.drop a).drop (k - a) = x :: xs := by rw [List.drop_drop, ← h]; congr 1; omega
      rw [e1, List.take_add_one]
      have e3 : (l.drop a)[k - a]? = some x := by
        have := congrArg (fun z => z[0]?) e2
        simpa using this
      rw [e3]
      simp
theorem kind_small {c : Nat} (h : c < 256) (x : Str) : decide (Builtin.Str.strKind x < Builtin.Str.strKind (S [c])) = false := by
  have e : Builtin.Str.strKind (S [c]) = 1 := by
    unfold Builtin.Str.strKind
    rw [if_pos (by simp [S, h])]
  rw [e]
  refine decide_eq_false fun z => ?_
  unfold Builtin.Str.strKind at z
  split at z
  · omega
  · split at z <;> omega
theorem split_S {c : Nat} (hc : c < 256) (l : List Nat) : Txt.split (S l) (S [c]) = (splitL c l).map S := by
  obtain ⟨p, ps, e⟩ := splitL_ne c l
  have hp := parts_go l c l 0 0 p ps rfl (Nat.le_refl _) (by simp) e
  unfold Txt.split
  rw [kind_small hc, occ_one, partsBetween_eq]
  split
  · rename_i h
    have h0 : l.length < 1 := by simpa [S_len] using h
    have : l = [] := List.length_eq_zero_iff.mp (by omega)
    subst this
    rfl
  · have e1 : (S [c]).length = 1 := S_len _
    split
    · rename_i h
      have h0 : posL c 0 l = [] := by simpa using h
      rw [h0] at hp
      have h2 : partsFrom (S l) 1 0 [] = [S l] := by
        show [strSub (S l) 0 (S l).length] = _
        rw [sub_whole]
      rw [h2] at hp
      rw [hp, e]
      simp
    · rw [e1, hp, e]
      simp
theorem glued_S (c : List Nat) : ∀ ps : List (List Nat), Txt.join (S c) (ps.map S) = S (match ps with | [] => [] | p :: r => r.foldl (fun acc q => acc ++ c ++ q) p) := by
  intro ps
  show glued _ _ = _
  unfold glued
  cases ps with
  | nil => rfl
  | cons p r =>
    show (⟨((r.map S).foldl (fun acc q => acc ++ (S c).cps ++ q.cps) (S p).cps)⟩ : Str) = _
    apply Str.ext'
    show (r.map S).foldl (fun acc q => acc ++ (S c).cps ++ q.cps) p.toArray = (r.foldl (fun acc q => acc ++ c ++ q) p).toArray
    induction r generalizing p with
    | nil => rfl
    | cons q r ih =>
      rw [List.map_cons, List.foldl_cons, List.foldl_cons]
      have : p.toArray ++ (S c).cps ++ (S q).cps = (p ++ c ++ q).toArray := by simp
      rw [this]
      exact ih (p ++ c ++ q)
theorem fold_joinL (c : Nat) : ∀ (r : List (List Nat)) (p : List Nat), r.foldl (fun acc q => acc ++ [c] ++ q) p = joinL c (p :: r)
  | [], p => rfl
  | q :: r, p => by
    rw [List.foldl_cons, fold_joinL c r (p ++ [c] ++ q)]
    cases r with
    | nil => show p ++ [c] ++ q = p ++ c :: q; simp
    | cons q2 r =>
      show (p ++ [c] ++ q) ++ c :: joinL c (q2 :: r) = p ++ c :: (q ++ c :: joinL c (q2 :: r))
      simp
theorem join_S (c : Nat) (ps : List (List Nat)) : Txt.join (S [c]) (ps.map S) = S (joinL c ps) := by
  rw [glued_S]
  cases ps with
  | nil => rfl
  | cons p r => exact congrArg S (fold_joinL c r p)
end Tx
set_option Elab.async false
set_option linter.all false
set_option maxRecDepth 100000
set_option maxHeartbeats 4000000
namespace Wo
open PySem PySem.Spec PyProof.Rows L2 Evl Vr En
section
variable {X : Cx} {CX : CXT} {n f C : Addr} {fd : FuncData} {ps : List Str} {sp : Sp} {E : XK} {pins : List (Addr × Obj)} {σ : L2.St} {H : Hp} {s : Shared} {us : List Value} {vs : List V} {Q : VK}
theorem ix_tupK {X : Cx} {K : PySem.W.Frag} (h : X.K = K) : IxR X (rIxT K) := by subst h; exact ix_tup
theorem ix_listK {X : Cx} {K : PySem.W.Frag} (h : X.K = K) : IxR X (rIxL K) := by subst h; exact ix_list
/-- a def called from somewhere below the body -/
theorem call_sub {A : Around} {k : Nat} (sb : Sub X k A) (F : FnOk X.prog X.w X.K X.mg X.base CX k f fd ps sp) (hb : Binds X.K fd ps []) (hx : Passes CX X E) (I : Inv X pins σ H s) (r : Vals vs us) (h : sp vs H Q E) :
    wpAny (model X.prog X.w) A (call (.ref f) us) (EP X pins σ Q) X.xe s := by
  have e0 : Env0 X.prog X.w X.K X.mg X.base A X.stack s H := by
    have e := I.env0
    exact ⟨by rw [sb.fr]; exact e.frames, e.mod, e.bs, e.bsz, e.funs, e.frf, e.hok, e.bare⟩
  have hl := F.len _ _ _ _ h
  have hb' : BindsTo s fd ⟨us, []⟩ (ps.zip us) := by
    have := hb s us I.kIn (by rw [List.append_nil, ← r.length]; exact hl)
    simpa using this
  refine wpAny_call (codeAny_mono (F.run A X.stack s H ⟨us, []⟩ us vs Q E sb.room e0 hb' r h) fun r s' hq => ?_)
  cases r with
  | error e => exact hx pins σ H s e s' I hq
  | ok fl =>
    cases fl with
    | ret u => exact I.after hq
    | next => exact False.elim hq
    | brk => exact False.elim hq
    | cont => exact False.elim hq
/-- the bool that comes back -/
def backB (Q : VK) : VK := fun v H' => ∃ b, v = .bl b ∧ Q (.bl b) H'
def backN (Q : VK) : VK := fun v H' => ∃ b, v = .bl b ∧ Q (.bl (!b)) H'
/-- x in o, o's class with its own __contains__ -/
def rInO (C : Addr) (sp : Sp) (E : XK) : R2 := fun x y H Q => ∃ a dx fs, y = .ref a ∧ H a = some (.ins C dx fs) ∧ sp [.ref a, x] H (backB Q) E
def rNiO (C : Addr) (sp : Sp) (E : XK) : R2 := fun x y H Q => ∃ a dx fs, y = .ref a ∧ H a = some (.ins C dx fs) ∧ sp [.ref a, x] H (backN Q) E
theorem op_inO {k : Nat} (F : FnOk X.prog X.w X.K X.mg X.base CX k f fd ps sp) (hr : Room k X.A) (M : Meth X.K C "__contains__" f) (hb : Binds X.K fd ps []) (hx : Passes CX X E) : OpR X (compareOp .In) (rInO C sp E) := by
  intro pins s σ H x y v u Q I rx ry h
  obtain ⟨a, dx, fs, rfl, ha, h⟩ := h
  cases ry
  obtain ⟨mA, J, _⟩ := ins_get I.hok ha
  obtain ⟨od, J, _⟩ := J.look
  obtain ⟨m, hF⟩ := I.fr
  refine PySem.W.in_K hF I.ok.mod.kin J M.at_ M.fn ?_
  refine wpAny_mono (call_sub (vs := [.ref a, x]) ⟨hr, rfl⟩ F hb hx I (.cons rfl (.cons rx .nil)) h) (fun r s' z => ?_) fun _ _ z => z
  obtain ⟨w, H', I', rw', b, rfl, q⟩ := z
  cases rw'
  exact wpAny_truthy_bool ⟨.bl b, H', I', rfl, q⟩
theorem op_niO {k : Nat} (F : FnOk X.prog X.w X.K X.mg X.base CX k f fd ps sp) (hr : Room k X.A) (M : Meth X.K C "__contains__" f) (hb : Binds X.K fd ps []) (hx : Passes CX X E) : OpR X (compareOp .NotIn) (rNiO C sp E) := by
  intro pins s σ H x y v u Q I rx ry h
  obtain ⟨a, dx, fs, rfl, ha, h⟩ := h
  cases ry
  obtain ⟨mA, J, _⟩ := ins_get I.hok ha
  obtain ⟨od, J, _⟩ := J.look
  obtain ⟨m, hF⟩ := I.fr
  refine PySem.W.notIn_K hF I.ok.mod.kin J M.at_ M.fn ?_
  refine wpAny_mono (call_sub (vs := [.ref a, x]) ⟨hr, rfl⟩ F hb hx I (.cons rfl (.cons rx .nil)) h) (fun r s' z => ?_) fun _ _ z => z
  obtain ⟨w, H', I', rw', b, rfl, q⟩ := z
  cases rw'
  exact wpAny_truthy_bool ⟨.bl (!b), H', I', rfl, q⟩
/-- len(o) -/
def rLenO (C : Addr) (sp : Sp) (E : XK) : List V → Hp → VK → Prop := fun xs H Q => ∃ a dx fs, xs = [.ref a] ∧ H a = some (.ins C dx fs) ∧ sp [.ref a] H (fun v H' => ∃ n : Int, v = .int n ∧ 0 ≤ n ∧ n < 2 ^ 63 ∧ Q (.int n) H') E
theorem c_lenO {k : Nat} (F : FnOk X.prog X.w X.K X.mg X.base CX k f fd ps sp) (hr : Room (k + 1) X.A) (M : Meth X.K C "__len__" f) (hb : Binds X.K fd ps []) (hx : Passes CX X E) : CallR X (.builtin "len") (rLenO C sp E) := by
  intro pins s σ H xs us Q I r h
  obtain ⟨a, dx, fs, rfl, ha, h⟩ := h
  rw [Vals.ref1 r]
  obtain ⟨mA, J, _⟩ := ins_get I.hok ha
  obtain ⟨od, J, _⟩ := J.look
  obtain ⟨m, hF⟩ := I.fr
  refine PySem.W.len_K hF I.ok.mod.kin J M.at_ M.fn ?_
  have hs : Sub X k X.A.in1 := Sub.in1 ⟨hr, rfl⟩
  refine wpAny_mono (call_sub (vs := [.ref a]) hs F hb hx I (.cons rfl .nil) h) (fun r s' z => ?_) fun _ _ z => z
  obtain ⟨w, H', I', rw', n, rfl, h0, h1, q⟩ := z
  obtain ⟨t, rfl⟩ := rw'
  exact ⟨⟨h0, h1⟩, .int n, H', I'.tok _, ⟨_, rfl⟩, q⟩
end
section
variable {σ : L2.St} {H : Hp} {te ta tb to : TE} {ts tr : TA} {K : PySem.W.Frag} {a C dx : Addr} {fs : List (Str × V)} {f : Str} {v z x : V}
theorem ev_fld (h : Ev ta σ H (.ref a)) (ho : H a = some (.ins C dx fs)) (c : Cls K C) (n : NoAttr K C f) (l : fs.lookup f = some v) : Ev (tFld K ta f) σ H v := fun H1 e Q q =>
  h H1 e _ fun H2 e2 => ⟨a, C, dx, fs, v, rfl, (e.trans e2) _ _ ho, c, n, l, q H2 e2⟩
theorem ev_methP {m : Str} {ok : List V → Hp → V → Prop} {E : XK} {vs : List V} (h : Ev to σ H (.ref a)) (ho : H a = some (.ins C dx fs)) (hl : fs.lookup m = none) (ha : EvA ts σ H vs) (hok : ∀ H1, Ex H H1 → ok (.ref a :: vs) H1 z) : Ev (tMeth C m (Pure ok) [] E to ts) σ H z := fun H1 e Q q =>
  h H1 e _ fun H2 e2 => ⟨a, dx, fs, rfl, (e.trans e2) _ _ ho, hl, ha H2 (e.trans e2) _ fun H3 e3 => by
    rw [List.append_nil]
    exact ⟨z, hok H3 ((e.trans e2).trans e3), fun H4 e4 => q H4 ((e2.trans e3).trans e4)⟩⟩
theorem rv_inO {ok : List V → Hp → V → Prop} {E : XK} {b : Bool} (ho : H a = some (.ins C dx fs)) (hok : ∀ H1, Ex H H1 → ok [.ref a, x] H1 (.bl b)) : RV (rInO C (Pure ok) E) x (.ref a) H (.bl b) := fun H1 e Q q =>
  ⟨a, dx, fs, rfl, e _ _ ho, .bl b, hok H1 e, fun H2 e2 => ⟨b, rfl, q H2 e2⟩⟩
theorem rv_niO {ok : List V → Hp → V → Prop} {E : XK} {b : Bool} (ho : H a = some (.ins C dx fs)) (hok : ∀ H1, Ex H H1 → ok [.ref a, x] H1 (.bl b)) : RV (rNiO C (Pure ok) E) x (.ref a) H (.bl (!b)) := fun H1 e Q q =>
  ⟨a, dx, fs, rfl, e _ _ ho, .bl b, hok H1 e, fun H2 e2 => ⟨b, rfl, q H2 e2⟩⟩
theorem rc_lenO {ok : List V → Hp → V → Prop} {E : XK} {n : Int} (ho : H a = some (.ins C dx fs)) (h0 : 0 ≤ n) (h1 : n < 2 ^ 63) (hok : ∀ H1, Ex H H1 → ok [.ref a] H1 (.int n)) : RC (rLenO C (Pure ok) E) [.ref a] H (.int n) := fun H1 e Q q =>
  ⟨a, dx, fs, rfl, e _ _ ho, .int n, hok H1 e, fun H2 e2 => ⟨n, rfl, h0, h1, q H2 e2⟩⟩
end
end Wo
set_option Elab.async false
set_option linter.all false
set_option maxRecDepth 100000
set_option maxHeartbeats 4000000
namespace Wo
open PySem PySem.Spec PyProof.Rows L2 Evl Vr En
section
variable {σ : L2.St} {H H' : Hp} {te ta tb tc tn to : TE} {t : TT} {tr ts tk : TA} {tz tu : TS} {D : Ends} {K : PySem.W.Frag} {w : World} {x y z v : V} {g : TG}
def Tupd (ok : List V → Hp → List V → Prop) : Sp := fun vs H Q _ => ∃ xs, ok vs H xs ∧ ∀ p H', H p = none → Ex H H' → H' p = some (.tup xs) → Q (.ref p) H'
theorem eu_callT {ok : List V → Hp → List V → Prop} {E : XK} {ts : TA} {vs xs : List V} (h : EvA ts σ H vs) (ho : ∀ H1, Ex H H1 → ok vs H1 xs) : EvU (tCall (Tupd ok) [] E ts) σ H xs := fun H1 e Q q =>
  h H1 e _ fun H2 e2 => by
    show Tupd ok (vs ++ []) H2 Q E
    rw [List.append_nil]
    exact ⟨xs, ho H2 (e.trans e2), fun p H3 hp e3 h3 => q p H3 (fresh_back e2 hp) (e2.trans e3) h3⟩
theorem q_asg2T {i j : Nat} {p : Addr} {v1 v2 : V} (h : Ev te σ H (.ref p)) (hT : SqT K H p [v1, v2]) (k : ∀ H1, Ex H H1 → tz D ((σ.set i (some v1)).set j (some v2)) H1) : tSeq (tAsg te (gTup K 2 (gCons (gName i) (gCons (gName j) gNil)))) tz D σ H :=
  h H (Ex.refl H) _ fun H1 e => ⟨p, [v1, v2], rfl, ex_t e hT, rfl, v1, [v2], rfl, v2, [], rfl, rfl, k H1 e⟩
theorem q_asg4T {i j l m : Nat} {p : Addr} {v1 v2 v3 v4 : V} (h : Ev te σ H (.ref p)) (hT : SqT K H p [v1, v2, v3, v4]) (k : ∀ H1, Ex H H1 → tz D ((((σ.set i (some v1)).set j (some v2)).set l (some v3)).set m (some v4)) H1) : tSeq (tAsg te (gTup K 4 (gCons (gName i) (gCons (gName j) (gCons (gName l) (gCons (gName m) gNil)))))) tz D σ H :=
  h H (Ex.refl H) _ fun H1 e => ⟨p, [v1, v2, v3, v4], rfl, ex_t e hT, rfl, v1, _, rfl, v2, _, rfl, v3, _, rfl, v4, [], rfl, rfl, k H1 e⟩
def Lstd (ok : List V → Hp → List V → Prop) : Sp := fun vs H Q _ => ∃ xs, ok vs H xs ∧ ∀ p H', H p = none → Ex H H' → H' p = some (.lst xs) → Q (.ref p) H'
theorem el_callL {ok : List V → Hp → List V → Prop} {E : XK} {ts : TA} {vs xs : List V} (h : EvA ts σ H vs) (ho : ∀ H1, Ex H H1 → ok vs H1 xs) : EvL (tCall (Lstd ok) [] E ts) σ H xs := fun H1 e Q q =>
  h H1 e _ fun H2 e2 => by
    show Lstd ok (vs ++ []) H2 Q E
    rw [List.append_nil]
    exact ⟨xs, ho H2 (e.trans e2), fun p H3 hp e3 h3 => q p H3 (fresh_back e2 hp) (e2.trans e3) h3⟩
theorem eu_if {b : Bool} {xs : List V} (h : EvT t σ H b) (h1 : b = true → EvU ta σ H xs) (h2 : b = false → EvU tb σ H xs) : EvU (tIf t ta tb) σ H xs := fun H1 e Q q => h H1 e _ fun H2 e2 => by
  match b with
  | true =>
    rw [if_pos rfl]
    exact h1 rfl H2 (e.trans e2) Q fun p H3 hp e3 h3 => q p H3 (fresh_back e2 hp) (e2.trans e3) h3
  | false =>
    rw [if_neg Bool.false_ne_true]
    exact h2 rfl H2 (e.trans e2) Q fun p H3 hp e3 h3 => q p H3 (fresh_back e2 hp) (e2.trans e3) h3
theorem ea_starL {xs ys : List V} (h : EvL te σ H xs) (hr : ∀ H1, Ex H H1 → EvA tr σ H1 ys) : EvA (StX.tStar K te tr) σ H (xs ++ ys) := fun H1 e Q q =>
  h H1 e _ fun p H2 hp e2 h2 => ⟨p, xs, rfl, .inr (sq_of h2), hr H2 (e.trans e2) H2 (Ex.refl H2) _ fun H3 e3 => q H3 (e2.trans e3)⟩
theorem given_int (l : List Int) (g : Int → Bool) : given l.length (fun i => g (l.getD i 0)) (fun i => V.int (l.getD i 0)) = (l.filter g).map V.int := by
  unfold given
  have e : (List.range l.length).map (fun i => l.getD i 0) = l := by
    apply List.ext_getElem
    · simp
    · intro i h1 h2
      simp [List.getD_eq_getElem?_getD, List.getElem?_eq_getElem h2]
  conv => rhs; rw [← e, List.filter_map, List.map_map]
  rfl
theorem ev_callT {ok : List V → Hp → V → Prop} {E : XK} {xs vs : List V} (h1 : EvU ta σ H xs) (h2 : ∀ H1, Ex H H1 → EvA tr σ H1 vs) (ho : ∀ p H1, Ex H H1 → H1 p = some (.tup xs) → ok (.ref p :: vs) H1 z) : Ev (tCall (Pure ok) [] E (tCons ta tr)) σ H z := fun H1 e Q q =>
  h1 H1 e _ fun p H2 hp e2 hx => h2 H2 (e.trans e2) H2 (Ex.refl H2) _ fun H3 e3 => by
    show Pure ok ((.ref p :: vs) ++ []) H3 Q E
    rw [List.append_nil]
    exact ⟨z, ho p H3 ((e.trans e2).trans e3) (e3 _ _ hx), fun H4 e4 => q H4 ((e2.trans e3).trans e4)⟩
theorem ev_anyN {bs : List Bool} (ha : EvL ta σ H (bs.map V.bl)) : Ev (tCB (rAny K) (tCons ta tNil)) σ H (.bl (bs.any id)) := fun H1 e Q q =>
  ha H1 e _ fun p H2 _ e2 h2 => ⟨p, bs, rfl, sq_of h2, q H2 e2⟩
theorem ev_minN {ns : List Int} {m : Int} (ha : EvL ta σ H (ns.map V.int)) (hm : m ∈ ns) (hl : ∀ y ∈ ns, m ≤ y) : Ev (tCB (rMin K) (tCons ta tNil)) σ H (.int m) := fun H1 e Q q =>
  ha H1 e _ fun p H2 _ e2 h2 => ⟨p, ns, rfl, sq_of h2, List.length_pos_of_mem hm, fun m' h1 h3 => by
    have e4 : m' = m := Int.le_antisymm (h3 m hm) (hl m' h1)
    rw [e4]
    exact q H2 e2⟩
theorem el_lcT {a : Addr} {xs : List V} {tl : TE} {j : Nat} {vs : List Nat} (f : Nat → Bool) (v : Nat → V) (h : Ev tl σ H (.ref a)) (hx : SqT K H a xs) (hz : xs.length ≤ 40000) (hw : ∀ x, wipe ((wipe σ vs).set j (some x)) vs = wipe σ vs)
    (ht : ∀ (i : Nat) (x : V) H1, Ex H H1 → xs[i]? = some x → EvT t ((wipe σ vs).set j (some x)) H1 (f i)) (he : ∀ (i : Nat) (x : V) H1, Ex H H1 → xs[i]? = some x → f i = true → Ev te ((wipe σ vs).set j (some x)) H1 (v i)) :
    EvL (tLc (iTup K tl) (gName j) t te vs) σ H (given xs.length f v) := fun H0 e Q q => h H0 e _ fun H1 e1 => ⟨a, rfl, ⟨xs, ex_t (e.trans e1) hx⟩, fun Dl hD =>
  lc_tup (xs := xs) (Cw H1 f v Dl) ⟨hD, Ex.new hD, upd_same⟩ (fun i H' _ p => ex_t ((e.trans e1).trans p.2.1) hx) (fun i x H' hi p => ⟨hw x, cw_turn p (by have := (List.getElem?_eq_some_iff.mp hi).1; omega) (ht i x H1 (e.trans e1) hi) (fun hf => he i x H1 (e.trans e1) hi hf)⟩)
    (fun H' p => q Dl H' (fresh_back e1 p.1) (e1.trans p.2.1) p.2.2)⟩
theorem given_yes_map {α : Type} (l : List α) (d : α) (g : α → V) : given l.length (fun _ => true) (fun i => g (l.getD i d)) = l.map g := by
  unfold given
  rw [List.filter_eq_self.mpr (fun _ _ => rfl)]
  apply List.ext_getElem
  · simp
  · intro i h1 h2
    have h3 : i < l.length := by simpa using h2
    simp [List.getD_eq_getElem?_getD, List.getElem?_eq_getElem h3]
theorem rc_isiTup {a : Addr} {xs : List V} (h : SqT K H a xs) : RC (rIsi K) [.ref a, .ty "tuple"] H (.bl true) := fun H1 e Q q => by
  have ht : TyX K H1 (.ref a) (.type "tuple") := by
    rcases ex_t e h with h | ⟨o, its, n, h1, h2, _⟩
    · rcases h with h | ⟨d, h⟩
      · exact .base (.tup h)
      · exact .fTuple h
    · exact .kTuple h1 h2
  exact ⟨_, .ty "tuple", .type "tuple", .type "tuple", true, rfl, .ty _, ht, kit_ty (r := true) (by decide +kernel), q H1 (Ex.refl H1)⟩
theorem rc_lenT {a : Addr} {xs : List V} (h : SqT K H a xs) : RC (rLenS K) [.ref a] H (.int (xs.length : Int)) := fun H1 e _ q => ⟨a, xs, rfl, .inr (ex_t e h), q H1 (Ex.refl H1)⟩
theorem within_ok {lo hi n : Int} (h : lo ≤ n ∧ n ≤ hi) (hl : -1000000000 ≤ lo) (hh : hi ≤ 1000000000) : isWithin lo hi (.int n) = true := by
  unfold isWithin isIntV
  simp only [Bool.and_eq_true, decide_eq_true_eq]
  omega
theorem ev_allN {bs : List Bool} (ha : EvL ta σ H (bs.map V.bl)) : Ev (tCB (rAll K) (tCons ta tNil)) σ H (.bl (bs.all id)) := fun H1 e Q q =>
  ha H1 e _ fun p H2 _ e2 h2 => ⟨p, bs, rfl, sq_of h2, q H2 e2⟩
theorem ev_callVT {ok : List V → Hp → V → Prop} {E : XK} {x : V} {xs vs : List V} (h0 : Ev ta σ H x) (h1 : EvU tb σ H xs) (h2 : ∀ H1, Ex H H1 → EvA tr σ H1 vs) (ho : ∀ p H1, Ex H H1 → H1 p = some (.tup xs) → ok (x :: .ref p :: vs) H1 z) : Ev (tCall (Pure ok) [] E (tCons ta (tCons tb tr))) σ H z := fun H0 e0 Q q =>
  h0 H0 e0 _ fun H1 e1 => h1 H1 (e0.trans e1) _ fun p H2 hp e2 hx => h2 H2 ((e0.trans e1).trans e2) H2 (Ex.refl H2) _ fun H3 e3 => by
    show Pure ok ((x :: .ref p :: vs) ++ []) H3 Q E
    rw [List.append_nil]
    exact ⟨z, ho p H3 (((e0.trans e1).trans e2).trans e3) (e3 _ _ hx), fun H4 e4 => q H4 (((e1.trans e2).trans e3).trans e4)⟩
theorem given_filter {α : Type} (l : List α) (d : α) (g : α → Bool) (h : α → V) : given l.length (fun i => g (l.getD i d)) (fun i => h (l.getD i d)) = (l.filter g).map h := by
  unfold given
  have e : (List.range l.length).map (fun i => l.getD i d) = l := by
    apply List.ext_getElem
    · simp
    · intro i h1 h2
      simp [List.getD_eq_getElem?_getD, List.getElem?_eq_getElem h2]
  conv => rhs; rw [← e, List.filter_map, List.map_map]
  rfl
theorem lay_ints : ∀ ns : List Int, PyData.canLayAll0 (ns.map PyData.int) = true ∧ PyData.depthAll (ns.map PyData.int) = 0
  | [] => ⟨rfl, rfl⟩
  | n :: ns => by
    have h := lay_ints ns
    refine ⟨?_, ?_⟩
    · show (true && PyData.canLayAll0 (ns.map PyData.int)) = true
      rw [h.1]
      rfl
    · show max 0 (PyData.depthAll (ns.map PyData.int)) = 0
      rw [h.2]
      rfl
theorem shaped_ints (ns : List Int) : SeqAt.shaped (.list (ns.map PyData.int)) = true := by
  have h := lay_ints ns
  show (PyData.canLayAll0 (ns.map PyData.int) && decide (PyData.depthAll (ns.map PyData.int) + 1 ≤ 64)) = true
  rw [h.1, h.2]
  rfl
def DrawsT (ok : List V → Hp → Addr → (List V → Prop) → Prop) : Sp := fun vs H Q _ => ∃ p R, ok vs H p R ∧ Dice p H ∧ ∀ a xs H', R xs → a ≠ p → Exd p H H' → Dice p H' → H' a = some (.tup xs) → Q (.ref a) H'
theorem du_callT {ok : List V → Hp → Addr → (List V → Prop) → Prop} {E : XK} {ts : TA} {p : Addr} {R : List V → Prop} {vs : List V} (h : ∀ H1, Exd p H H1 → Dice p H1 → EvA ts σ H1 vs) (ho : ∀ H1, Exd p H H1 → Dice p H1 → ok vs H1 p R) : DvU K p (tCall (DrawsT ok) [] E ts) σ H R := fun H1 e d Q q =>
  h H1 e d H1 (Ex.refl H1) _ fun H2 e2 => by
    show DrawsT ok (vs ++ []) H2 Q E
    rw [List.append_nil]
    exact ⟨p, R, ho H2 (e.trans (Exd.of e2)) (d.ex e2), d.ex e2, fun a xs H3 hx ha e3 d3 h3 => q a xs H3 hx ha ((Exd.of e2).trans e3) d3 (st_of h3)⟩
theorem s_retT {p : Addr} {ts : TA} {R : List V → Prop} (h : DvA p ts σ H R) (hd : Dice p H) (hl : ∀ xs, R xs → xs.length ≤ 100000) (k : ∀ a xs H1, R xs → a ≠ p → Exd p H H1 → Dice p H1 → H1 a = some (.tup xs) → D.rt (.ref a) H1) : tRet (tTup ts) D σ H :=
  h H (Exd.refl p H) hd _ fun xs H1 hx e1 d1 => ⟨sz_of (hl xs hx), fun a ha => k a xs _ hx (d1.ne ha) (e1.trans (Exd.of (Ex.new ha))) (d1.ex (Ex.new ha)) upd_same⟩
theorem da_nil0 {p : Addr} : DvA p tNil σ H (fun vs => vs = []) := fun H1 e d Q q => q [] H1 rfl (Exd.refl p H1) d
theorem da_cons2 {p : Addr} {R1 : V → Prop} {R2' : List V → Prop} (h : Dv p te σ H R1) (hr : DvA p tr σ H R2') : DvA p (tCons te tr) σ H (fun vs => ∃ v ws, vs = v :: ws ∧ R1 v ∧ R2' ws) := fun H1 e d Q q =>
  h H1 e d _ fun v H2 r e2 d2 => hr H2 (e.trans e2) d2 _ fun ws H3 rs e3 d3 => q (v :: ws) H3 ⟨v, ws, rfl, r, rs⟩ (e2.trans e3) d3
theorem q_asgLc {p : Addr} {n i j : Nat} {vs : List Nat} {R : V → Prop} {tz : TS} (hw : ∀ x, wipe ((wipe σ vs).set j (some x)) vs = wipe σ vs) (hn : n ≤ 1000) (he : ∀ k : Nat, k < n → Dv p te ((wipe σ vs).set j (some (.int (0 + (k : Int))))) H R) (hd : Dice p H)
    (k : ∀ l xs H2, (xs.length = n ∧ ∀ v ∈ xs, R v) → l ≠ p → Exd p H H2 → Dice p H2 → H2 l = some (.lst xs) → tz D (σ.set i (some (.ref l))) H2) : tSeq (tAsg (tLc (iRng1 (tCons (tC (.int n)) tNil)) (gName j) tYes te vs) (gName i)) tz D σ H := dl_lcR (Q := fun v H2 => tz D (σ.set i (some v)) H2) hw hn he hd k
def reprV : V → Str
  | .int i => toString i
  | .bl b => if b then "True" else "False"
  | _ => "None"
def reprOk : V → Prop
  | .int i => i.natAbs.log2 < 1920
  | .bl _ => True
  | .non => True
  | _ => False
def rReprA : List V → Hp → VK → Prop := fun xs H Q => ∃ x, xs = [x] ∧ reprOk x ∧ Q (.str (reprV x)) H
theorem c_reprA {X : Cx} : CallR X (.builtin "repr") rReprA := by
  intro pins s σ H xs us Q I r h
  obtain ⟨x, rfl, hz, q⟩ := h
  match x, hz with
  | .int i, hz => 
    obtain ⟨u, rfl, t, rfl⟩ := vals1 r
    exact PySem.P.repr_of_int hz ⟨.str _, H, I.tok _, ⟨_, rfl⟩, q⟩
  | .bl b, _ =>
    obtain ⟨u, rfl, rfl⟩ := vals1 r
    exact PySem.P.repr_of_bool ⟨.str _, H, I.tok _, ⟨_, rfl⟩, q⟩
  | .non, _ =>
    obtain ⟨u, rfl, rfl⟩ := vals1 r
    exact PySem.P.repr_of_none ⟨.str _, H, I.tok _, ⟨_, rfl⟩, q⟩
theorem rc_reprA (h : reprOk x) : RC rReprA [x] H (.str (reprV x)) := fun H1 _ _ q => ⟨x, rfl, h, q H1 (Ex.refl H1)⟩
theorem el_cat {xs ys : List V} (h1 : EvL ta σ H xs) (h2 : EvL tb σ H ys) (hz : xs.length + ys.length ≤ 100000) : EvL (tOp rCat ta tb) σ H (xs ++ ys) := fun H1 e Q q =>
  h1 H1 e _ fun p H2 hp e2 hx => h2 H2 (e.trans e2) _ fun r H3 hr e3 hy => ⟨p, r, xs, ys, rfl, rfl, e3 _ _ hx, hy, sz_of hz, fun l hl =>
    q l _ (fresh_back (e2.trans e3) hl) ((e2.trans e3).trans (Ex.new hl)) upd_same⟩
theorem q_asg2UU {tz : TS} {i j : Nat} {xs ys : List V} (h1 : EvU ta σ H xs) (h2 : EvU tb σ H ys) (k : ∀ p r H1, H p = none → H r = none → Ex H H1 → H1 p = some (.tup xs) → H1 r = some (.tup ys) → tz D ((σ.set i (some (.ref p))).set j (some (.ref r))) H1) :
    tSeq (tAsg (tTup (tCons ta (tCons tb tNil))) (gTup K 2 (gCons (gName i) (gCons (gName j) gNil)))) tz D σ H :=
  h1 H (Ex.refl H) _ fun p H1 hp e1 hx => h2 H1 e1 _ fun r H2 hr e2 hy => ⟨by show 2 ≤ sizeLine; decide, fun t ht => ⟨t, [.ref p, .ref r], rfl, st_of upd_same, rfl, .ref p, [.ref r], rfl, .ref r, [], rfl, rfl,
    k p r _ hp (fresh_back e1 hr) ((e1.trans e2).trans (Ex.new ht)) (Ex.new ht _ _ (e2 _ _ hx)) (Ex.new ht _ _ hy)⟩⟩
theorem q_parUU {tz : TS} {i j : Nat} {xs ys : List V} (h1 : EvU ta σ H xs) (h2 : EvU tb σ H ys) (k : ∀ p r H1, H p = none → H r = none → Ex H H1 → H1 p = some (.tup xs) → H1 r = some (.tup ys) → tz D ((σ.set i (some (.ref p))).set j (some (.ref r))) H1) : tSeq (tPar i j (tCons ta (tCons tb tNil))) tz D σ H :=
  h1 H (Ex.refl H) _ fun p H1 hp e1 hx => h2 H1 e1 _ fun r H2 hr e2 hy => ⟨.ref p, .ref r, rfl, k p r H2 hp (fresh_back e1 hr) (e1.trans e2) (e2 _ _ hx) hy⟩
theorem bool_iff {a b : Bool} (h : a = true ↔ b = true) : a = b := by
  cases a <;> cases b <;> simp_all
theorem s_forDv {p : Addr} {R : List V → Prop} (h : DvA p ts σ H R) (hd : Dice p H) (hz : ∀ xs, R xs → xs.length ≤ 100000) (Pv : Addr → List V → Nat → L2.St → Hp → Prop) (h0 : ∀ t xs H1, R xs → t ≠ p → Exd p H H1 → Dice p H1 → H1 t = some (.tup xs) → Pv t xs 0 σ H1)
    (hl : ∀ t xs i σ' H', i ≤ xs.length → Pv t xs i σ' H' → SqT K H' t xs) (hs : ∀ t xs i x σ' H', R xs → xs[i]? = some x → Pv t xs i σ' H' → g x σ' H' fun σ2 H2 => tu { D with nx := Pv t xs (i + 1), ct := Pv t xs (i + 1), bk := D.nx } σ2 H2) (hd2 : ∀ t xs σ' H', Pv t xs xs.length σ' H' → D.nx σ' H') : tFor (iTup K (tTup ts)) g tu D σ H :=
  h H (Exd.refl p H) hd _ fun xs H1 hx e1 d1 => ⟨sz_of (hz xs hx), fun t ht => ⟨t, rfl, ⟨xs, st_of upd_same⟩, for_tup (Pv t xs) (h0 t xs _ hx (d1.ne ht) (e1.trans (Exd.of (Ex.new ht))) (d1.ex (Ex.new ht)) upd_same) (hl t xs) (fun i x σ' H' hi p' => hs t xs i x σ' H' hx hi p') (hd2 t xs)⟩⟩
theorem q_same {x : V} : (!decide (x = x)) = false := by simp
theorem shaped_tup (ns : List Int) : SeqAt.shaped (.tuple (ns.map PyData.int)) = true := by
  have h := lay_ints ns
  show (PyData.canLayAll0 (ns.map PyData.int) && decide (PyData.depthAll (ns.map PyData.int) + 1 ≤ 64)) = true
  rw [h.1, h.2]
  rfl
theorem eqv_ints : ∀ ns : List Int, PyData.eqvAll (ns.map PyData.int) (ns.map PyData.int) = true
  | [] => rfl
  | n :: ns => by
    show ((n == n) && PyData.eqvAll (ns.map PyData.int) (ns.map PyData.int)) = true
    rw [eqv_ints ns]
    simp
theorem eqv_tup (ns : List Int) : PyData.eqv (.tuple (ns.map PyData.int)) (.tuple (ns.map PyData.int)) = true := eqv_ints ns
theorem evd_intsU {ns : List Int} (h : EvU te σ H (ns.map V.int)) : EvD K te σ H (.tuple (ns.map PyData.int)) := fun H1 e Q q => h H1 e Q fun p H2 _ e2 h2 => q _ H2 e2 (.tup (st_of h2) (dpa_ints ns))
theorem evd_intsT {a : Addr} {ns : List Int} (h : Ev te σ H (.ref a)) (hT : SqT K H a (ns.map V.int)) : EvD K te σ H (.tuple (ns.map PyData.int)) := fun H1 e Q q => h H1 e Q fun H2 e2 => q _ H2 e2 (.tup (ex_t (e.trans e2) hT) (dpa_ints ns))
def DvN (p : Addr) (te : TE) (σ : L2.St) (H : Hp) (R : List V → Prop) : Prop := ∀ H1, Exd p H H1 → Dice p H1 → ∀ Q : VK, (∀ b xs H2, R xs → b ≠ p → Exd p H1 H2 → Dice p H2 → H2 b = some (.tup xs) → Q (.ref b) H2) → te σ H1 Q
theorem dn_callT {ok : List V → Hp → Addr → (List V → Prop) → Prop} {E : XK} {ts : TA} {p : Addr} {R : List V → Prop} {vs : List V} (h : ∀ H1, Exd p H H1 → Dice p H1 → EvA ts σ H1 vs) (ho : ∀ H1, Exd p H H1 → Dice p H1 → ok vs H1 p R) : DvN p (tCall (DrawsT ok) [] E ts) σ H R := fun H1 e d Q q =>
  h H1 e d H1 (Ex.refl H1) _ fun H2 e2 => by
    show DrawsT ok (vs ++ []) H2 Q E
    rw [List.append_nil]
    exact ⟨p, R, ho H2 (e.trans (Exd.of e2)) (d.ex e2), d.ex e2, fun a xs H3 hx ha e3 d3 h3 => q a xs H3 hx ha ((Exd.of e2).trans e3) d3 h3⟩
def EvAP (ta : TA) (σ : L2.St) (H : Hp) (P : List V → Hp → Prop) : Prop := ∀ H1, Ex H H1 → ∀ Q : List V → Hp → Prop, (∀ vs H2, Ex H1 H2 → P vs H2 → Q vs H2) → ta σ H1 Q
theorem ap_nil : EvAP tNil σ H (fun vs _ => vs = []) := fun H1 _ _ q => q [] H1 (Ex.refl H1) rfl
theorem ap_cons {P : List V → Hp → Prop} (h : Ev te σ H x) (hr : EvAP tr σ H P) : EvAP (tCons te tr) σ H (fun vs H' => ∃ ws, vs = x :: ws ∧ P ws H') := fun H1 e Q q =>
  h H1 e _ fun H2 e2 => hr H2 (e.trans e2) _ fun ws H3 e3 p => q (x :: ws) H3 (e2.trans e3) ⟨ws, rfl, p⟩
theorem ap_consU {P : List V → Hp → Prop} {xs : List V} (h : EvU te σ H xs) (hr : EvAP tr σ H P) : EvAP (tCons te tr) σ H (fun vs H' => ∃ p ws, vs = .ref p :: ws ∧ H' p = some (.tup xs) ∧ P ws H') := fun H1 e Q q =>
  h H1 e _ fun p H2 hp e2 h2 => hr H2 (e.trans e2) _ fun ws H3 e3 pw => q (.ref p :: ws) H3 (e2.trans e3) ⟨p, ws, rfl, e3 _ _ h2, pw⟩
theorem ev_callAP {ok : List V → Hp → V → Prop} {E : XK} {P : List V → Hp → Prop} (h : EvAP ts σ H P) (ho : ∀ vs H1, Ex H H1 → P vs H1 → ok vs H1 z) : Ev (tCall (Pure ok) [] E ts) σ H z := fun H1 e Q q =>
  h H1 e _ fun vs H2 e2 p => by
    show Pure ok (vs ++ []) H2 Q E
    rw [List.append_nil]
    exact ⟨z, ho vs H2 (e.trans e2) p, fun H3 e3 => q H3 (e2.trans e3)⟩
theorem eu_callAP {ok : List V → Hp → List V → Prop} {E : XK} {P : List V → Hp → Prop} {xs : List V} (h : EvAP ts σ H P) (ho : ∀ vs H1, Ex H H1 → P vs H1 → ok vs H1 xs) : EvU (tCall (Tupd ok) [] E ts) σ H xs := fun H1 e Q q =>
  h H1 e _ fun vs H2 e2 pw => by
    show Tupd ok (vs ++ []) H2 Q E
    rw [List.append_nil]
    exact ⟨xs, ho vs H2 (e.trans e2) pw, fun p H3 hp e3 h3 => q p H3 (fresh_back e2 hp) (e2.trans e3) h3⟩
theorem EvAP.mono {P P' : List V → Hp → Prop} (h : EvAP ts σ H P) (k : ∀ vs H1, P vs H1 → P' vs H1) : EvAP ts σ H P' := fun H1 e Q q => h H1 e Q fun vs H2 e2 p => q vs H2 e2 (k vs H2 p)
theorem q_asgD {i : Nat} {d : PyData} (h : EvD K te σ H d) (k : ∀ v H1, Ex H H1 → Dp K H1 v d → tz D (σ.set i (some v)) H1) : tSeq (tAsg te (gName i)) tz D σ H := h H (Ex.refl H) _ fun v H1 e p => k v H1 e p
theorem evd_var {i : Nat} {d : PyData} {v : V} (h : σ[i]? = some (some v)) (p : Dp K H v d) : EvD K (tVar i) σ H d := evd_of (ev_var h) fun H1 e => dp_ex e p
theorem q_asg3U {i j l : Nat} {xs ys zs : List V} (h1 : EvU ta σ H xs) (h2 : EvU tb σ H ys) (h3 : EvU tc σ H zs) (k : ∀ p r s H1, Ex H H1 → H1 p = some (.tup xs) → H1 r = some (.tup ys) → H1 s = some (.tup zs) → tz D (((σ.set i (some (.ref p))).set j (some (.ref r))).set l (some (.ref s))) H1) :
    tSeq (tAsg (tTup (tCons ta (tCons tb (tCons tc tNil)))) (gTup K 3 (gCons (gName i) (gCons (gName j) (gCons (gName l) gNil))))) tz D σ H :=
  h1 H (Ex.refl H) _ fun p H1 hp e1 hx => h2 H1 e1 _ fun r H2 hr e2 hy => h3 H2 (e1.trans e2) _ fun s H3 hs e3 hz => ⟨by show 3 ≤ sizeLine; decide, fun t ht => ⟨t, [.ref p, .ref r, .ref s], rfl, st_of upd_same, rfl, .ref p, [.ref r, .ref s], rfl, .ref r, [.ref s], rfl, .ref s, [], rfl, rfl,
    k p r s _ (((e1.trans e2).trans e3).trans (Ex.new ht)) (Ex.new ht _ _ (e3 _ _ (e2 _ _ hx))) (Ex.new ht _ _ (e3 _ _ hy)) (Ex.new ht _ _ hz)⟩⟩
theorem el_lcNT {xs : List V} {tl : TE} {j : Nat} {vs : List Nat} (f : Nat → Bool) (v : Nat → V) (h : EvU tl σ H xs) (hz : xs.length ≤ 40000) (hw : ∀ x, wipe ((wipe σ vs).set j (some x)) vs = wipe σ vs)
    (ht : ∀ (i : Nat) (x : V) H1, Ex H H1 → xs[i]? = some x → EvT t ((wipe σ vs).set j (some x)) H1 (f i)) (he : ∀ (i : Nat) (x : V) H1, Ex H H1 → xs[i]? = some x → f i = true → Ev te ((wipe σ vs).set j (some x)) H1 (v i)) :
    EvL (tLc (iTup K tl) (gName j) t te vs) σ H (given xs.length f v) := fun H0 e Q q => h H0 e _ fun a H1 ha e1 hx => ⟨a, rfl, ⟨xs, st_of hx⟩, fun Dl hD =>
  lc_tup (xs := xs) (Cw H1 f v Dl) ⟨hD, Ex.new hD, upd_same⟩ (fun i H' _ p => st_of (p.2.1 a _ hx)) (fun i x H' hi p => ⟨hw x, cw_turn p (by have := (List.getElem?_eq_some_iff.mp hi).1; omega) (ht i x H1 (e.trans e1) hi) (fun hf => he i x H1 (e.trans e1) hi hf)⟩)
    (fun H' p => q Dl H' (fresh_back e1 p.1) (e1.trans p.2.1) p.2.2)⟩
theorem dpa_bls {H : Hp} : ∀ bs : List Bool, DpAll K H (bs.map V.bl) (bs.map PyData.bool)
  | [] => .nil
  | b :: bs => .cons (.bl b) (dpa_bls bs)
theorem evd_bls {bs : List Bool} (h : EvL te σ H (bs.map V.bl)) : EvD K te σ H (.list (bs.map PyData.bool)) := fun H1 e Q q => h H1 e Q fun p H2 _ e2 h2 => q _ H2 e2 (.lst (sq_of h2) (dpa_bls bs))
theorem et_notN (h : Ev te σ H x) : EvT (tB (tNotN te)) σ H (!decide (x = .non)) := fun H1 e _ q => h H1 e _ fun H2 e2 => ⟨_, rfl, q H2 e2⟩
theorem ap_consL {P : List V → Hp → Prop} {xs : List V} (h : EvL te σ H xs) (hr : EvAP tr σ H P) : EvAP (tCons te tr) σ H (fun vs H' => ∃ p ws, vs = .ref p :: ws ∧ H' p = some (.lst xs) ∧ P ws H') := fun H1 e Q q =>
  h H1 e _ fun p H2 hp e2 h2 => hr H2 (e.trans e2) _ fun ws H3 e3 pw => q (.ref p :: ws) H3 (e2.trans e3) ⟨p, ws, rfl, e3 _ _ h2, pw⟩
theorem cut1 (xs : List V) : cutV xs (some 1) none = xs.drop 1 := by
  unfold cutV HT.sIx
  cases xs with
  | nil => rfl
  | cons x xs => simp
/-- [e for x, y in zip(list, list) if t] -/
theorem el_lcZip {xs ys : List V} {ta : TA} {j l : Nat} {vs : List Nat} (f : Nat → Bool) (v : Nat → V) (h : EvAP ta σ H (fun vs H1 => ∃ a b, vs = [.ref a, .ref b] ∧ SqL K H1 a xs ∧ SqL K H1 b ys)) (hz : xs.length ≤ 40000)
    (hw : ∀ x y, wipe (((wipe σ vs).set j (some x)).set l (some y)) vs = wipe σ vs)
    (ht : ∀ (i : Nat) (x y : V) H1, Ex H H1 → xs[i]? = some x → ys[i]? = some y → EvT t (((wipe σ vs).set j (some x)).set l (some y)) H1 (f i)) (he : ∀ (i : Nat) (x y : V) H1, Ex H H1 → xs[i]? = some x → ys[i]? = some y → f i = true → Ev te (((wipe σ vs).set j (some x)).set l (some y)) H1 (v i)) :
    EvL (tLc (iZip K ta) (gTup K 2 (gCons (gName j) (gCons (gName l) gNil))) t te vs) σ H (given (min xs.length ys.length) f v) := fun H0 e Q q => h H0 e _ fun us H1 e1 ⟨a, b, hv, hx, hy⟩ => ⟨a, b, xs, ys, hv, hx, hy, fun Dl hD =>
  lc_it (walk_zip rfl) (Cw H1 f v Dl) ⟨hD, Ex.new hD, upd_same⟩ (fun i H' _ p => ⟨ex_l p.2.1 hx, ex_l p.2.1 hy⟩) (fun i x H' H'' hi p y => by
    obtain ⟨T, y1, y2, rfl, hT, rfl, h3, h4⟩ := y
    have eT : Ex H' (upd H' T (.tup [y1, y2])) := Ex.new hT
    refine ⟨T, [y1, y2], rfl, st_of upd_same, rfl, y1, [y2], rfl, y2, [], rfl, rfl, hw _ _, ?_⟩
    have p' : Cw H1 f v Dl i (upd H' T (.tup [y1, y2])) := ⟨p.1, p.2.1.trans eT, eT _ _ p.2.2⟩
    exact cw_turn p' (by omega) (ht i y1 y2 H1 (e.trans e1) h3 h4) (fun hf => he i y1 y2 H1 (e.trans e1) h3 h4 hf))
    (fun H' p => q Dl H' (fresh_back e1 p.1) (e1.trans p.2.1) p.2.2)⟩
theorem ev_strM {z : Str} {g : Str → Bool} (h : Ev to σ H (.str z)) : Ev (tM0 (fun x xs H Q => ∃ a, x = .str a ∧ xs = [] ∧ True ∧ Q (.bl (g a)) H) to) σ H (.bl (g z)) := fun H1 e Q q => h H1 e _ fun H2 e2 => ⟨⟨z, rfl⟩, z, rfl, rfl, trivial, q H2 e2⟩
theorem rc_lenS {z : Str} (h : z.length ≤ 100000) : RC (fun xs H Q => ∃ z, xs = [V.str z] ∧ z.length ≤ sizeLine ∧ Q (.int z.length) H) [.str z] H (.int z.length) := fun H1 _ _ q => ⟨z, rfl, sz_of h, q H1 (Ex.refl H1)⟩
theorem et_yes : EvT tYes σ H true := fun H4 e4 Q' q' => q' H4 (Ex.refl H4)
end
end Wo
set_option Elab.async false
set_option linter.all false
set_option maxRecDepth 100000
set_option maxHeartbeats 4000000
namespace Wo
open PySem PySem.Spec PyProof.Rows L2 Evl Vr En
theorem op_eqDK {X : Cx} {K : PySem.W.Frag} {A0 : Around} (hu : A0.units + 64 < cLine) (hA : X.A = A0) (hK : X.K = K) : OpR X (compareOp .Eq) (rEqD K) := by subst hA hK; exact op_eqD hu
theorem op_neDK {X : Cx} {K : PySem.W.Frag} {A0 : Around} (hu : A0.units + 64 < cLine) (hA : X.A = A0) (hK : X.K = K) : OpR X (compareOp .NotEq) (rNeD K) := by subst hA hK; exact op_neD hu
section
variable {σ : L2.St} {H H' : Hp} {te ta tb tc tn to tl tk tv td ty tx : TE} {t : TT} {tr ts : TA} {tz tu : TS} {D : Ends} {K : PySem.W.Frag} {w : World} {x y z v : V} {g : TG} {a C dx p : Addr} {fs : List (Str × V)} {f : Str}
/-- o.f = value, the object as it was ahead but for this -/
theorem s_fld (hv : Ev tv σ H y) (ha : Ev ta σ H (.ref a)) (ho : H a = some (.ins C dx fs)) (c : Cls K C) (n : NoAttr K C f) (hl : fs.length < 1000) (k : ∀ H1, Ex H H1 → D.nx σ (upd H1 a (.ins C dx (putF f y fs)))) : sFld K ta tv f D σ H :=
  hv H (Ex.refl H) _ fun H1 e1 => ha H1 e1 _ fun H2 e2 => ⟨a, C, dx, fs, rfl, (e1.trans e2) _ _ ho, c, n, hl, k H2 (e1.trans e2)⟩
theorem q_fld (hv : Ev tv σ H y) (ha : Ev ta σ H (.ref a)) (ho : H a = some (.ins C dx fs)) (c : Cls K C) (n : NoAttr K C f) (hl : fs.length < 1000) (k : ∀ H1, Ex H H1 → tz D σ (upd H1 a (.ins C dx (putF f y fs)))) : tSeq (sFld K ta tv f) tz D σ H :=
  s_fld (D := { D with nx := tz D }) hv ha ho c n hl k
theorem q_fldU {xs : List V} (hv : EvU tv σ H xs) (ha : ∀ H1, Ev ta σ H1 (.ref a)) (ho : H a = some (.ins C dx fs)) (c : Cls K C) (n : NoAttr K C f) (hl : fs.length < 1000) (k : ∀ r H1, H r = none → Ex H H1 → H1 r = some (.tup xs) → tz D σ (upd H1 a (.ins C dx (putF f (.ref r) fs)))) : tSeq (sFld K ta tv f) tz D σ H :=
  hv H (Ex.refl H) _ fun r H1 hr e1 h1 => ha H1 H1 (Ex.refl H1) _ fun H2 e2 => ⟨a, C, dx, fs, rfl, (e1.trans e2) _ _ ho, c, n, hl, k r H2 hr (e1.trans e2) (e2 _ _ h1)⟩
theorem s_fldK {kvs : List (Key × V)} (hv : EvK tv σ H kvs) (ha : ∀ H1, Ev ta σ H1 (.ref a)) (ho : H a = some (.ins C dx fs)) (c : Cls K C) (n : NoAttr K C f) (hl : fs.length < 1000) (k : ∀ r H1, H r = none → Ex H H1 → H1 r = some (.dK kvs) → D.nx σ (upd H1 a (.ins C dx (putF f (.ref r) fs)))) : sFld K ta tv f D σ H :=
  hv H (Ex.refl H) _ fun r H1 hr e1 h1 => ha H1 H1 (Ex.refl H1) _ fun H2 e2 => ⟨a, C, dx, fs, rfl, (e1.trans e2) _ _ ho, c, n, hl, k r H2 hr (e1.trans e2) (e2 _ _ h1)⟩
/-- what stands at p is an instance: a tuple told of is another -/
theorem _root_.Vr.Exd.ti {b : Addr} {xs : List V} (e : Exd p H H') (hp : H p = some (.ins C dx fs)) (h : SqT K H b xs) : SqT K H' b xs := by
  rcases h with (h | ⟨o, h⟩) | h
  · exact .inl (.inl (e _ _ (fun z => by rw [z, hp] at h; cases h) h))
  · exact .inl (.inr ⟨o, e _ _ (fun z => by rw [z, hp] at h; cases h) h⟩)
  · exact .inr h
theorem eu_tupL {xs : List V} (h : EvL te σ H xs) : EvU (tCB (rTupL K) (tCons te tNil)) σ H xs := fun H1 e Q q => h H1 e _ fun p H2 hp e2 h2 => ⟨p, xs, rfl, sq_of h2, fun l hl => q l _ (fresh_back e2 hl) (e2.trans (Ex.new hl)) upd_same⟩
/-- {k: v for x in tuple}: the keys all new -/
theorem ek_dcT {xs : List V} {j : Nat} {vs : List Nat} (kvs : Nat → List (Key × V)) (h0 : kvs 0 = []) (h : Ev tl σ H (.ref a)) (hx : SqT K H a xs) (hz : ∀ i, i ≤ xs.length → (kvs i).length ≤ 1000) (hw : ∀ x, wipe ((wipe σ vs).set j (some x)) vs = wipe σ vs)
    (hs : ∀ (i : Nat) (x : V) H1, Ex H H1 → xs[i]? = some x → ∃ k v, Ev tk ((wipe σ vs).set j (some x)) H1 (kV k) ∧ (∀ H2, Ex H1 H2 → Ev tv ((wipe σ vs).set j (some x)) H2 v) ∧ putK (kvs i) k v = kvs (i + 1)) :
    EvK (tDc (iTup K tl) (gName j) tYes tk tv vs) σ H (kvs xs.length) := fun H0 e Q q => h H0 e _ fun H1 e1 => ⟨a, rfl, ⟨xs, ex_t (e.trans e1) hx⟩, fun Dl hD => by
  refine dc_tup (xs := xs) (fun i H' => H1 Dl = none ∧ Ex H1 H' ∧ H' Dl = some (.dK (kvs i))) ⟨hD, Ex.new hD, by rw [h0]; exact upd_same⟩ (fun i H' _ p => ex_t ((e.trans e1).trans p.2.1) hx) (fun i x H' hi p => ⟨hw x, ?_⟩) (fun H' p => q Dl H' (fresh_back e1 p.1) (e1.trans p.2.1) p.2.2)
  obtain ⟨p1, p2, p3⟩ := p
  have hil : i ≤ xs.length := by have := (List.getElem?_eq_some_iff.mp hi).1; omega
  obtain ⟨k, v, hk, hv, hp⟩ := hs i x H' ((e.trans e1).trans p2) hi
  unfold tYes
  dsimp only
  rw [if_pos rfl]
  refine hk H' (Ex.refl H') _ fun H2 e2 => hv H2 e2 H2 (Ex.refl H2) _ fun H3 e3 => ⟨kvs i, k, rfl, (e2.trans e3) _ _ p3, sz_lt (by have := hz i hil; omega), p1, Ex.mut ((p2.trans e2).trans e3) p1, ?_⟩
  rw [hp]
  exact upd_same⟩
theorem ev_dget {d : Addr} {kvs : List (Key × V)} {k : Key} (h1 : Ev td σ H (.ref d)) (h2 : Ev ty σ H (kV k)) (hd : H d = some (.dK kvs)) (hv : valV kvs k = some v) : Ev (tDGet td ty) σ H v := fun H1 e Q q =>
  h1 H1 e _ fun H2 e2 => h2 H2 (e.trans e2) _ fun H3 e3 => ⟨d, v, rfl, by rw [← hv]; exact DGet.k (((e.trans e2).trans e3) _ _ hd), q H3 (e2.trans e3)⟩
theorem ev_din {d : Addr} {kvs : List (Key × V)} {k : Key} (h1 : Ev ty σ H (kV k)) (h2 : Ev td σ H (.ref d)) (hd : H d = some (.dK kvs)) : Ev (tDIn ty td) σ H (.bl (valV kvs k).isSome) := fun H1 e Q q =>
  h1 H1 e _ fun H2 e2 => h2 H2 (e.trans e2) _ fun H3 e3 => ⟨d, _, rfl, DGet.k (((e.trans e2).trans e3) _ _ hd), q H3 (e2.trans e3)⟩
/-- a method that answers None, called for what it does: the object at p is made anew -/
theorem s_dropM {m : Str} {sp : Sp} {E : XK} {vs : List V} (h : Ev to σ H (.ref a)) (ho : H a = some (.ins C dx fs)) (hl : fs.lookup m = none) (ha : ∀ H1, Ex H H1 → EvA ts σ H1 vs) (k : ∀ H1, Ex H H1 → sp (.ref a :: vs) H1 (fun _ H2 => D.nx σ H2) E) : tDrop (tMeth C m sp [] E to ts) D σ H :=
  h H (Ex.refl H) _ fun H2 e2 => ⟨a, dx, fs, rfl, e2 _ _ ho, hl, ha H2 e2 H2 (Ex.refl H2) _ fun H3 e3 => by
    rw [List.append_nil]
    exact k H3 (e2.trans e3)⟩
theorem q_dropM {m : Str} {sp : Sp} {E : XK} {vs : List V} (h : Ev to σ H (.ref a)) (ho : H a = some (.ins C dx fs)) (hl : fs.lookup m = none) (ha : ∀ H1, Ex H H1 → EvA ts σ H1 vs) (k : ∀ H1, Ex H H1 → sp (.ref a :: vs) H1 (fun _ H2 => tz D σ H2) E) : tSeq (tDrop (tMeth C m sp [] E to ts)) tz D σ H :=
  s_dropM (D := { D with nx := tz D }) h ho hl ha k
end
end Wo
set_option Elab.async false
set_option linter.all false
set_option maxRecDepth 100000
set_option maxHeartbeats 4000000
namespace Wo
open PySem PySem.Spec PyProof.Rows L2 Evl Vr En
theorem c_listS {X : Cx} : CallR X (.type "list") (rListS X.K) := call_list_of
section
variable {σ : L2.St} {H H' : Hp} {te ta tb tc tn to tl tk tv td ty tx : TE} {t : TT} {tr ts : TA} {tz tu : TS} {D : Ends} {K : PySem.W.Frag} {w : World} {x y z v : V} {g : TG} {a C dx p : Addr} {fs : List (Str × V)} {f : Str}
theorem _root_.Vr.Exd.tlst {b : Addr} {xs ys : List V} (e : Exd p H H') (hp : H p = some (.lst ys)) (h : SqT K H b xs) : SqT K H' b xs := by
  rcases h with (h | ⟨o, h⟩) | h
  · exact .inl (.inl (e _ _ (fun z => by rw [z, hp] at h; cases h) h))
  · exact .inl (.inr ⟨o, e _ _ (fun z => by rw [z, hp] at h; cases h) h⟩)
  · exact .inr h
theorem el_listT {xs : List V} (ha : Ev ta σ H (.ref p)) (h : SqT K H p xs) : EvL (tCB (rListS K) (tCons ta tNil)) σ H xs := fun H1 e Q q =>
  ha H1 e _ fun H2 e2 => ⟨p, xs, rfl, .inr (ex_t (e.trans e2) h), fun l hl => q l _ (fresh_back e2 hl) (e2.trans (Ex.new hl)) upd_same⟩
/-- [new object for .. in tuple] -/
theorem lcT_new {xs : List V} {vs : List Nat} {Q : VK} (Pr : Nat → Addr → Hp → Prop) (hP : ∀ i r H H' Dl acc, H Dl = some (.lst acc) → Exd Dl H H' → Pr i r H → Pr i r H') (h : Ev tl σ H (.ref a)) (hx : SqT K H a xs) (hz : xs.length ≤ 40000)
    (hs : ∀ (i : Nat) (x : V) (H1 : Hp) (R : VK), Ex H H1 → xs[i]? = some x → (∀ r H2, Ex H1 H2 → Pr i r H2 → R (.ref r) H2) → g x (wipe σ vs) H1 fun σ2 H2 => wipe σ2 vs = wipe σ vs ∧ te σ2 H2 R)
    (k : ∀ l (rs : List Addr) H', H l = none → Ex H H' → H' l = some (.lst (rs.map V.ref)) → rs.length = xs.length → (∀ (i : Nat) r, rs[i]? = some r → Pr i r H') → Q (.ref l) H') : tLc (iTup K tl) g tYes te vs σ H Q := h H (Ex.refl H) _ fun H1 e1 => ⟨a, rfl, ⟨xs, ex_t e1 hx⟩, fun Dl hD => by
  refine lc_tup (xs := xs) (fun i H' => Ex H1 H' ∧ ∃ rs : List Addr, H' Dl = some (.lst (rs.map V.ref)) ∧ rs.length = i ∧ ∀ (j : Nat) r, rs[j]? = some r → Pr j r H') ⟨Ex.new hD, [], upd_same, rfl, fun j r h => by cases h⟩ (fun i H' _ p => ex_t (e1.trans p.1) hx) (fun i x H' hi p => ?_) (fun H' ⟨p1, rs, p2, p3, p4⟩ => k Dl rs H' (fresh_back e1 hD) (e1.trans p1) p2 p3 p4)
  obtain ⟨p1, rs, p2, p3, p4⟩ := p
  have hil : i < xs.length := (List.getElem?_eq_some_iff.mp hi).1
  refine hs i x H' _ (e1.trans p1) hi fun r H4 e4 hr => ?_
  have hD4 := e4 _ _ p2
  have xd : Exd Dl H4 (upd H4 Dl (.lst (rs.map V.ref ++ [.ref r]))) := Exd.upd
  refine ⟨rs.map V.ref, hD4, sz_lt (by rw [List.length_map]; omega), Ex.mut (p1.trans e4) hD, rs ++ [r], ?_, by rw [List.length_append, p3]; rfl, fun j r' hj => ?_⟩
  · rw [upd_same, List.map_append]
    rfl
  · refine hP j r' H4 _ Dl _ hD4 xd ?_
    by_cases hjl : j < i
    · rw [List.getElem?_append_left (by omega)] at hj
      exact hP j r' H' H4 Dl _ p2 (Exd.of e4) (p4 j r' hj)
    · have hj2 : j = i := by
        have := (List.getElem?_eq_some_iff.mp hj).1
        rw [List.length_append, p3, List.length_singleton] at this
        omega
      subst hj2
      rw [List.getElem?_append_right (by omega), p3, Nat.sub_self] at hj
      cases hj
      exact hr⟩
theorem ap_starT {P : List V → Hp → Prop} {xs : List V} (h : Ev te σ H (.ref p)) (hx : SqT K H p xs) (hr : EvAP tr σ H P) : EvAP (StX.tStar K te tr) σ H (fun vs H' => ∃ ws, vs = xs ++ ws ∧ P ws H') := fun H1 e Q q =>
  h H1 e _ fun H2 e2 => ⟨p, xs, rfl, .inl (ex_t (e.trans e2) hx), hr H2 (e.trans e2) _ fun ws H3 e3 pw => q (xs ++ ws) H3 (e2.trans e3) ⟨ws, rfl, pw⟩⟩
theorem q_asgTP {i : Nat} {P : List V → Hp → Prop} (h : EvAP ts σ H P) (hl : ∀ vs H1, P vs H1 → vs.length ≤ 100000) (k : ∀ r vs H2, Ex H H2 → P vs H2 → H2 r = none → tz D (σ.set i (some (.ref r))) (upd H2 r (.tup vs))) : tSeq (tAsg (tTup ts) (gName i)) tz D σ H :=
  h H (Ex.refl H) _ fun vs H2 e2 pv => ⟨sz_of (hl vs H2 pv), fun r hr => k r vs H2 e2 pv hr⟩
theorem s_retTP {P : List V → Hp → Prop} (h : EvAP ts σ H P) (hl : ∀ vs H1, P vs H1 → vs.length ≤ 100000) (k : ∀ r vs H2, Ex H H2 → P vs H2 → H2 r = none → D.rt (.ref r) (upd H2 r (.tup vs))) : tRet (tTup ts) D σ H :=
  h H (Ex.refl H) _ fun vs H2 e2 pv => ⟨sz_of (hl vs H2 pv), fun r hr => k r vs H2 e2 pv hr⟩
theorem eu_tupV {xs : List V} (h : Ev te σ H (.ref p)) (hx : SqL K H p xs) : EvU (tCB (rTupL K) (tCons te tNil)) σ H xs := fun H1 e Q q => h H1 e _ fun H2 e2 => ⟨p, xs, rfl, ex_l (e.trans e2) hx, fun l hl => q l _ (fresh_back e2 hl) (e2.trans (Ex.new hl)) upd_same⟩
/-- {k: new tuple} -/
def EvK1 (te : TE) (σ : L2.St) (H : Hp) (k : Key) (xs : List V) : Prop := ∀ H1, Ex H H1 → ∀ Q : VK, (∀ d r H2, Ex H1 H2 → H2 d = some (.dK [(k, .ref r)]) → H2 r = some (.tup xs) → Q (.ref d) H2) → te σ H1 Q
theorem ek1_disp {k : Key} {xs : List V} (hk : ∀ H1, Ex H H1 → Ev ta σ H1 (kV k)) (hv : ∀ H1, Ex H H1 → EvU tb σ H1 xs) : EvK1 (tDisp [(ta, tb)]) σ H k xs := fun H1 e Q q d hd => by
  have e1 : Ex H1 (upd H1 d (.dK [])) := Ex.new hd
  refine hk _ (e.trans e1) _ (Ex.refl _) _ fun H2 e2 => hv H2 ((e.trans e1).trans e2) H2 (Ex.refl H2) _ fun r H3 hr e3 h3 => ?_
  have hd3 := e3 _ _ (e2 _ _ (upd_same (H := H1) (a := d) (o := .dK [])))
  have hrd : r ≠ d := fun z => by rw [z, hd3] at h3; cases h3
  refine ⟨hd3, [(k, .ref r)], rfl, by show 1 ≤ 15; decide, ?_⟩
  refine q d r _ (Ex.mut ((e1.trans e2).trans e3) hd) upd_same (by rw [upd_ne hrd]; exact h3)
end
end Wo
set_option Elab.async false
set_option linter.all false
set_option maxRecDepth 100000
set_option maxHeartbeats 4000000
namespace Wo
open PySem PySem.Spec PyProof.Rows L2 Evl Vr En PySem.W
theorem ne_bind (v : Value) : bindSpecial (.builtin "object.__ne__") v = pure (.builtin "object.__ne__", [v]) := PySem.F.cmp_object.ne.bind v
section
variable {prog : Program} {w : PySem.World} {A : Around} {E : Value → Shared → Prop} {s : Shared} {K : Frag} {x C L f : Addr} {h₀ : Heap} {m : Str → Option Value} {ox : Obj} {od : Option Obj} {b tb : Value}
/-- a special name that stands for a built-in -/
theorem bound_b {M : Model} {i : String} {nm : Str} {as : List Value} {Q : Option Value → Shared → Prop} (X : K.In s.heap) (J : InstAt s.heap x ox C od) (hf : findIn K (.ref C) nm = some (some (.builtin i))) (hb : ∀ v, bindSpecial (.builtin i) v = pure (.builtin i, [v]))
    (k : wpAny M A (call (.builtin i) (.ref x :: as)) (fun v => Q (some v)) E s) : wpAny M A (callSpecialIfBound? (.ref x) nm as) Q E s := by
  have go : wpAny M A (call (.builtin i) ([.ref x] ++ as) >>= fun v => pure (some v)) Q E s := wpAny_bind (wpAny_mono k (fun _ _ z => wpAny_pure z) fun _ _ z => z)
  simp only [callSpecialIfBound?, bindSpecialIfBound?]
  refine wpAny_holding (wpAny_bind (wpAny_bind (wpAny_bind (J.type.here ((looks_findIn X hf).here ?_)))))
  simp only [hb]
  refine wpAny_bind (wpAny_askSetting (wpAny_ite ?_))
  split
  · exact wpAny_bind (wpAny_pure (wpAny_pure (by exact go)))
  · exact wpAny_tryCatch (wpAny_bind (wpAny_pure (wpAny_pure (by exact go))))
/-- a comparison that the left one answers -/
theorem cmp_left {op : CmpOp} {Q : Value → Shared → Prop} (hu : A.units < cLine) (X : K.In s.heap) (J : InstAt s.heap x ox C od) (hb : Looks (model prog w) s.heap (typeOf b) tb) (hn : notFirst K C tb = true)
    (one : wpAny (model prog w) A (tryCompare (.ref x) (cmpInfo op).2.1 b) (fun r s' => ∃ v, r = some v ∧ Q v s') E s) : wpAny (model prog w) A (richCompare op (.ref x) b) Q E s := by
  unfold richCompare
  simp only [oneThing_ref]
  refine wpAny_holding (wpAny_bind (wpAny_cRoomFor hu (wpAny_bind (J.type.here (wpAny_bind (hb.here ?_))))))
  by_cases e : tb = .ref C
  · subst e
    rw [show (Value.ref C != Value.ref C) = false from by simp]
    refine wpAny_bind (wpAny_pure ?_)
    rw [if_neg Bool.false_ne_true]
    exact wpAny_bind (wpAny_mono one (fun r s' ⟨v, hv, q⟩ => by subst hv; exact wpAny_pure q) fun _ _ z => z)
  · have e1 : (Value.ref C != tb) = true := by simpa using Ne.symm e
    have e2 : subIn K tb (.ref C) = some false := by
      unfold notFirst at hn
      simp only [Bool.or_eq_true, beq_iff_eq] at hn
      exact hn.resolve_left e
    rw [e1, if_pos rfl]
    refine wpAny_bind ((looks_subIn X e2).here ?_)
    rw [if_neg Bool.false_ne_true]
    exact wpAny_bind (wpAny_mono one (fun r s' ⟨v, hv, q⟩ => by subst hv; exact wpAny_pure q) fun _ _ z => z)
/-- != of what has its own == alone -/
theorem ne_left {Q : Value → Shared → Prop} (hu : A.units + 1 < cLine) (X : K.In s.heap) (J : InstAt s.heap x ox C od) (hb : Looks (model prog w) s.heap (typeOf b) tb) (hn : notFirst K C tb = true)
    (hne : findIn K (.ref C) "__ne__" = some (some (.builtin "object.__ne__"))) (hob : subIn K (.ref C) (.type "object") = some true) (hs : findIn K (.ref C) "__eq__" = some (some (.ref f))) (hf : isFn K (.ref f) = true)
    (k : wpAny (model prog w) A.in1 (call (.ref f) [.ref x, b]) (fun v s' => ∃ z, v = .bool z ∧ Q (.bool (!z)) s') E s) : wpAny (model prog w) A (richCompare .NotEq (.ref x) b) Q E s := by
  refine cmp_left (by omega) X J hb hn ?_
  unfold tryCompare
  refine wpAny_bind (bound_b X J hne ne_bind (wpAny_call (codeAny_call_builtin PySem.F.cmp_object.ne.plain PySem.F.cmpEntry_ne (check_slot PySem.F.cmpKind_ne PySem.F.cmpSplit_ne (J.type.andThen (looks_subIn X hob)) (PySem.F.cmpArgs_ne _ _) ?_))))
  unfold Builtin.«object.__ne__»
  refine wpAny_bind (wpAny_pure ?_)
  refine wpAny_bind (wpAny_cRoomFor (by show A.units + 1 < cLine; exact hu) ?_)
  refine wpAny_bind (m := callSpecialIfBound? _ _ _) (ifBound_K X J hs hf (wpAny_mono k (fun v s' ⟨z, hz, q⟩ => ?_) fun _ _ z => z))
  subst hz
  refine wpAny_bind (wpAny_truthy_bool ?_)
  exact wpAny_pure (wpAny_pure ⟨_, rfl, q⟩)
end
section
variable {X : Cx} {CX : CXT} {n f C : Addr} {fd : FuncData} {ps : List Str} {sp : Sp} {E : XK} {k : Nat}
/-- o == y, o's class with its own __eq__ -/
def rEqO (K : PySem.W.Frag) (C : Addr) (sp : Sp) (E : XK) : R2 := fun x y H Q => ∃ a dx fs tb, x = .ref a ∧ H a = some (.ins C dx fs) ∧ TyX K H y tb ∧ notFirst K C tb = true ∧ sp [.ref a, y] H (backB Q) E
def rNeO (K : PySem.W.Frag) (C : Addr) (sp : Sp) (E : XK) : R2 := fun x y H Q => ∃ a dx fs tb, x = .ref a ∧ H a = some (.ins C dx fs) ∧ TyX K H y tb ∧ notFirst K C tb = true ∧ sp [.ref a, y] H (backN Q) E
theorem op_eqO (F : FnOk X.prog X.w X.K X.mg X.base CX k f fd ps sp) (hr : Room k X.A) (M : Meth X.K C "__eq__" f) (hb : Binds X.K fd ps []) (hx : Passes CX X E) : OpR X (compareOp .Eq) (rEqO X.K C sp E) := by
  intro pins s σ H x y v u Q I rx ry h
  obtain ⟨a, dx, fs, tb, rfl, ha, ty, hn, h⟩ := h
  cases rx
  obtain ⟨mA, J, _⟩ := ins_get I.hok ha
  obtain ⟨od, J, _⟩ := J.look
  obtain ⟨m, hF⟩ := I.fr
  obtain ⟨P, Z, p, _⟩ := kit_of I ry ty
  refine cmp_K (op := .Eq) (tb := tb) hr.units0 hF I.ok.mod.kin J (Z.ty _ _ I.kIn p) hn M.at_ M.fn ?_
  refine wpAny_mono (call_sub (vs := [.ref a, y]) ⟨hr, rfl⟩ F hb hx I (.cons rfl (.cons ry .nil)) h) (fun r s' z => ?_) fun _ _ z => z
  obtain ⟨w, H', I', rw', b, rfl, q⟩ := z
  cases rw'
  exact ⟨.bl b, H', I', rfl, q⟩
theorem op_neO (F : FnOk X.prog X.w X.K X.mg X.base CX k f fd ps sp) (hr : Room (k + 1) X.A) (M : Meth X.K C "__eq__" f) (hne : findIn X.K (.ref C) "__ne__" = some (some (.builtin "object.__ne__"))) (hob : subIn X.K (.ref C) (.type "object") = some true) (hb : Binds X.K fd ps []) (hx : Passes CX X E) : OpR X (compareOp .NotEq) (rNeO X.K C sp E) := by
  intro pins s σ H x y v u Q I rx ry h
  obtain ⟨a, dx, fs, tb, rfl, ha, ty, hn, h⟩ := h
  cases rx
  obtain ⟨mA, J, _⟩ := ins_get I.hok ha
  obtain ⟨od, J, _⟩ := J.look
  obtain ⟨P, Z, p, _⟩ := kit_of I ry ty
  refine ne_left hr.in1.units0 I.kIn J (Z.ty _ _ I.kIn p) hn hne hob M.at_ M.fn ?_
  have sb : Sub X k X.A.in1 := Sub.in1 ⟨hr, rfl⟩
  refine wpAny_mono (call_sub (vs := [.ref a, y]) sb F hb hx I (.cons rfl (.cons ry .nil)) h) (fun r s' z => ?_) fun _ _ z => z
  obtain ⟨w, H', I', rw', b, rfl, q⟩ := z
  cases rw'
  exact ⟨b, rfl, .bl (!b), H', I', rfl, q⟩
end
section
variable {H : Hp} {K : PySem.W.Frag} {a C dx : Addr} {fs : List (Str × V)} {y : V} {E : XK} {ok : List V → Hp → V → Prop} {b : Bool} {tb : Value}
theorem rv_eqO (ho : H a = some (.ins C dx fs)) (ht : ∀ H1, Ex H H1 → TyX K H1 y tb) (hn : notFirst K C tb = true) (hok : ∀ H1, Ex H H1 → ok [.ref a, y] H1 (.bl b)) : RV (rEqO K C (Pure ok) E) (.ref a) y H (.bl b) := fun H1 e Q q =>
  ⟨a, dx, fs, tb, rfl, e _ _ ho, ht H1 e, hn, .bl b, hok H1 e, fun H2 e2 => ⟨b, rfl, q H2 e2⟩⟩
theorem rv_neO (ho : H a = some (.ins C dx fs)) (ht : ∀ H1, Ex H H1 → TyX K H1 y tb) (hn : notFirst K C tb = true) (hok : ∀ H1, Ex H H1 → ok [.ref a, y] H1 (.bl b)) : RV (rNeO K C (Pure ok) E) (.ref a) y H (.bl (!b)) := fun H1 e Q q =>
  ⟨a, dx, fs, tb, rfl, e _ _ ho, ht H1 e, hn, .bl b, hok H1 e, fun H2 e2 => ⟨b, rfl, q H2 e2⟩⟩
end
end Wo
set_option Elab.async false
set_option linter.all false
set_option maxRecDepth 100000
set_option maxHeartbeats 4000000
namespace Wo
open PySem PySem.Spec PyProof.Rows L2 Evl Vr En PySem.W
section
variable {prog : Program} {w : PySem.World} {A : Around} {E : Value → Shared → Prop} {s : Shared}
/-- a built-in type called, its __new__ followed in this very program -/
theorem ty_call {T i : String} {as : List Value} {Q : Value → Shared → Prop} (ft : TypeCalled T i "object.__init__") (hne : (some i != some "object.__new__") = true) (hct : checkTypeCall T ⟨as, []⟩ = pure ()) (hok : ∀ o, argsOk "object.__init__" ⟨o :: as, []⟩)
    (g : codeAny (model prog w) A.in1 (.call (.builtin i) ⟨.type T :: as, []⟩) (wants (fun o s1 => s1.TypeIs o T ∧ Q o s1) E) s) : wpAny (model prog w) A (call (.type T) as) Q E s := by
  obtain ⟨c, tl, k1⟩ := ft.mro
  have k2 := ft.made
  have k3 := ft.sub
  have k4 := ft.notType
  have k5 := ft.canCreate
  refine wpAny_call (codeAny_of_tree ?_)
  show wpAny (model prog w) A.in1 (callAny (.type T) ⟨as, []⟩) _ _ s
  refine wpAny_pure ⟨Code.quiet_builtin _ (by decide +kernel), codeAny_builtin PySem.F.entry_type_call ?_⟩
  rw [Around.under_plain (weight_type_call_type T as []) (units_type_call_type T as [])]
  repeat (any_goals (first | assumption | wp_step))
  refine codeAny_mono g fun r s1 hr => ?_
  cases r with
  | error e => exact hr
  | ok fl =>
    cases fl with
    | ret o =>
      obtain ⟨hT, hq⟩ := hr
      have k6 := ft.init.lookup
      have k7 := ft.init.bind o
      repeat (any_goals (first | assumption | wp_step))
      refine codeAny_mono (codeAny_call_builtin ft.init.plain PySem.F.entry_object_init (ft.init.check _ _ _ _ _ _ _ _ hT (hok o) (object_init_meets ft.init.lookup ft.made hne prog w A.in1 (wants (fun r s2 => r = .none ∧ Q o s2) E) s1 ⟨hT, rfl, hq⟩))) fun r2 s2 h2 => ?_
      cases r2 with
      | error e => exact h2
      | ok f2 =>
        cases f2 with
        | ret r =>
          obtain ⟨rfl, hq⟩ := h2
          repeat (any_goals (first | assumption | wp_step))
        | _ => exact h2.elim
    | _ => exact hr.elim
theorem str_call {v : Value} {Q : Value → Shared → Prop} (k : wpAny (model prog w) A.in1.in1 (Builtin.Str.strOf v) (fun r s1 => s1.TypeIs r "str" ∧ Q r s1) E s) : wpAny (model prog w) A (call (.type "str") [v]) Q E s := by
  refine ty_call PySem.F.called_str (by decide) (PySem.F.typeCall_str_1 _) (fun o => PySem.F.args_object_init_2 o _) (codeAny_call_builtin PySem.F.called_str.plain PySem.F.entry_str_new (wpAny_of_eq (PySem.F.newCall_str_1 _) ?_))
  rw [str_new_tree v]
  refine wpAny_bind (wpAny_pure ?_)
  refine wpAny_bind (wpAny_of_eq isSubtype_str_str ?_)
  exact wpAny_bind (wpAny_mono k (fun r s' h' => wpAny_pure h') fun _ _ e => e)
end
section
variable {X : Cx} {CX : CXT} {k f C : Addr} {fd : FuncData} {ps : List Str} {sp : Sp} {E : XK} {n : Nat}
/-- str(o), o's class with its own __str__ -/
def rStrO (C : Addr) (sp : Sp) (E : XK) : List V → Hp → VK → Prop := fun xs H Q => ∃ a dx fs, xs = [.ref a] ∧ H a = some (.ins C dx fs) ∧ sp [.ref a] H (fun v H' => ∃ z, v = .str z ∧ Q (.str z) H') E
theorem c_strO (F : FnOk X.prog X.w X.K X.mg X.base CX n f fd ps sp) (hr : Room (n + 2) X.A) (M : Meth X.K C "__str__" f) (hb : Binds X.K fd ps []) (hx : Passes CX X E) : CallR X (.type "str") (rStrO C sp E) := by
  intro pins s σ H xs us Q I r h
  obtain ⟨a, dx, fs, rfl, ha, h⟩ := h
  rw [Vals.ref1 r]
  obtain ⟨mA, J, _⟩ := ins_get I.hok ha
  obtain ⟨od, J, _⟩ := J.look
  refine str_call ?_
  unfold Builtin.Str.strOf
  rw [if_neg (show ¬ (Builtin.Str.isExactStr (Value.ref a) = true) from fun z => nomatch z)]
  have hs : Sub X n X.A.in1.in1 := Sub.in1 (Sub.in1 ⟨hr, rfl⟩)
  refine wpAny_bind (wpAny_cRoomFor hs.room.units0 ?_)
  refine wpAny_bind (m := callSpecial? (.ref a) (Str.ofString "__str__")) (special_fn I.kIn J M.at_ (beq_iff_eq.mp M.fn) (wpAny_mono (call_sub (vs := [.ref a]) hs F hb hx I (.cons rfl .nil) h) (fun v s' z => ?_) fun _ _ e => e))
  obtain ⟨w, H', I', rw', x, rfl, q⟩ := z
  obtain ⟨t, rfl⟩ := rw'
  exact wpAny_pure ⟨typeIs_str _ _ _, .str x, H', I', ⟨t, rfl⟩, q⟩
end
end Wo
set_option Elab.async false
set_option linter.all false
set_option maxRecDepth 100000
set_option maxHeartbeats 4000000
namespace Wo
open PySem PySem.Spec PyProof.Rows L2 Evl Vr En PySem.W
abbrev tiObj (t : Addr) (i : Nat) : Obj := { cls := .type "tuple_iterator", data := .fields #[.ref t, .int i 0] }
/-- an iterator over the tuple at t -/
def TiO (t it : Addr) (i : Nat) : HO := .ext fun h => h.get? it = some (tiObj t i)
section
variable {prog : Program} {w : PySem.World} {A : Around} {E : Value → Shared → Prop} {s : Shared} {it t : Addr} {i : Nat} {its : Array Value}
theorem ti_call {Q : Value → Shared → Prop} (ht : s.heap.IsTuple t its) (k : Q (.ref s.heap.objs.size) { s with heap := s.heap.push (tiObj t 0) }) : wpAny (model prog w) A (call (.builtin "iter") [.ref t]) Q E s := by
  refine Calls.call_function_entry (by decide +kernel) (by decide +kernel) kdk_entry_iter (kdk_args_iter _) ?_
  unfold Builtin.«iter»
  refine wpAny_bind (m := someArgs "iter" 1 2 _) (wpAny_of_eq (a := [Value.ref t]) (by first | rfl | kernel_rfl!) (wpAny_bind (m := pyIter (.ref t)) (wpAny_pyIter_tuple ht (wpAny_pure ⟨_, rfl, k⟩))))
theorem ti_next {x : Value} {Q : Option Value → Shared → Prop} (ho : s.heap.get? it = some (tiObj t i)) (ht : s.heap.IsTuple t its) (hx : its[i]? = some x)
    (k : Q (some x) { s with heap := s.heap.update it (Obj.mapFields (·.setIfInBounds 1 (rawInt ((i : Int) + 1)))) }) : wpAny (model prog w) A (pyNext (.ref it)) Q E s := by
  obtain ⟨ot, hot, _, nt, hdt⟩ := ht
  have hT : s.TypeIs (.ref it) "tuple_iterator" := ⟨_, ho, rfl⟩
  unfold pyNext
  refine wpAny_bind (wpAny_attempt (wpAny_callSpecial?_slot (name := Str.ofString "__next__") hT PySem.F.slot_tuple_iterator_next (wpAny_call_entry PySem.F.slot_tuple_iterator_next hT PySem.F.entry_tuple_iterator_next ?_ (PySem.F.args_tuple_iterator_next_1 _))))
  show wpAny (model prog w) A.in1 (field (.ref it) 0 >>= _) _ _ s
  refine wpAny_bind (wpAny_field ho rfl (x := .ref t) rfl ?_)
  rw [if_neg (show ¬ ((Value.ref t == Value.none) = true) from fun z => nomatch z)]
  refine wpAny_bind (m := field (.ref it) 1) (wpAny_field ho rfl (x := .int i 0) rfl ?_)
  refine wpAny_bind (m := seqItems? (.ref t)) (wpAny_seqItems hot hdt ?_)
  simp only [Int.toNat_natCast, hx]
  exact wpAny_bind (wpAny_setField ho rfl (by simp) (wpAny_pure ⟨x, rfl, wpAny_pure k⟩))
theorem ti_stop {Q : Option Value → Shared → Prop} (hh : A.handled = none) (ho : s.heap.get? it = some (tiObj t i)) (ht : s.heap.IsTuple t its) (hx : its[i]? = none)
    (k : ∀ h', (∀ b o, b ≠ it → s.heap.get? b = some o → h'.get? b = some o) → (∃ o, h'.get? it = some o) → Q none { s with heap := h' }) : wpAny (model prog w) A (pyNext (.ref it)) Q E s := by
  obtain ⟨ot, hot, _, nt, hdt⟩ := ht
  have hT : s.TypeIs (.ref it) "tuple_iterator" := ⟨_, ho, rfl⟩
  unfold pyNext
  refine wpAny_bind (wpAny_attempt (wpAny_callSpecial?_slot (name := Str.ofString "__next__") hT PySem.F.slot_tuple_iterator_next (wpAny_call_entry PySem.F.slot_tuple_iterator_next hT PySem.F.entry_tuple_iterator_next ?_ (PySem.F.args_tuple_iterator_next_1 _))))
  show wpAny (model prog w) A.in1 (field (.ref it) 0 >>= _) _ _ s
  refine wpAny_bind (wpAny_field ho rfl (x := .ref t) rfl ?_)
  rw [if_neg (show ¬ ((Value.ref t == Value.none) = true) from fun z => nomatch z)]
  refine wpAny_bind (m := field (.ref it) 1) (wpAny_field ho rfl (x := .int i 0) rfl ?_)
  refine wpAny_bind (m := seqItems? (.ref t)) (wpAny_seqItems hot hdt ?_)
  simp only [Int.toNat_natCast, hx]
  refine wpAny_bind (wpAny_rule (wpAny_bind (wpAny_setField ho rfl (by simp) ?_)))
  have e0 := Heap.get?_update_self (Obj.mapFields (·.setIfInBounds 0 Value.none)) ho (Obj.isFreed_of_fields (Obj.data_mapFields (o := tiObj t i) rfl _))
  show wpAny (model prog w) A.in1 (newExc (.type "StopIteration") [] >>= _) _ _ _
  refine wpAny_bind ?_
  simp only [newExc, newTuple]
  refine wpAny_bind (wpAny_newObj_type (wpAny_bind (m := firstArgMember _ _) (wpAny_of_eq (a := Value.none) (by first | rfl | (simp only [firstArgMember]; rfl)) (wpAny_newObj_type ?_ (by size_fits)))) (by size_fits))
  simp only [raiseNew]
  refine wpAny_bind (wpAny_handled ?_)
  rw [show A.in1.handled = none from hh]
  refine wpAny_bind (wpAny_pure (wpAny_throw ?_))
  refine wpAny_bind (wpAny_isInstance (T := "StopIteration") (b := true) ⟨_, Heap.get?_push_size _ rfl, rfl⟩ isSubtype_stop ?_)
  rw [if_pos rfl]
  refine wpAny_pure (k _ (fun b o hb e => ?_) ?_)
  · exact Heap.get?_push_of_some _ (Heap.get?_push_of_some _ ((Heap.get?_update_other s.heap _ (Ne.symm hb)).trans e))
  · exact ⟨_, Heap.get?_push_of_some _ (Heap.get?_push_of_some _ e0)⟩
end
section
variable {X : Cx} {pins : List (Addr × Obj)} {σ : L2.St} {H : Hp} {s : Shared} {it t q : Addr} {i : Nat}
theorem ti_ok {P : Program} {w : PySem.World} {H : Hp} {h : Heap} (e : h.get? it = some (tiObj t i)) : ObjOk P w H h it (TiO t it i) := ⟨e, ⟨_, e⟩, fun h1 h2 q k => k _ q⟩
theorem ti_get (I : Inv X pins σ H s) (e : H it = some (TiO t it i)) : s.heap.get? it = some (tiObj t i) := (I.hok it _ e).1
/-- iter(t), t a tuple -/
def rIterT (K : PySem.W.Frag) : List V → Hp → VK → Prop := fun xs H Q => ∃ (t : Addr) (zs : List V), xs = [.ref t] ∧ SqT K H t zs ∧ ∀ it, H it = none → Q (.ref it) (upd H it (TiO t it 0))
theorem c_iterT : CallR X (.builtin "iter") (rIterT X.K) := by
  intro pins s σ H xs us Q I r h
  obtain ⟨t, zs, rfl, ht, q⟩ := h
  rw [Vals.ref1 r]
  obtain ⟨its, rv, hT, _⟩ := I.tuple ht
  obtain ⟨o, h1, h2, h3⟩ := hT
  refine ti_call ⟨o, h1, h2, h3⟩ ?_
  exact ⟨.ref s.heap.objs.size, _, I.laid (t' := s.toks) (fun b u e => Heap.get?_push_of_some _ e) (Nat.le_refl _) (ti_ok (Heap.get?_push_size _ rfl)), rfl, q _ (I.hok.fresh (Nat.le_refl _))⟩
theorem ti_step (I : Inv X pins σ H s) (e : H it = some (TiO t it i)) : Inv X pins σ (upd H it (TiO t it (i + 1))) { s with heap := s.heap.update it (Obj.mapFields (·.setIfInBounds 1 (rawInt ((i : Int) + 1)))) } := by
  have ho := ti_get I e
  have hn := Heap.get?_update_self (Obj.mapFields (·.setIfInBounds 1 (rawInt ((i : Int) + 1)))) ho (Obj.isFreed_of_fields (Obj.data_mapFields (o := tiObj t i) rfl _))
  have hf : Obj.mapFields (·.setIfInBounds 1 (rawInt ((i : Int) + 1))) (tiObj t i) = tiObj t (i + 1) := by simp [Obj.mapFields, rawInt]
  rw [hf] at hn
  exact I.write (x := it) (e := it) (t' := s.toks) (by rw [e]; exact trivial) (.inl rfl) (fun b u hb hu => (Heap.get?_update_other s.heap _ (Ne.symm hb)).trans hu) ⟨_, hn⟩ (ti_ok hn)
/-- an iterator that is done -/
def TiX (it : Addr) : HO := .ext fun h => ∃ o, h.get? it = some o
theorem tx_ok {P : Program} {w : PySem.World} {H : Hp} {h : Heap} (e : ∃ o, h.get? it = some o) : ObjOk P w H h it (TiX it) := ⟨e, e, fun h1 h2 q k => let ⟨o, ho⟩ := q; ⟨o, k _ ho⟩⟩
theorem hint_split : splitId "tuple_iterator.__length_hint__" = some ("tuple_iterator", "__length_hint__") := by decide +kernel
theorem ti_hint {M : Model} {A : Around} {E : Value → Shared → Prop} {Q : Bool → Shared → Prop} (ho : s.heap.get? it = some (tiObj t i)) (h : Q false s) : wpAny M A (Builtin.List.listLengthHint (.ref it)) Q E s := by
  have hT : s.TypeIs (.ref it) "tuple_iterator" := ⟨_, ho, rfl⟩
  unfold Builtin.List.listLengthHint
  refine wpAny_bind (wpAny_specialOf hT PySem.F.nolen_tu ?_)
  show wpAny M A (specialOf (Value.ref it) (Str.ofString "__length_hint__") >>= _) _ _ _
  refine wpAny_bind (wpAny_specialOf hT PySem.F.hint_tu ?_)
  generalize hd : ("tuple_iterator.__length_hint__" : String) = d
  wp_delta
  rw [show splitId d = some ("tuple_iterator", "__length_hint__") from by rw [← hd]; exact hint_split]
  subst hd
  refine wpAny_bind (wpAny_isInstance (b := true) hT (by rw [isSubtype_type]; kernel_rfl) ?_)
  exact wpAny_pure h
theorem ti_loop {Rs : Result → Shared → Prop} {A1 : Around} {xs : List V} (hh : A1.handled = none) (hz : xs.length ≤ 40000) (hqi : q ≠ it) (hti : ∀ H', (∀ b, b ≠ q → b ≠ it → H' b = H b) → SqT X.K H' t xs)
    (hdone : ∀ H' s', Inv X pins σ H' s' → (∀ b, b ≠ q → b ≠ it → H' b = H b) → H' q = some (.lst xs) → Rs (.ok (.ret .none)) s') :
    ∀ (m i : Nat) (H' : Hp) (s : Shared), xs.length - i = m → i ≤ xs.length → Inv X pins σ H' s → (∀ b, b ≠ q → b ≠ it → H' b = H b) → H' q = some (.lst (xs.take i)) → H' it = some (TiO t it i) → codeAny (model X.prog X.w) A1 (.builtin "list.extend.loop" ⟨[.ref q, .ref it, .none], []⟩) Rs s := by
  intro m
  induction m with
  | zero =>
    intro i H' s hm hi I hO hq hit
    have hi' : i = xs.length := by omega
    subst hi'
    refine codeAny_builtin PySem.F.entry_extend_loop ?_
    rw [Around.under_plainId PySem.F.plain_extend_loop _]
    show wpAny (model X.prog X.w) A1.in1 (pyNext (.ref it) >>= _) _ _ s
    obtain ⟨its, rv, ⟨o, h1, h2, h3⟩, _⟩ := I.tuple (hti H' hO)
    refine wpAny_bind (ti_stop hh (ti_get I hit) ⟨o, h1, h2, h3⟩ (by simp [← rv.length]) fun h' k1 k2 => wpAny_pure ?_)
    refine hdone (upd H' it (TiX it)) _ (I.write (x := it) (e := it) (t' := s.toks) (by rw [hit]; exact trivial) (.inl rfl) k1 k2 (tx_ok k2)) (fun b hb hb2 => by rw [upd_ne hb2]; exact hO b hb hb2) ?_
    rw [upd_ne hqi, hq, List.take_of_length_le (Nat.le_refl _)]
  | succ m ih =>
    intro i H' s hm hi I hO hq hit
    have hlt : i < xs.length := by omega
    refine codeAny_builtin PySem.F.entry_extend_loop ?_
    rw [Around.under_plainId PySem.F.plain_extend_loop _]
    show wpAny (model X.prog X.w) A1.in1 (pyNext (.ref it) >>= _) _ _ s
    obtain ⟨its, rv, ⟨o, h1, h2, h3⟩, _⟩ := I.tuple (hti H' hO)
    obtain ⟨u, hu, ru⟩ := rv.get (List.getElem?_eq_getElem hlt)
    refine wpAny_bind (ti_next (ti_get I hit) ⟨o, h1, h2, h3⟩ (x := u) (by simpa using hu) ?_)
    have I1 := ti_step I hit
    have hq1 : upd H' it (TiO t it (i + 1)) q = some (.lst (xs.take i)) := by rw [upd_ne hqi]; exact hq
    obtain ⟨z, il, k, r2, hl, e⟩ := I1.lstM hq1
    have hll : il.length = i := by rw [← r2.length, List.length_take]; omega
    show wpAny (model X.prog X.w) A1.in1 (updateSeq q (·.push u) >>= _) _ _ _
    refine wpAny_bind (wpAny_updateSeq e rfl (wpAny_pure ⟨plainId_quiet PySem.F.plain_extend_loop _, ?_⟩) (by rw [List.size_toArray, hll, sizeLine_eq]; omega) (by show (il.toArray.push u).size ≤ sizeLine + 1; rw [Array.size_push, List.size_toArray, hll, sizeLine_eq]; omega))
    refine ih (i + 1) _ _ (by omega) hlt (I1.lset (its' := il ++ [u]) (ys := xs.take (i + 1)) (t' := s.toks) hq1 e (by simp) (by rw [List.take_succ_eq_append_getElem hlt]; exact r2.append (.cons ru .nil)) (by rw [List.length_take, sizeLine_eq]; omega)) (fun b hb hb2 => by rw [upd_ne hb, upd_ne hb2]; exact hO b hb hb2) upd_same (by rw [upd_ne (Ne.symm hqi)]; exact upd_same)
end
end Wo
set_option Elab.async false
set_option linter.all false
set_option maxRecDepth 100000
set_option maxHeartbeats 4000000
namespace Wo
open PySem PySem.Spec PyProof.Rows L2 Evl Vr En PySem.W
section
variable {X : Cx} {pins : List (Addr × Obj)} {σ : L2.St} {H : Hp} {s : Shared} {f f2 C a q : Addr} {fd fd2 : FuncData} {ps ps2 : List Str} {sp sp2 : Sp} {E : XK} {k n : Nat}
/-- a def that raises nothing, called anywhere -/
theorem call_sub0 {A : Around} {us : List Value} {vs : List V} {Q : VK} {Er : Value → Shared → Prop} (sb : Sub X k A) (F : FnOk X.prog X.w X.K X.mg X.base CX0 k f fd ps sp) (hb : Binds X.K fd ps []) (I : Inv X pins σ H s) (r : Vals vs us) (h : sp vs H Q E) :
    wpAny (model X.prog X.w) A (call (.ref f) us) (EP X pins σ Q) Er s := by
  have e := I.env0
  have z0 : Env0 X.prog X.w X.K X.mg X.base A X.stack s H := ⟨by rw [sb.fr]; exact e.frames, e.mod, e.bs, e.bsz, e.funs, e.frf, e.hok, e.bare⟩
  have z1 : BindsTo s fd ⟨us, []⟩ (ps.zip us) := by simpa using hb s us I.kIn (by rw [List.append_nil, ← r.length]; exact F.len _ _ _ _ h)
  refine wpAny_call (codeAny_mono (F.run A X.stack s H ⟨us, []⟩ us vs Q E sb.room z0 z1 r h) fun r s' hq => ?_)
  cases r with
  | error e => exact False.elim hq
  | ok fl => cases fl with
    | ret u => exact I.after hq
    | _ => exact False.elim hq
/-- what the own __iter__ gives: an iterator over a tuple, and then the list q of its things -/
def AftI (K : PySem.W.Frag) (a q : Addr) (sp2 : Sp) (E : XK) (Q : VK) : VK := fun v H' => ∃ (it t : Addr) (xs : List V), v = .ref it ∧ it ≠ q ∧ xs.length ≤ 40000 ∧ H' it = some (TiO t it 0) ∧
  sp2 [.ref a] H' (fun u H1 => ∃ m : Int, u = .int m ∧ 0 ≤ m ∧ m ≤ 40000 ∧ H1 it = some (TiO t it 0) ∧ H1 q = some (.lst []) ∧ (∀ H2, (∀ b, b ≠ q → b ≠ it → H2 b = H1 b) → SqT K H2 t xs) ∧ ∀ H2, (∀ b, b ≠ q → b ≠ it → H2 b = H1 b) → H2 q = some (.lst xs) → Q (.ref q) H2) E
/-- list(o), o's class with its own __iter__ and __len__ -/
def rListO (K : PySem.W.Frag) (C : Addr) (sp sp2 : Sp) (E : XK) : List V → Hp → VK → Prop := fun xs H Q => ∃ a dx fs, xs = [.ref a] ∧ H a = some (.ins C dx fs) ∧ ∀ q, H q = none → sp [.ref a] (upd H q (.lst [])) (fun v H' => H' a = some (.ins C dx fs) ∧ AftI K a q sp2 E Q v H') E
theorem long_no {m : Int} (h0 : 0 ≤ m) (h1 : m ≤ 40000) : Builtin.List.listTooLong m.toNat = false := by
  unfold Builtin.List.listTooLong
  have : m.toNat ≤ 40000 := by omega
  simp only [decide_eq_false_iff_not, sizeLine_eq]
  omega
theorem ol_hint {A : Around} {Q : Bool → Shared → Prop} {Er : Value → Shared → Prop} {dx : Addr} {fs : List (Str × V)} {R : Int → Hp → Prop} (sb : Sub X k A.in1) (F : FnOk X.prog X.w X.K X.mg X.base CX0 k f fd ps sp) (hs : findIn X.K (.ref C) "__len__" = some (some (.ref f))) (hf : isFn X.K (.ref f) = true) (hb : Binds X.K fd ps [])
    (I : Inv X pins σ H s) (ha : H a = some (.ins C dx fs)) (h : sp [.ref a] H (fun u H1 => ∃ m : Int, u = .int m ∧ 0 ≤ m ∧ m ≤ 40000 ∧ R m H1) E) (hq : ∀ b m H1 s1, Inv X pins σ H1 s1 → R m H1 → Q b s1) : wpAny (model X.prog X.w) A (Builtin.List.listLengthHint (.ref a)) Q Er s := by
  obtain ⟨mA, J, _⟩ := ins_get I.hok ha
  obtain ⟨od, J, _⟩ := J.look
  obtain ⟨m0, hF⟩ := I.fr
  unfold Builtin.List.listLengthHint
  refine wpAny_bind (wpAny_bind (J.type.here ((looks_findIn I.kIn hs).here ?_)))
  refine KFB.if_not rfl ?_
  rw [if_pos (by rfl)]
  refine wpAny_bind (wpAny_rule (wpAny_bind (wpAny_attempt (len_K hF I.ok.mod.kin J hs hf (wpAny_mono (call_sub0 (vs := [.ref a]) sb F hb I (.cons rfl .nil) h) (fun r s' z => ?_) fun _ _ z => z)))))
  obtain ⟨v, H', I', rv, m, rfl, h0, h1, hR⟩ := z
  obtain ⟨t, rfl⟩ := rv
  refine ⟨⟨h0, by omega⟩, ?_⟩
  refine wpAny_bind (m := asInt? _) (wpAny_pure ?_)
  dsimp only
  rw [if_neg (by rw [long_no h0 h1]; exact fun z => nomatch z)]
  exact wpAny_pure (hq _ m H' _ (I'.tok _) hR)
theorem oe_run {Q : VK} {A1 : Around} {dx : Addr} {fs : List (Str × V)} (hh : A1.handled = none) (sb : Sub X n A1.in1) (sb2 : Sub X k A1.in1.in1) (F : FnOk X.prog X.w X.K X.mg X.base CX0 n f fd ps sp) (M : Meth X.K C "__iter__" f) (hb : Binds X.K fd ps [])
    (F2 : FnOk X.prog X.w X.K X.mg X.base CX0 k f2 fd2 ps2 sp2) (M2 : Meth X.K C "__len__" f2) (hb2 : Binds X.K fd2 ps2 [])
    (I : Inv X pins σ H s) (ha : H a = some (.ins C dx fs)) (hq : H q = some (.lst [])) (h : sp [.ref a] H (fun v H' => H' a = some (.ins C dx fs) ∧ AftI X.K a q sp2 E Q v H') E) :
    wpAny (model X.prog X.w) A1.in1 (Builtin.List.listExtendWith (.ref q) (.ref a) .none) (fun fin s' => match fin with
      | .done g => wants (fun r s2 => r = .none ∧ EP X pins σ Q (.ref q) s2) X.xe (.ok g) s'
      | .again c' => c'.quiet = true ∧ codeAny (model X.prog X.w) A1 c' (wants (fun r s2 => r = .none ∧ EP X pins σ Q (.ref q) s2) X.xe) s') X.xe s := by
  have hne : q ≠ a := ne_of hq ha (fun z => nomatch z)
  obtain ⟨mA, J, _⟩ := ins_get I.hok ha
  obtain ⟨od, J, _⟩ := J.look
  obtain ⟨m0, hF⟩ := I.fr
  unfold Builtin.List.listExtendWith
  refine wpAny_bind (J.type.here ?_)
  rw [if_neg (by
    have z1 : Builtin.List.listSameRef (.ref q) (.ref a) = false := by simp [Builtin.List.listSameRef, hne]
    rw [z1]
    exact fun z => nomatch z)]
  refine wpAny_bind (owit_iter hF I.ok.mod.kin J M.at_ M.fn (wpAny_mono (call_sub0 (vs := [.ref a]) sb F hb I (.cons rfl .nil) h) (fun u s2 z => ?_) fun _ _ z => z))
  obtain ⟨v, H', I', rv, ha', it, t, xs, rfl, hiq, hz, hi0, h2⟩ := z
  cases rv
  have hT : s2.TypeIs (.ref it) "tuple_iterator" := ⟨_, ti_get I' hi0, rfl⟩
  unfold OwitIt
  refine wpAny_specialOf hT PySem.F.slot_tuple_iterator_next.lookup ?_
  refine wpAny_bind (wpAny_holding (ol_hint sb2 F2 M2.at_ M2.fn hb2 I' ha' h2 fun b m H1 s3 I1 ⟨hit, hq1, hti, hQ⟩ => ?_))
  have go : ∀ s4 : Shared, Inv X pins σ H1 s4 → codeAny (model X.prog X.w) A1 (.builtin "list.extend.loop" ⟨[.ref q, .ref it, .none], []⟩) (wants (fun r s2 => r = .none ∧ EP X pins σ Q (.ref q) s2) X.xe) s4 := fun s4 I4 =>
    ti_loop (t := t) (H := H1) (xs := xs) hh hz (Ne.symm hiq) hti (fun H2 s3 I2 o1 o2 => ⟨rfl, .ref q, H2, I2, rfl, hQ H2 o1 o2⟩) xs.length 0 H1 s4 rfl (Nat.zero_le _) I4 (fun _ _ _ => rfl) (by rw [List.take_zero]; exact hq1) hit
  refine wpAny_ite_split (fun _ => ?_) (fun _ => wpAny_pure ⟨plainId_quiet PySem.F.plain_extend_loop _, go _ I1⟩)
  refine wpAny_bind (wpAny_rule (wpAny_bind ?_))
  obtain ⟨z, il, c, r3, hl3, e3⟩ := I1.lstM hq1
  cases r3
  show wpAny (model X.prog X.w) _ (updateSeq q (·.push .none) >>= fun _ => updateSeq q (·.pop)) _ _ _
  refine wpAny_bind (wpAny_updateSeq e3 rfl ?_)
  have I2 := I1.lset (f := (·.push Value.none)) (its' := [Value.none]) (ys := [.non]) (t' := s3.toks) hq1 e3 (by simp) (.cons rfl .nil) (by rw [List.length_singleton, sizeLine_eq]; decide)
  obtain ⟨z4, il4, c4, r4, hl4, e4⟩ := I2.lstM upd_same
  obtain ⟨u4, rfl, ru4⟩ := r4.one
  refine wpAny_updateSeq e4 rfl ?_ (by show 1 ≤ sizeLine; rw [sizeLine_eq]; decide) (by show 0 ≤ sizeLine + 1; exact Nat.zero_le _)
  have I3 := I2.lset (f := (·.pop)) (its := [u4]) (its' := []) (ys := []) (t' := s3.toks) upd_same e4 (by rfl) .nil (Nat.zero_le _)
  rw [upd_upd] at I3
  have hH : upd H1 q (.lst []) = H1 := by
    funext b
    by_cases hb : b = q
    · rw [hb, upd_same, hq1]
    · exact upd_ne hb
  rw [hH] at I3
  exact wpAny_pure ⟨plainId_quiet PySem.F.plain_extend_loop _, go _ I3⟩
theorem c_listO (hc : X.calm = true) (F : FnOk X.prog X.w X.K X.mg X.base CX0 n f fd ps sp) (hr : Room (n + 2) X.A) (M : Meth X.K C "__iter__" f) (hb : Binds X.K fd ps []) (F2 : FnOk X.prog X.w X.K X.mg X.base CX0 k f2 fd2 ps2 sp2) (hr2 : Room (k + 3) X.A) (M2 : Meth X.K C "__len__" f2) (hb2 : Binds X.K fd2 ps2 []) (hx : Passes CX0 X E) : CallR X (.type "list") (rListO X.K C sp sp2 E) := by
  intro pins s σ H xs us Q I r h
  obtain ⟨a, dx, fs, rfl, ha, h⟩ := h
  rw [Vals.ref1 r]
  have sb : Sub X n X.A.in1.in1 := Sub.in1 (Sub.in1 ⟨hr, rfl⟩)
  have sb2 : Sub X k X.A.in1.in1.in1 := Sub.in1 (Sub.in1 (Sub.in1 ⟨hr2, rfl⟩))
  have fr : H s.heap.objs.size = none := I.hok.fresh (Nat.le_refl _)
  refine callType_codes (Q₁ := fun o s1 => o = .ref s.heap.objs.size ∧ s1 = { s with heap := s.heap.push { cls := .type "list", data := .seq #[] } }) PySem.F.called_list (PySem.F.typeCall_list_1 _) PySem.F.entry_list_init (code_list_new _ ⟨rfl, rfl⟩) fun o s1 h1 => ?_
  obtain ⟨rfl, rfl⟩ := h1
  have hS : (s.heap.push { cls := .type "list", data := .seq #[] }).get? s.heap.objs.size = some { cls := .type "list", data := .seq #[] } := Heap.get?_push_size _ rfl
  refine ⟨⟨_, hS, rfl⟩, PySem.F.args_list_init_2 _ _, ?_⟩
  have I1 : Inv X pins σ (upd H s.heap.objs.size (.lst [])) { s with heap := s.heap.push { cls := .type "list", data := .seq #[] } } := I.lnew (its := []) (t' := s.toks) .nil (Nat.zero_le _)
  show wpAny (model X.prog X.w) _ (Builtin.List.listItems (.ref s.heap.objs.size) >>= fun old => Builtin.List.listUpdate (.ref s.heap.objs.size) (fun _ => #[]) >>= fun _ => letGo old.toList.reverse >>= fun _ => Builtin.List.listExtendWith (.ref s.heap.objs.size) (.ref a) .none) _ _ _
  refine wpAny_bind ?_
  unfold Builtin.List.listItems
  refine wpAny_bind (wpAny_seqItems hS rfl (wpAny_pure ?_))
  show wpAny (model X.prog X.w) _ (updateSeq s.heap.objs.size (fun _ => #[]) >>= fun _ => letGo (#[] : Array Value).toList.reverse >>= fun _ => Builtin.List.listExtendWith (.ref s.heap.objs.size) (.ref a) .none) _ _ _
  refine wpAny_bind (wpAny_updateSeq hS rfl ?_)
  have I2 := I1.lset (f := fun _ => #[]) (its := []) (its' := []) (ys := []) (t' := s.toks) upd_same hS rfl .nil (Nat.zero_le _)
  rw [upd_upd] at I2
  refine wpAny_bind (wpAny_letGo ?_)
  exact oe_run (A1 := X.A.in1) (I.ok.hd hc) sb sb2 F M hb F2 M2 hb2 I2 (by rw [upd_ne (ne_of_none ha fr)]; exact ha) upd_same (h _ fr)
end
section
variable {X : Cx} {CX : CXT} {f C : Addr} {fd : FuncData} {ps : List Str} {sp : Sp} {E : XK} {k : Nat} {K : PySem.W.Frag}
theorem op_eqOK (hK : X.K = K) (F : FnOk X.prog X.w X.K X.mg X.base CX k f fd ps sp) (hr : Room k X.A) (M : Meth X.K C "__eq__" f) (hb : Binds X.K fd ps []) (hx : Passes CX X E) : OpR X (compareOp .Eq) (rEqO K C sp E) := by subst hK; exact op_eqO F hr M hb hx
theorem op_neOK (hK : X.K = K) (F : FnOk X.prog X.w X.K X.mg X.base CX k f fd ps sp) (hr : Room (k + 1) X.A) (M : Meth X.K C "__eq__" f) (hne : findIn X.K (.ref C) "__ne__" = some (some (.builtin "object.__ne__"))) (hob : subIn X.K (.ref C) (.type "object") = some true) (hb : Binds X.K fd ps []) (hx : Passes CX X E) : OpR X (compareOp .NotEq) (rNeO K C sp E) := by subst hK; exact op_neO F hr M hne hob hb hx
end
end Wo
set_option Elab.async false
set_option linter.all false
set_option maxRecDepth 100000
set_option maxHeartbeats 4000000
namespace Wo
open PySem PySem.Spec PyProof.Rows L2 Evl Vr En
/-- != of two tuples of the very same objects -/
def rNeS (K : PySem.W.Frag) : R2 := fun x y H Q => ∃ a b xs, x = .ref a ∧ y = .ref b ∧ SqT K H a xs ∧ SqT K H b xs ∧ (∀ v ∈ xs, v = .non ∨ ∃ r, v = .ref r) ∧ Q (.bl false) H
theorem same_val {v : V} {u u' : Value} (h : v = .non ∨ ∃ r, v = .ref r) (r : RelV v u) (r' : RelV v u') : u = u' := by
  rcases h with rfl | ⟨a, rfl⟩
  · cases r; cases r'; rfl
  · cases r; cases r'; rfl
theorem op_neS {X : Cx} (hu : X.A.units < cLine) : OpR X (compareOp .NotEq) (rNeS X.K) := by
  intro pins s σ H x y v u Q I rx ry h
  obtain ⟨a, b, xs, rfl, rfl, ha, hb, hs, q⟩ := h
  cases rx
  cases ry
  obtain ⟨its, rv, h1, _⟩ := I.tuple ha
  obtain ⟨its2, rv2, h2, _⟩ := I.tuple hb
  have t1 : s.heap.IsTuple a its.toArray := by obtain ⟨o, p1, p2, p3⟩ := h1; exact ⟨o, p1, p2, p3⟩
  have t2 : s.heap.IsTuple b its2.toArray := by obtain ⟨o, p1, p2, p3⟩ := h2; exact ⟨o, p1, p2, p3⟩
  have hsz : its.toArray.size = its2.toArray.size := by rw [List.size_toArray, List.size_toArray, ← rv.length, ← rv2.length]
  have hc := SeqAt.RcNeAt.tuples (A := X.A) (s := s) (e := fun _ => true) t1 t2 hu fun j g1 g2 => by
    have k1 : j < xs.length := by rw [rv.length]; simpa using g1
    obtain ⟨w1, e1, r1⟩ := rv.get (List.getElem?_eq_getElem k1)
    obtain ⟨w2, e2, r2⟩ := rv2.get (List.getElem?_eq_getElem k1)
    have f1 : its.toArray[j] = w1 := by
      have g1' : j < its.length := by simpa using g1
      rw [List.getElem?_eq_getElem g1'] at e1
      simpa using Option.some.inj e1
    have f2 : its2.toArray[j] = w2 := by
      have g2' : j < its2.length := by simpa using g2
      rw [List.getElem?_eq_getElem g2'] at e2
      simpa using Option.some.inj e2
    rw [f1, f2, same_val (hs _ (List.getElem_mem k1)) r1 r2]
    exact SeqAt.EqAt.same _
  have h3 : ((List.range (min its.toArray.size its2.toArray.size)).all fun _ => true) = true := List.all_eq_true.mpr fun _ _ => rfl
  have h4 : (!(((List.range (min its.toArray.size its2.toArray.size)).all fun _ => true) && its.toArray.size == its2.toArray.size)) = false := by
    rw [h3, hsz, beq_self_eq_true]
    rfl
  rw [h4] at hc
  exact hc X.prog X.w X.xe _ ⟨.bl false, H, I, rfl, q⟩
theorem op_neSK {X : Cx} {K : PySem.W.Frag} (hK : X.K = K) (hu : X.A.units < cLine) : OpR X (compareOp .NotEq) (rNeS K) := by subst hK; exact op_neS hu
end Wo
set_option Elab.async false
set_option linter.all false
set_option maxRecDepth 100000
set_option maxHeartbeats 4000000
namespace Sl
open PySem PySem.Spec PyProof.Rows L2
section
variable {P : Program} {w : World} {A : Around} {E : Value → Shared → Prop} {s : Shared}
/-- the object that set() begins with -/
abbrev blank (w : World) : Obj := { cls := .type "set", dict := none, data := .set #[] 0 (.fresh 0 0 (!w.params.followText "set-order")) }
/-- the new set is filled from a list of ints -/
theorem fill {l : Addr} {items : Array Value} {ns : List Int} (calm : A.handled = none) (isL : s.heap.IsList l items) (whole : IntsAre items.toList ns) (few : ns.length + 1 < scanBound) {R : Value → Shared → Prop}
    (k : ∀ (h2 : Heap) (tk c : Nat), SetR w h2 s.heap.objs.size (fun j => decide (j ∈ ns)) c → c ≤ ns.length → (∀ b o, s.heap.get? b = some o → h2.get? b = some o) → R .none { s with heap := h2, toks := tk }) :
    codeAny (model P w) A (.call (.builtin "set.__init__") ⟨[.ref s.heap.objs.size, .ref l], []⟩) (wants R E) { s with heap := s.heap.push (blank w) } := by
  have sz : items.size = ns.length := by have z := IntsAre.length whole; simpa only [Array.length_toList] using z
  have at0 : (s.heap.push (blank w)).get? s.heap.objs.size = some (blank w) := Heap.get?_push_size _ rfl
  have ty : Shared.TypeIs { s with heap := s.heap.push (blank w) } (.ref s.heap.objs.size) "set" := ⟨_, at0, rfl⟩
  have isL1 : (s.heap.push (blank w)).IsList l items := isL.push _
  have hl : l < s.heap.objs.size := by obtain ⟨o, e, _⟩ := isL; exact Heap.lt_size e
  refine codeAny_call_builtin F.called_set.init.plain F.entry_set_init (check_set_init_1 ty ?_)
  obtain ⟨ol, eol, cl, nl, dl⟩ := isL1
  obtain ⟨c0, d0, x0, s0⟩ := ol
  simp only at cl dl; subst cl dl
  have f1 := F.sub_list_set; have f2 := F.sub_list_frozenset
  have f3 : (Value.type "list" == Value.type "dict") = false := by decide
  have again : (s.heap.push (blank w)).IsList l items := ⟨_, eol, rfl, nl, rfl⟩
  unfold Builtin.«set.__init__» noKeywords Builtin.Frozenset.updateFrom
  generalize hI : pyIter = I0
  wp_walk
  subst hI
  refine wpAny_pyIter_list again (wpAny_bind (wpAny_runValue ?_))
  have c3 : A.in1.in1.in1.handled = none := by simp [calm]
  have s1 : (s.heap.push (blank w)).objs.size = s.heap.objs.size + 1 := Heap.size_push ..
  have nI : l ≠ (s.heap.push (blank w)).objs.size := fun z => absurd (z.trans s1) (Nat.ne_of_lt (Nat.lt_succ_of_lt hl))
  have nS : s.heap.objs.size ∉ [(s.heap.push (blank w)).objs.size, l] := by
    intro z; rcases List.mem_cons.mp z with z | z
    · exact absurd (z.trans s1) (Nat.ne_of_lt (Nat.lt_succ_self _))
    · exact absurd (List.mem_singleton.mp z) (Nat.ne_of_gt hl)
  have each : ∀ (i : Nat) (v : Value), items[i]? = some v → ∃ k t, ns[i]? = some k ∧ v = .int k t := fun i v hv => by
    have hi : i < ns.length := by have := (Array.getElem?_eq_some_iff.mp hv).1; omega
    obtain ⟨t, e⟩ := IntsAre.int_at whole i v (by rw [Array.getElem?_toList]; exact hv)
    exact ⟨ns[i], t, List.getElem?_eq_getElem hi, by rw [e, List.getD_eq_getElem?_getD, List.getElem?_eq_getElem hi]; rfl⟩
  have W := (Walks.list (prog := P) (w := w) (A := A.in1.in1) c3 (s.heap.push (blank w)).objs.size l nI items).toS
  refine set_update_ints W s.heap.objs.size nS ns sz few each (items.size - 0) 0 _ rfl (Nat.zero_le _) ⟨⟨_, Heap.get?_push_size _ rfl, rfl, rfl⟩, again.push _⟩ ⟨0, Nat.le_refl 0, ?_⟩ ?_
  · exact setR_new_at (Heap.get?_push_of_some _ at0)
  · rintro ⟨h2, g2, d2, t2, o2⟩ c mv hc hs
    have e1 : g2 = s.gens := mv.gens
    have e2 : d2 = s.drawn := mv.drawn
    have e3 : o2 = s.os := mv.os
    subst e1 e2 e3
    refine wpAny_pure (wpAny_pure ?_)
    rw [sz] at hc
    refine k h2 t2 c hs hc fun b o e => ?_
    have hb : b < s.heap.objs.size := Heap.lt_size e
    refine mv.heap b o (fun z => ?_) (Heap.get?_push_of_some _ (Heap.get?_push_of_some _ e))
    rcases List.mem_cons.mp z with z | z
    · exact absurd z (Nat.ne_of_lt hb)
    · exact absurd ((List.mem_singleton.mp z).trans s1) (Nat.ne_of_lt (Nat.lt_succ_of_lt hb))
theorem made {l : Addr} {items : Array Value} {ns : List Int} {Q : Value → Shared → Prop} (calm : A.handled = none) (isL : s.heap.IsList l items) (whole : IntsAre items.toList ns) (few : ns.length + 1 < scanBound)
    (k : ∀ (h2 : Heap) (tk c : Nat), SetR w h2 s.heap.objs.size (fun j => decide (j ∈ ns)) c → c ≤ ns.length → (∀ b o, s.heap.get? b = some o → h2.get? b = some o) → Q (.ref s.heap.objs.size) { s with heap := h2, toks := tk }) :
    wpAny (model P w) A (call (.type "set") [.ref l]) Q E s := by
  obtain ⟨c, tl, m0⟩ := F.called_set.mro
  have m1 := F.called_set.made; have m2 := F.called_set.sub
  refine wpAny_call (codeAny_of_tree (show wpAny _ _ (callAny (.type "set") _) _ _ _ from wpAny_pure ⟨Code.quiet_builtin _ (by decide +kernel), codeAny_builtin F.entry_type_call ?_⟩))
  rw [Around.under_plain (weight_type_call_type "set" [.ref l] []) rfl]
  have m3 := F.called_set.notType; have m4 := F.called_set.canCreate; have m5 := F.typeCall_set_1 (.ref l)
  repeat (any_goals (first | assumption | wp_step))
  refine codeAny_mono (code_set_led1 (Q₁ := fun v s1 => v = .ref s.heap.objs.size ∧ s1 = { s with heap := s.heap.push (blank w) }) (.ref l) (E := E) ⟨rfl, rfl⟩) fun r s1 hr => ?_
  match r, hr with
  | .error e, hr => exact hr
  | .ok .next, hr => exact hr.elim
  | .ok .brk, hr => exact hr.elim
  | .ok .cont, hr => exact hr.elim
  | .ok (.ret v), hr =>
    obtain ⟨rfl, rfl⟩ := hr
    have ty : Shared.TypeIs { s with heap := s.heap.push (blank w) } (.ref s.heap.objs.size) "set" := ⟨_, Heap.get?_push_size _ rfl, rfl⟩
    have i1 := F.called_set.init.lookup; have i2 := F.called_set.init.bind (.ref s.heap.objs.size)
    repeat (any_goals (first | assumption | wp_step))
    refine codeAny_mono (fill (R := fun v s2 => v = .none ∧ ∃ h2 tk c, s2 = { s with heap := h2, toks := tk } ∧ SetR w h2 s.heap.objs.size (fun j => decide (j ∈ ns)) c ∧ c ≤ ns.length ∧ ∀ b o, s.heap.get? b = some o → h2.get? b = some o) (E := E) (A := A.in1) (by simp [calm]) isL whole few fun h2 tk c x y z => ⟨rfl, h2, tk, c, rfl, x, y, z⟩) fun r s2 hr => ?_
    match r, hr with
    | .error e, hr => exact hr
    | .ok .next, hr => exact hr.elim
    | .ok .brk, hr => exact hr.elim
    | .ok .cont, hr => exact hr.elim
    | .ok (.ret v), hr =>
      obtain ⟨rfl, h2, tk, c, rfl, x, y, z⟩ := hr
      repeat (any_goals (first | assumption | wp_step))
      exact k _ _ _ x y z
end
/-- set(xs) of a list of ints, as a rule -/
def rSetL (K : PySem.W.Frag) (w : World) : List V → Hp → VK → Prop := fun xs H Q => ∃ (l : Addr) (ns : List Int), xs = [.ref l] ∧ SqL K H l (ns.map V.int) ∧ ns.length ≤ 1000 ∧ ∀ a c, H a = none → (∀ ms : List Int, (∀ k ∈ ns, k ∈ ms) → c ≤ ms.length) → Q (.ref a) (upd H a (SetO w a (fun j => decide (j ∈ ns)) c))
theorem ints_of : ∀ {ns : List Int} {us : List Value}, Vals (ns.map V.int) us → IntsAre us ns
  | [], _, .nil => .nil
  | n :: ns, _, .cons r t => by
    obtain ⟨k, rfl⟩ := r
    exact .cons n k (ints_of t)
theorem c_setL {X : Cx} (hc : X.calm = true) : CallR X (.type "set") (rSetL X.K X.w) := by
  intro pins s σ H xs us Q I r h
  obtain ⟨l, ns, rfl, hq, hl, q⟩ := h
  rw [Vals.ref1 r]
  obtain ⟨its, rv, pl, hz⟩ := I.list hq
  refine made (I.ok.hd hc) pl.isList (by simpa using ints_of rv) (by unfold scanBound; omega) fun h2 tk c hs hc2 hk => ?_
  have hn : H s.heap.objs.size = none := I.hok.fresh (Nat.le_refl _)
  have J : Inv X pins σ (upd H s.heap.objs.size (SetO X.w s.heap.objs.size (fun j => decide (j ∈ ns)) c)) { s with heap := h2, toks := tk } :=
    I.call (ch := []) (Un.laid hk (Nat.le_refl _) hn) (I.hok.laid hk (Nat.le_refl _) (setO_new hs)) I.bare (fun _ z => nomatch z)
  refine ⟨.ref s.heap.objs.size, _, J, rfl, q _ _ hn fun ms hm => ?_⟩
  obtain ⟨o, es, ep, t, _, _, _, _, nd, mem, _, _, sz, _⟩ := hs
  have z := nd.length_le_of_subset (l₂ := ms) fun k hk' => hm k (by simpa using (mem k).mpr hk')
  rw [List.length_map, Array.length_toList] at z
  omega
theorem sorted_one : ∀ {as bs : List Int}, as.Pairwise (· < ·) → bs.Pairwise (· < ·) → (∀ k, k ∈ as ↔ k ∈ bs) → as = bs
  | [], [], _, _, _ => rfl
  | [], b :: bs, _, _, h => nomatch (h b).mpr (List.mem_cons_self ..)
  | a :: as, [], _, _, h => nomatch (h a).mp (List.mem_cons_self ..)
  | a :: as, b :: bs, ha, hb, h => by
    rw [List.pairwise_cons] at ha hb
    have e : a = b := by
      rcases List.mem_cons.mp ((h a).mp (List.mem_cons_self ..)) with x | x
      · exact x
      · rcases List.mem_cons.mp ((h b).mpr (List.mem_cons_self ..)) with y | y
        · exact y.symm
        · have := hb.1 _ x; have := ha.1 _ y; omega
    subst e
    congr 1
    refine sorted_one ha.2 hb.2 fun k => ⟨fun x => ?_, fun x => ?_⟩
    · rcases List.mem_cons.mp ((h k).mp (List.mem_cons_of_mem _ x)) with y | y
      · have := ha.1 _ x; omega
      · exact y
    · rcases List.mem_cons.mp ((h k).mpr (List.mem_cons_of_mem _ x)) with y | y
      · have := hb.1 _ x; omega
      · exact y
end Sl
set_option Elab.async false
set_option linter.all false
set_option maxRecDepth 100000
set_option maxHeartbeats 4000000
namespace Wo
open PySem PySem.Spec PyProof.Rows L2 Evl Vr En
/-- set(xs), xs a list of ints: as many as they are, if no one stands twice -/
def rSetN (K : PySem.W.Frag) (w : World) : List V → Hp → VK → Prop := fun xs H Q => ∃ (l : Addr) (ns : List Int), xs = [.ref l] ∧ SqL K H l (ns.map V.int) ∧ ns.length ≤ 1000 ∧ ns.Nodup ∧ ∀ a, H a = none → Q (.ref a) (upd H a (SetO w a (fun j => decide (j ∈ ns)) ns.length))
theorem c_setN {X : Cx} (hc : X.calm = true) : CallR X (.type "set") (rSetN X.K X.w) := by
  intro pins s σ H xs us Q I r h
  obtain ⟨l, ns, rfl, hq, hl, hnd, q⟩ := h
  rw [Vals.ref1 r]
  obtain ⟨its, rv, pl, hz⟩ := I.list hq
  refine Sl.made (I.ok.hd hc) pl.isList (by simpa using Sl.ints_of rv) (by unfold scanBound; omega) fun h2 tk c hs hc2 hk => ?_
  have hn : H s.heap.objs.size = none := I.hok.fresh (Nat.le_refl _)
  have hc3 : c = ns.length := by
    obtain ⟨o, es, ep, t, _, _, _, _, nd, mem, _, _, sz, _⟩ := id hs
    have z : ns.length ≤ es.size := by
      have z0 := hnd.length_le_of_subset (l₂ := es.toList.map keyOf) fun k hk' => (mem k).mp (decide_eq_true hk')
      simpa using z0
    omega
  subst hc3
  have J : Inv X pins σ (upd H s.heap.objs.size (SetO X.w s.heap.objs.size (fun j => decide (j ∈ ns)) ns.length)) { s with heap := h2, toks := tk } :=
    I.call (ch := []) (Un.laid hk (Nat.le_refl _) hn) (I.hok.laid hk (Nat.le_refl _) (setO_new hs)) I.bare (fun _ z => nomatch z)
  exact ⟨.ref s.heap.objs.size, _, J, rfl, q _ hn⟩
/-- len of such a set -/
def rLenN (w : World) : List V → Hp → VK → Prop := fun xs H Q => ∃ (a : Addr) (S : Int → Bool) (n : Nat), xs = [.ref a] ∧ H a = some (SetO w a S n) ∧ Q (.int n) H
theorem c_lenN {X : Cx} : CallR X (.builtin "len") (rLenN X.w) := by
  intro pins s σ H xs us Q I r h
  obtain ⟨a, S, n, rfl, ha, q⟩ := h
  rw [Vals.ref1 r]
  obtain ⟨o, es, ep, t, ho, ex, hd, _, _, _, hlt, hf, sz, _⟩ := setO_get I ha
  subst sz
  exact call_len_set (o := o) (es := es) (ep := ep) (t := t) ho ex hd hf (by unfold scanBound at hlt; omega) ⟨.int es.size, H, I.tok _, ⟨_, rfl⟩, q⟩
end Wo
set_option Elab.async false
set_option linter.all false
set_option maxRecDepth 100000
set_option maxHeartbeats 4000000
namespace Tx
open PySem PySem.Spec PyProof.Rows L2 Evl Vr En Wo
/-- list(text) -/
def rListStr : List V → Hp → VK → Prop := fun xs H Q => ∃ z, xs = [.str z] ∧ z.length ≤ sizeLine ∧ ∀ p, H p = none → Q (.ref p) (upd H p (.lst (z.cps.toList.map fun c => V.str (S [c]))))
theorem vals_of : ∀ (xs : List V) (us : List Value), xs.length = us.length → (∀ (i : Nat) (x : V) (u : Value), xs[i]? = some x → us[i]? = some u → RelV x u) → Vals xs us
  | [], [], _, _ => .nil
  | [], _ :: _, h, _ => by cases h
  | _ :: _, [], h, _ => by cases h
  | x :: xs, u :: us, h, k => .cons (k 0 x u rfl rfl) (vals_of xs us (by simpa using h) fun i y v a b => k (i + 1) y v a b)
theorem c_listStr {X : Cx} (hc : X.calm = true) : CallR X (.type "list") rListStr := by
  intro pins s σ H xs us Q I r h
  obtain ⟨z, rfl, hz, q⟩ := h
  obtain ⟨u, rfl, t, rfl⟩ := vals1 r
  refine call_list_str (hn := hz) (I.ok.hd hc) z t fun h' tk acc' c' kp e hi => ?_
  have hv : Vals (z.cps.toList.map fun c => V.str (S [c])) acc'.toList := by
    refine vals_of _ _ (by rw [List.length_map, Array.length_toList, Array.length_toList]; exact hi.1.symm) fun i x u hx hu => ?_
    rw [List.getElem?_map] at hx
    rw [Array.getElem?_toList] at hu
    obtain ⟨c, w, h1, rfl⟩ := hi.2 i u hu
    rw [Array.getElem?_toList, h1] at hx
    cases hx
    exact ⟨w, rfl⟩
  exact ⟨.ref s.heap.objs.size, _, I.laid (t' := tk) kp (Nat.le_refl _) (show ObjOk X.prog X.w _ h' _ (.lst (z.cps.toList.map fun c => V.str (S [c]))) from ⟨by rw [List.length_map, Array.length_toList]; exact hz, acc'.toList, c', hv, by rw [e]⟩), rfl, q _ (I.hok.fresh (Nat.le_refl _))⟩
abbrev vS (l : List Nat) : V := .str (S l)
section
variable {σ : L2.St} {H H' : Hp} {te ta tb tc tn to tl tk tv td ty tx : TE} {t : TT} {tr ts : TA} {tz tu : TS} {D : Ends} {K : PySem.W.Frag} {w : World} {x y z v : V} {g : TG} {l m : List Nat}
theorem el_split {c : Nat} (hc : c < 256) (h : Ev to σ H (vS l)) (h2 : ∀ H1, Ex H H1 → Ev te σ H1 (vS [c])) (hl : l.length ≤ 100000) : EvL (tM1 (fun x xs H Q => ∃ a b, x = .str a ∧ xs = [.str b] ∧ (b.length == 0) = false ∧ a.length + 2 ≤ sizeLine ∧ rNewStrs (Txt.split a b) H Q) to te) σ H ((splitL c l).map vS) := fun H1 e Q q =>
  h H1 e _ fun H2 e2 => ⟨⟨_, rfl⟩, h2 H2 (e.trans e2) H2 (Ex.refl H2) _ fun H3 e3 => ⟨_, _, rfl, rfl, rfl, by rw [S_len]; exact Nat.le_trans (Nat.add_le_add_right hl 2) (by decide), fun p hp => by
    have e4 : (Txt.split (S l) (S [c])).map V.str = (splitL c l).map vS := by rw [split_S hc, List.map_map]; rfl
    rw [e4]
    exact q p _ (fresh_back (e2.trans e3) hp) ((e2.trans e3).trans (Ex.new hp)) upd_same⟩⟩
def lenAll (ps : List (List Nat)) : Nat := (ps.map List.length).sum + ps.length
theorem joinL_le (c : Nat) : ∀ ps : List (List Nat), (joinL c ps).length ≤ lenAll ps
  | [] => Nat.le_refl _
  | [p] => by simp [joinL, lenAll]
  | p :: q :: r => by
    have := joinL_le c (q :: r)
    show (p ++ c :: joinL c (q :: r)).length ≤ _
    simp only [lenAll, List.map_cons, List.sum_cons, List.length_cons, List.length_append] at this ⊢
    omega
theorem sum_len (ps : List (List Nat)) : ((ps.map S).map (·.length)).sum = (ps.map List.length).sum := by
  rw [List.map_map]
  exact congrArg List.sum (List.map_congr_left fun p _ => S_len p)
/-- sep.join(a new list) -/
theorem ev_joinN {c : Nat} {ps : List (List Nat)} (h : Ev to σ H (vS [c])) (h2 : ∀ H1, Ex H H1 → EvL te σ H1 (ps.map vS)) (hl : lenAll ps ≤ 100000) : Ev (tM1 (fun x xs H Q => ∃ a p, ∃ ys : List Str, x = .str a ∧ xs = [.ref p] ∧ (SqL K H p (ys.map V.str) ∨ SqT K H p (ys.map V.str)) ∧ (ys.map (·.length)).sum + ys.length * a.length ≤ 16777216 ∧ Q (.str (Txt.join a ys)) H) to te) σ H (vS (joinL c ps)) := fun H1 e Q q =>
  h H1 e _ fun H2 e2 => ⟨⟨_, rfl⟩, h2 H2 (e.trans e2) H2 (Ex.refl H2) _ fun p H3 hp e3 h3 => ⟨_, p, ps.map S, rfl, rfl, .inl (sq_of (by rw [List.map_map]; exact h3)), by
    rw [sum_len, List.length_map, S_len]
    unfold lenAll at hl
    show _ + ps.length * 1 ≤ _
    omega, by rw [join_S]; exact q H3 (e2.trans e3)⟩⟩
theorem ev_joinV {c : Nat} {ps : List (List Nat)} {p : Addr} (h : Ev to σ H (vS [c])) (h2 : ∀ H1, Ex H H1 → Ev te σ H1 (.ref p)) (hp : SqL K H p (ps.map vS)) (hl : lenAll ps ≤ 100000) : Ev (tM1 (fun x xs H Q => ∃ a p, ∃ ys : List Str, x = .str a ∧ xs = [.ref p] ∧ (SqL K H p (ys.map V.str) ∨ SqT K H p (ys.map V.str)) ∧ (ys.map (·.length)).sum + ys.length * a.length ≤ 16777216 ∧ Q (.str (Txt.join a ys)) H) to te) σ H (vS (joinL c ps)) := fun H1 e Q q =>
  h H1 e _ fun H2 e2 => ⟨⟨_, rfl⟩, h2 H2 (e.trans e2) H2 (Ex.refl H2) _ fun H3 e3 => ⟨_, p, ps.map S, rfl, rfl, .inl (by rw [List.map_map]; exact ex_l ((e.trans e2).trans e3) hp), by
    rw [sum_len, List.length_map, S_len]
    unfold lenAll at hl
    show _ + ps.length * 1 ≤ _
    omega, by rw [join_S]; exact q H3 (e2.trans e3)⟩⟩
theorem ev_m1 {r : V → List V → Hp → VK → Prop} {a b : Str} (h : Ev to σ H (.str a)) (h2 : ∀ H1, Ex H H1 → Ev te σ H1 (.str b)) (hr : ∀ H1 Q, Q z H1 → r (.str a) [.str b] H1 Q) : Ev (tM1 r to te) σ H z := fun H1 e Q q =>
  h H1 e _ fun H2 e2 => ⟨⟨_, rfl⟩, h2 H2 (e.trans e2) H2 (Ex.refl H2) _ fun H3 e3 => hr H3 Q (q H3 (e2.trans e3))⟩
theorem ev_m0 {r : V → List V → Hp → VK → Prop} {a : Str} (h : Ev to σ H (.str a)) (hr : ∀ H1 Q, Q z H1 → r (.str a) [] H1 Q) : Ev (tM0 r to) σ H z := fun H1 e Q q =>
  h H1 e _ fun H2 e2 => ⟨⟨_, rfl⟩, hr H2 Q (q H2 e2)⟩
def rIntS : List V → Hp → VK → Prop := fun xs H Q => ∃ a n, xs = [.str a] ∧ PySem.intText? a = some n ∧ a.length ≤ 640 ∧ Q (.int n) H
theorem c_intS {X : Cx} : CallR X (.type "int") rIntS := call_int_str
theorem rc_intS {n : Int} (h : PySem.intText? (S l) = some n) (hl : l.length ≤ 640) : RC rIntS [vS l] H (.int n) := fun H1 _ _ q => ⟨_, n, rfl, h, by rw [S_len]; exact hl, q H1 (Ex.refl H1)⟩
def rStrI : List V → Hp → VK → Prop := fun xs H Q => ∃ i, xs = [.int i] ∧ i.natAbs.log2 < 1920 ∧ Q (.str (toString i)) H
theorem c_strI {X : Cx} : CallR X (.type "str") rStrI := call_str_int
theorem rc_strI {i : Int} (h : i.natAbs.log2 < 1920) : RC rStrI [.int i] H (.str (toString i)) := fun H1 _ _ q => ⟨i, rfl, h, q H1 (Ex.refl H1)⟩
theorem ev_slS {lo hi : Option Int} {t1 t2 : TO} (h : Ev te σ H (vS l)) (h1 : ∀ H1, Ex H H1 → EvO t1 σ H1 lo) (h2 : ∀ H1, Ex H H1 → EvO t2 σ H1 hi) (hl : l.length ≤ 100000) : Ev (L2.tSl rSlS te t1 t2) σ H (vS ((l.drop (HT.sIx l.length 0 lo)).take (HT.sIx l.length l.length hi - HT.sIx l.length 0 lo))) := fun H1 e Q q =>
  h H1 e _ fun H2 e2 => h1 H2 (e.trans e2) H2 (Ex.refl H2) _ fun H3 e3 => h2 H3 ((e.trans e2).trans e3) H3 (Ex.refl H3) _ fun H4 e4 => ⟨S l, rfl, by rw [S_len]; exact sz_of hl, by
    have e5 : cutS (S l) lo hi = S ((l.drop (HT.sIx l.length 0 lo)).take (HT.sIx l.length l.length hi - HT.sIx l.length 0 lo)) := by
      unfold cutS
      rw [S_len]
    rw [e5]
    exact q H4 ((e2.trans e3).trans e4)⟩
/-- [e for sign in text if t] -/
theorem el_lcS {j : Nat} {vs : List Nat} (f : Nat → Bool) (v : Nat → V) (h : Ev tl σ H (vS l)) (hz : l.length ≤ 40000) (hw : ∀ x, wipe ((wipe σ vs).set j (some x)) vs = wipe σ vs)
    (ht : ∀ (i c : Nat) H1, Ex H H1 → l[i]? = some c → EvT t ((wipe σ vs).set j (some (vS [c]))) H1 (f i)) (he : ∀ (i c : Nat) H1, Ex H H1 → l[i]? = some c → f i = true → Ev te ((wipe σ vs).set j (some (vS [c]))) H1 (v i)) :
    EvL (tLc (iStr tl) (gName j) t te vs) σ H (given l.length f v) := fun H0 e Q q => h H0 e _ fun H1 e1 => ⟨S l, rfl, fun Dl hD =>
  lc_it (n := l.length) (by have := walk_str (z := S l); simpa using this) (Cw H1 f v Dl) ⟨hD, Ex.new hD, upd_same⟩ (fun i H' _ p => trivial) (fun i x H' H'' hi p y => by
    obtain ⟨rfl, c, hc, rfl⟩ := y
    have hc' : l[i]? = some c := by simpa using hc
    exact ⟨hw _, cw_turn p (by omega) (ht i c H1 (e.trans e1) hc') (fun hf => he i c H1 (e.trans e1) hc' hf)⟩)
    (fun H' p => q Dl H' (fresh_back e1 p.1) (e1.trans p.2.1) p.2.2)⟩
theorem el_listS (h : Ev te σ H (vS l)) (hl : l.length ≤ 100000) : EvL (tCB rListStr (tCons te tNil)) σ H (l.map fun c => vS [c]) := fun H1 e Q q =>
  h H1 e _ fun H2 e2 => ⟨_, rfl, by rw [S_len]; exact sz_of hl, fun p hp => q p _ (fresh_back e2 hp) (e2.trans (Ex.new hp)) upd_same⟩
theorem ev_maxN {ns : List Int} {m : Int} (ha : EvL ta σ H (ns.map V.int)) (hm : m ∈ ns) (hl : ∀ y ∈ ns, y ≤ m) : Ev (tCB (rMax K) (tCons ta tNil)) σ H (.int m) := fun H1 e Q q =>
  ha H1 e _ fun p H2 _ e2 h2 => ⟨p, ns, rfl, sq_of h2, List.length_pos_of_mem hm, fun m' h1 h3 => by
    have e4 : m' = m := Int.le_antisymm (hl m' h1) (h3 m hm)
    rw [e4]
    exact q H2 e2⟩
theorem el_rev {xs : List V} (h : EvL te σ H xs) : EvL (tRevL K te) σ H xs.reverse := fun H1 e Q q =>
  h H1 e _ fun p H2 hp e2 h2 => ⟨p, xs, rfl, sq_of h2, fun r hr => q r _ (fresh_back e2 hr) (e2.trans (Ex.new hr)) upd_same⟩
theorem rv_cat {a b : Str} (h : (a ++ b).length ≤ sizeLine) {r : R2} (hr : ∀ H1 Q, Q (.str (a ++ b)) H1 → r (.str a) (.str b) H1 Q) : RV r (.str a) (.str b) H (.str (a ++ b)) := fun H1 _ Q q => hr H1 Q (q H1 (Ex.refl H1))
end
end Tx
set_option Elab.async false
set_option linter.all false
set_option maxRecDepth 100000
set_option maxHeartbeats 2000000
/-! own exceptions with their own __init__, over any base class of the kit's -/
namespace PySem
namespace Xi
open PySem.W PySem.Calls PyProof.Rows PySem.HandSPX Builtin Builtin.ObjectAttr
structure Bs (B ni ii : String) (tl : List Value) : Prop where
  F : ExcBaseFacts B ni ii tl
  pass : ∀ self, refuseLoop self "__setattr__" tl = pure ()
  ob : tl.contains (.type "object") = true
theorem bsIndex : Bs "IndexError" "IndexError.__new__" "IndexError.__init__" [.type "IndexError", .type "LookupError", .type "Exception", .type "BaseException", .type "object"] := ⟨F.excBase_IndexError, F.store_IndexError.passes, by decide +kernel⟩
variable {prog : Program} {w : World} {R : Result → Shared → Prop} {hp : Heap} {g : Array GenState} {d : Drawn} {t : Nat} {os : OsState} {A : Around}
theorem osaG {B ni ii : String} {tl : List Value} (b : Bs B ni ii tl) {K : W.Frag} {nm : Str} {tk : Tok} {y : Value} {e C : Addr} {fv : Array Value} {cd : ClassData} (kin : K.In hp)
    (at_ : hp.get? e = some { cls := .ref C, data := .fields fv }) (cl : W.clsIn K C = some cd) (mr : cd.mro = .ref C :: tl) (hd : cd.hasDict = true) (no : W.findIn K (.ref C) nm = some none)
    (fin : ∀ h' tk' dx, (∀ b o, b ≠ e → hp.get? b = some o → h'.get? b = some o) → hp.objs.size ≤ dx → dx ≠ e → h'.get? e = some { cls := .ref C, dict := some dx, data := .fields fv } → h'.Ns1 dx (fun z => if z = nm then some y else none) → R (.ok (.ret .none)) ⟨h', g, d, tk', os⟩) :
    codeAny (model prog w) A (.call (.builtin "object.__setattr__") ⟨[.ref e, .str nm tk, y], []⟩) R ⟨hp, g, d, t, os⟩ := by
  have J : W.InstAt hp e { cls := .ref C, data := .fields fv } C none := ⟨at_, rfl, rfl, trivial⟩
  have S := F.store_object; have isOb : cd.mro.contains (.type "object") = true := by rw [mr, List.contains_cons, b.ob, Bool.or_true]
  have notEmpty : cd.mro.isEmpty = false := by rw [mr]; rfl
  have far : e ≠ hp.objs.size := Nat.ne_of_lt (Heap.lt_size at_)
  have isSub : W.Looks (model prog w) hp (isInstance (.ref e) (.type "object")) true := J.type.andThen (W.looks_mroIn kin (by unfold W.mroIn; rw [cl, Option.bind_some, if_neg (by rw [notEmpty]; decide), isOb]))
  refine codeAny_call_builtin S.slot.plain S.entry (@W.check_slot (model prog w) _ _ ⟨hp, g, d, t, os⟩ "object.__setattr__" "object" "__setattr__" (.ref e) [.str nm tk, y] [] _ S.kind S.split isSub (S.args (.ref e) (.str nm tk) y) ?_)
  have lm : W.Looks (model prog w) hp (mroOf (.ref C)) cd.mro := (W.looks_clsIn kin cl).andThen .now
  have lt : W.Looks (model prog w) hp (storeTaker? none) none := .now
  have lc : W.Looks (model prog w) hp (classData C) cd := W.looks_clsIn kin cl
  rw [W.osa_eq, refuse_eq]; refine wpAny_bind (wpAny_bind (J.type.at (wpAny_bind (lm.at ?_))))
  rw [mr, refuseLoop_ref, b.pass]; refine wpAny_pure (wpAny_bind (J.type.at (wpAny_bind ((W.looks_findIn kin no).at (wpAny_bind (lt.at ?_))))))
  show wpAny _ _ (storeInOwnDict (.ref e) (.ref C) (.str nm tk) nm y false) _ _ _
  obtain ⟨_, _, _, _, _, hd', _, _, _, _, _⟩ := cd; dsimp only at hd; subst hd; unfold storeInOwnDict ownDictForStores
  repeat (first | with_reducible refine store_in_new ?_ ?_ | with_reducible refine wpAny_loadPart_at at_ ?_ | with_reducible refine lc.at ?_ | wp_step)
  · exact ⟨_, #[], _, (Heap.get?_update_ne _ _ _ _ far.symm).trans (Heap.get?_push_at rfl rfl), rfl, fun _ z => absurd z (by simp), fun _ => rfl⟩
  · intro h' tk' ns' sb
    have at2 : (hp.push { cls := .type "dict", data := .dict #[] }).get? e = some { cls := .ref C, data := .fields fv } := Heap.get?_push_of_some _ at_
    refine fin h' tk' hp.objs.size (fun b o nb ho => ?_) (Nat.le_refl _) far.symm ((sb.2 e far).trans (Heap.get?_update_self _ at2 rfl)) ns'
    exact (sb.2 b (Nat.ne_of_lt (Heap.lt_size ho))).trans ((Heap.get?_update_ne _ _ _ _ nb).trans (Heap.get?_push_of_some _ ho))
end Xi
end PySem
namespace L2
open PySem PySem.Spec PyProof.Rows
/-- what the written part says of such a class -/
structure OxG (K : PySem.W.Frag) (C : Addr) (ni : String) (tl : List Value) : Prop where
  cls : ∃ nm q N bs sn sub ab col dd k0 k1 k2 k3 k5, K.lookup C = some (excClassObj nm q C N bs tl true sn sub ab col dd k0 k1 k2 k3 k5 ni)
  sa : PySem.W.findIn K (.ref C) "__setattr__" = some (some (.builtin "object.__setattr__"))
  exC : PySem.W.subIn K (.ref C) (.type "BaseException") = some true
  tyC : PySem.W.typeIn K (.ref C) = some (.type "type")
  kC : PySem.W.keepIn K (.ref C) = true
section
variable {X : Cx} {pins : List (Addr × Obj)} {σ : St} {H : Hp} {s : Shared} {a C : Addr} {f : Str} {y : V} {u : Value} {Q : Unit → Shared → Prop} {E : Value → Shared → Prop} {A : Around} {B ni ii : String} {tl : List Value}
theorem osG_new (b : PySem.Xi.Bs B ni ii tl) (T : OxG X.K C ni tl) (I : Inv X pins σ H s) (e : H a = some (exo a C none)) (hno : PySem.W.findIn X.K (.ref C) f = some none) (ry : RelV y u)
    (h : ∀ dx s', H dx = none → dx ≠ a → Inv X pins σ (upd (upd H dx (exd dx [(f, y)])) a (exo a C (some dx))) s' → Q () s') : wpAny (model X.prog X.w) A (setAttr (.ref a) f u) Q E s := by
  obtain ⟨nm, q, N, bs, sn, sub, ab, col, dd, k0, k1, k2, k3, k5, hC⟩ := T.cls
  have cl : PySem.W.clsIn X.K C = some { name := nm, bases := bs, mro := .ref C :: tl, ns := N, qualname := q, hasDict := true, slotNames := sn, subclasses := sub, abstract := ab, collection := col, hasDel := false } := by unfold PySem.W.clsIn; rw [hC] <;> rfl
  obtain ⟨t1, at_⟩ := exo_at I.hok e; obtain ⟨hp, g, d, t, os⟩ := s
  refine PySem.W.set_plain I.kIn (ox := { cls := .ref C, dict := none, data := .fields #[.ref t1, .none, .none, .none, .bool false, .none] }) (od := none) ⟨at_, rfl, rfl, trivial⟩ T.sa ?_
  refine PySem.Xi.osaG b I.kIn at_ cl rfl rfl hno (fun h' tk' dx kp big ne there ns' => ?_)
  have fr : H dx = none := I.hok.fresh big
  have n1 : ∀ {b : Addr} {o : Obj}, hp.get? b = some o → b ≠ dx := fun {b o} z => Nat.ne_of_lt (Nat.lt_of_lt_of_le (Heap.lt_size z) big)
  have n2 : ∀ {b : Addr}, H b = none → b ≠ a := fun {b} n z => by rw [z, e] at n; cases n
  have un : Un X.fs [] H (upd (upd H dx (exd dx [(f, y)])) a (exo a C (some dx))) hp h' := {
    keep := fun b o z n _ _ => kp b o (n2 n) z
    slot := fun b o z n _ _ => ⟨o.slots, kp b o (n2 n) z⟩
    free := fun b o z n _ => by rw [upd_ne (n2 n), upd_ne (n1 z)]; exact n
    there := fun b o z _ => by
      by_cases hb : b = a
      · rw [hb]; exact ⟨_, there⟩
      · exact ⟨o, kp b o hb z⟩
    tups := fun b xs z => by rw [upd_ne (at_ne e z exo_tup), upd_ne (ne_of_none z fr)]; exact z
    frzs := fun b o v z => by rw [upd_ne (at_ne e z exo_frz), upd_ne (ne_of_none z fr)]; exact z
    tbls := fun b ps z => ⟨#[], by rw [upd_ne (at_ne e z exo_tbl), upd_ne (ne_of_none z fr), z]; simp⟩ }
  refine h dx _ fr ne (I.un (t' := tk') un fun b o z => ?_)
  by_cases hb : b = a
  · subst hb; rw [upd_same] at z; cases z; exact exo_ok there
  · rw [upd_ne hb] at z
    by_cases hd : b = dx
    · subst hd; rw [upd_same] at z; cases z; exact exd_ok ns' (relO_put (fs := []) ry fun _ => True.intro)
    · rw [upd_ne hd] at z
      refine (I.hok b o z).stay (fun c v hc p => kp c v ?_ p) (fun c hc => by rw [upd_ne (at_ne e hc exo_own), upd_ne (ne_of_none hc fr)]; exact hc) (fun c xs hc => by rw [upd_ne (at_ne e hc exo_tup), upd_ne (ne_of_none hc fr)]; exact hc)
      rcases hc with hc | hc
      · rw [hc]; exact hb
      · exact at_ne e hc exo_own
/-- self.f = e, the first field of an exception in the making -/
def tOsG (K : PySem.W.Frag) (ni : String) (tl : List Value) (f : Str) (to te : TE) : TS := fun D σ H => te σ H fun y H1 => to σ H1 fun x H2 => ∃ a C : Addr, x = .ref a ∧ OxG K C ni tl ∧ PySem.W.findIn K (.ref C) f = some none ∧
  H2 a = some (exo a C none) ∧ ∀ dx, H2 dx = none → dx ≠ a → D.nx σ (upd (upd H2 dx (exd dx [(f, y)])) a (exo a C (some dx)))
theorem ps_osG {o e : Expr} {to te : TE} {p' pos : Pos} (b : PySem.Xi.Bs B ni ii tl) (ho : PE X o to) (he : PE X e te) (hs : swapsWith e (some (.Attribute o f p')) pos.line X.env = pure false := by rfl) : PS X (.Assign [.Attribute o f p'] e pos) (tOsG X.K ni tl f to te) := by
  refine ⟨fun pins s σ H D I h => plainObj_wpAny_Assign_Attribute (thn (he.run pins s σ H _ I h) fun v s1 ⟨y, H1, I1, r1, q1⟩ => thn (ho.run pins s1 σ H1 _ I1 q1) fun u s2 ⟨x, H2, I2, r2, a, C, ex, T, hno, ea, q⟩ => ?_) hs⟩
  subst ex; obtain rfl : u = Value.ref a := r2
  exact osG_new b T I2 ea hno r1 fun dx s' n ne J => ⟨σ, _, J, q dx n ne⟩
/-- C(e, ..), C's own __init__ keeping sp, over a base class b -/
theorem pmk_oxG {e : Expr} {es : List Expr} {ta : TA} {p pos : Pos} {CX : CXT} {x : Str} {fI : Addr} {k : Nat} {fd : FuncData} {ps : List Str} {sp : Sp} {ds : List Value} {dvs : List V} (b : PySem.Xi.Bs B ni ii tl) (T : OxG X.K C ni tl)
    (iC : PySem.W.findIn X.K (.ref C) "__init__" = some (some (.ref fI))) (tI : PySem.W.typeIn X.K (.ref fI) = some (.type "function")) (F1 : FnOk X.prog X.w X.K X.mg X.base CX k fI fd ps sp) (hr : Room (k + 1) X.A) (hb : Binds X.K fd ps ds) (hd : Vals dvs ds)
    (hx : Passes CX X (fun _ _ _ => False)) (hg : Gl X x) (hm : X.mg x = some (.ref C)) (ha : PA X (e :: es) ta) (hdb : (x == ("__debug__" : Str)) = false := by decide) (he : starEach (e :: es) X.env = (false, eval e X.env) :: starEach es X.env := by rfl)
    (hpl : (backTo pos (starEach es X.env)).any (·.1) = false := by rfl) : PMk X (.Call (.Name x p) (e :: es) [] pos) (tMkO C sp dvs ta) := by
  intro pins s σ H Q I h
  obtain ⟨nm, q, N, bs, sn, sub, ab, col, dd, k0, k1, k2, k3, k5, hC⟩ := T.cls
  refine wpAny_Call_Name_kw (ld_glob I hg hm (PySem.W.callWith_K (h₀ := X.base) I.ok.mod.kin T.kC (thn (ha.run pos pins s σ H _ I h) fun us s1 ⟨vs, H1, I1, r1, hz, q1⟩ => ⟨I1.kIn, ?_⟩) he hpl) hdb)
  show wpAny _ _ (call (.ref C) us) _ _ _
  obtain ⟨hp, g, dr, tk, os⟩ := s1
  have big : hp.objs.size ≤ hp.objs.size + 1 := Nat.le_succ _
  have fr : H1 (hp.objs.size + 1) = none := I1.hok.fresh big
  have q2 := q1 (hp.objs.size + 1) fr
  have keep : ∀ b o, hp.get? b = some o → ((hp.push (PySem.W.kdv_tup us)).push (PySem.HandSPX.excO C hp.objs.size)).get? b = some o := fun b o z => Heap.get?_push_of_some _ (Heap.get?_push_of_some _ z)
  have there : ((hp.push (PySem.W.kdv_tup us)).push (PySem.HandSPX.excO C hp.objs.size)).get? (hp.objs.size + 1) = some (PySem.HandSPX.excO C hp.objs.size) := by heap_get
  have J : Inv X pins σ (upd H1 (hp.objs.size + 1) (exo (hp.objs.size + 1) C none)) ⟨(hp.push (PySem.W.kdv_tup us)).push (PySem.HandSPX.excO C hp.objs.size), g, dr, tk, os⟩ :=
    I1.laid (t' := tk) (o := exo (hp.objs.size + 1) C none) keep big (exo_ok there)
  have rr : Vals (V.ref (hp.objs.size + 1) :: (vs ++ dvs)) (Value.ref (hp.objs.size + 1) :: (us ++ ds)) := .cons rfl (r1.append hd)
  have len : (Value.ref (hp.objs.size + 1) :: us ++ ds).length = ps.length := by have z := rr.length; rw [F1.len _ _ _ _ q2] at z; exact z.symm
  have short : us.length ≤ sizeLine := by rw [← Paired.length r1, sizeLine_eq]; omega
  refine wpAny_call (PySem.HandSPX.call_own b.F (fun _ => rfl) (I1.kIn _ _ hC) (PySem.W.looks_findIn I1.kIn iC) (fun self => PySem.W.bind_fn I1.kIn self tI) short
    (codeAny_mono (F1.run _ X.stack _ _ ⟨Value.ref (hp.objs.size + 1) :: us, []⟩ (Value.ref (hp.objs.size + 1) :: (us ++ ds)) _ _ (fun _ _ _ => False) (hr.make C us []) (J.env0.make C us []) (hb _ (Value.ref (hp.objs.size + 1) :: us) J.kIn len) rr q2) fun r s' z => ?_))
  cases r with
  | error er => exact hx pins σ _ _ er s' J z
  | ok fl =>
    cases fl with
    | ret u =>
      obtain ⟨v, H2, os2, bare2, un2, hok2, rv, ev, d, fs, ea, ed, hd1, q3⟩ := z
      subst ev; obtain ⟨h2, g2, d2, t2, os'⟩ := s'
      exact ⟨rv, mk_end (raises_own T.exC T.tyC) I1 big keep un2 hok2 os2 bare2 ea ed hd1 q3⟩
    | next | brk | cont => exact z.elim
end
end L2
set_option Elab.async false
set_option linter.all false
set_option maxRecDepth 100000
set_option maxHeartbeats 2000000
/-! several except clauses, with and without names -/
namespace L2
open PySem PySem.Spec PyProof.Rows
structure Cl where
  c : Value
  nm : Option Nat
  ts : Addr → Value → Option Addr → TS
def endsC : Option Nat → Ends → Ends
  | none, D => D
  | some i, D => { nx := fun σ' H' => D.nx (σ'.set i none) H', rt := D.rt, bk := fun σ' H' => D.bk (σ'.set i none) H', ct := fun σ' H' => D.ct (σ'.set i none) H' }
def intoC : Option Nat → Addr → St → St
  | none, _, σ => σ
  | some i, a, σ => σ.set i (some (.ref a))
/-- what the clauses wish of an exception of the body, one behind the other -/
def wCls (K : PySem.W.Frag) (n : Nat) (Wout : WX) (D : Ends) : List Cl → WX
  | [] => Wout
  | k :: r => fun cls d σ H => ∃ b, PySem.W.exmOne K cls k.c = some b ∧ (b = true → ∀ a, H a = none → σ.length = n → k.ts a cls d (endsC k.nm D) (intoC k.nm a σ) H) ∧ (b = false → wCls K n Wout D r cls d σ H)
inductive HdsC (X : Cx) : List ExceptHandler → List Cl → Prop
  | nil : HdsC X [] []
  | plain {x : Str} {c : Value} {ts : Addr → Value → Option Addr → TS} {b₀ : Stmt} {suite : List Stmt} {np pos' : Pos} {hds : List ExceptHandler} {l : List Cl} (hc : Names X x c)
      (su : ∀ (a : Addr) (oe : Obj) (cls : Value) (d : Option Addr) (pn : List (Addr × Obj)), Zc cls d oe → (∃ vs, oe.data = .fields vs) → PSs (X.suite a ((a, oe) :: pn)) (b₀ :: suite) (ts a cls d)) (r : HdsC X hds l) :
      HdsC X (.ExceptHandler (some (.Name x np)) none (b₀ :: suite) pos' :: hds) (⟨c, none, ts⟩ :: l)
  | named {x n : Str} {i : Nat} {c : Value} {ts : Addr → Value → Option Addr → TS} {b₀ : Stmt} {suite : List Stmt} {np pos' : Pos} {hds : List ExceptHandler} {l : List Cl} (hc : Names X x c) (hN : X.N.Nodup) (hi : X.N[i]? = some n) (hl : X.env.kindOf n = some .local)
      (su : ∀ (a : Addr) (oe : Obj) (cls : Value) (d : Option Addr) (pn : List (Addr × Obj)), Zc cls d oe → (∃ vs, oe.data = .fields vs) → PSs (X.suite a ((a, oe) :: pn)) (b₀ :: suite) (ts a cls d)) (r : HdsC X hds l) :
      HdsC X (.ExceptHandler (some (.Name x np)) (some n) (b₀ :: suite) pos' :: hds) (⟨c, some i, ts⟩ :: l)
section
variable {X : Cx} {body : List Stmt} {h₀ : ExceptHandler} {hds : List ExceptHandler} {l : List Cl} {pos : Pos} {tb : WX → TS} {Wout : WX}
theorem ps_try_cls (hs : X.stack = X.env :: X.outer) (hf : X.env.frame = some X.env.locals) (tk : Takes X Wout)
    (bd : ∀ (W : WX) (pn : List (Addr × Obj)) (xe : Value → Shared → Prop), Takes (X.tr pn xe) W → PassesOwn (model X.prog X.w) X.A X.env xe → PSs (X.tr pn xe) body (tb W)) (hh : HdsC X (h₀ :: hds) l) :
    PS X (.Try body (h₀ :: hds) [] [] pos) (fun D σ H => tb (wCls X.K X.N.length Wout D l) D σ H) := by
  refine ⟨fun pins s σ H D I h => ?_⟩
  have ok := I.ok; have fr0 : X.A.frames = some (X.env :: X.outer) := by rw [ok.frames, hs]
  refine wpAny_Try_except (wpAny_mono ((bd (wCls X.K X.N.length Wout D l) (X.pn ++ pins) (fun e t1 => wpAny (model X.prog X.w) X.A (noteFrame e X.env) (fun _ t2 => wpAny (model X.prog X.w) X.A (setFlight e none) (fun _ t3 => wpAny (model X.prog X.w) X.A (handleBy e X.env (h₀ :: hds)) (SP X pins D) X.xe t3) X.xe t2) X.xe t1)
    (fun u s' xx => ?_) PassesOwn.looking).run [] s σ H D (I.toTry _) h) (fun f s1 e1 => ?_) (fun e s1 z => z))
  · obtain ⟨a, B, sI, pins', σ', H', cls, d, rfl, J', nb, up, sky, na, os, ag, wish⟩ := xx
    have J : Inv X pins σ' H' sI := J'.ofTry ok
    have sk : Sky B (X.env :: X.outer) a (Zc cls d) X.env.locals s'.heap := by rw [← hs]; exact sky
    show wpAny (model X.prog X.w) X.A (noteFrame (.ref a) X.env) _ _ _
    refine Sky.land Zc.steady fr0 hf sk fun h3 fl3 up3 => ?_
    have J3 : Inv X pins σ' H' { s' with heap := h3 } := J.landed nb fl3.1 (up.trans up3) os ag
    obtain ⟨oe3, vs3, he3, hz3, hd3⟩ := fl3.there
    have apart : a ∉ frs (X.env :: X.outer) := fun m => by obtain ⟨_, o', e', q⟩ := fl3.2.2.1.mem m; rw [he3] at e'; cases e'; exact q _ hd3
    have nL : a ≠ X.env.locals := fun z => apart (List.mem_filterMap.mpr ⟨X.env, List.mem_cons_self, by rw [hf, z]⟩)
    have nF : a ∉ X.fs := fun m => by obtain ⟨e, he, q⟩ := List.mem_filterMap.mp m; exact apart (List.mem_filterMap.mpr ⟨e, List.mem_cons_of_mem _ he, q⟩)
    have S3 := J3.suite he3 hd3 na nL nF
    have LT : PySem.W.Looks (model X.prog X.w) h3 (typeOf (.ref a)) cls := fun A Q E s k q => wpAny_typeOf_ref (k _ _ he3) (by rw [hz3.1]; exact q)
    have asked : ∀ {x : Str} {c : Value} {np : Pos}, Names X x c → ∀ {Q : Value → Shared → Prop} {E : Value → Shared → Prop}, Q c { s' with heap := h3 } → wpAny (model X.prog X.w) (X.A.mark (some (.ref a))) (eval (.Name x np) X.env) Q E { s' with heap := h3 } := fun {x c np} hc {Q E} q => by
      obtain ⟨hg, db, hm | ⟨hm, hv, hn⟩⟩ := hc
      · exact ld_glob (X := X.suite a ((a, oe3) :: (X.pn ++ pins))) S3 hg hm q db
      · exact ld_blt (X := X.suite a ((a, oe3) :: (X.pn ++ pins))) S3 hg hm hv q hn db
    have go : ∀ {hd2 : List ExceptHandler} {l2 : List Cl}, HdsC X hd2 l2 → wCls X.K X.N.length Wout D l2 cls d σ' H' → wpAny (model X.prog X.w) X.A (handleBy (.ref a) X.env hd2) (SP X pins D) X.xe { s' with heap := h3 } := by
      intro hd2 l2 hk
      induction hk with
      | nil =>
        intro wz
        refine wpAny_handleBy_nil ?_
        obtain ⟨k1, k2, k3, oe, vs, T, oT, ts', he, hz, hd, h1, hr⟩ := id fl3
        unfold PySem.passOn
        refine wpAny_bind (wpAny_field he hd h1 ?_)
        rw [if_neg (show ¬ ((Value.ref T == Value.none) = true) from by simp)]
        have out : wpAny (model X.prog X.w) X.A (setFlight (.ref a) X.env.frame) (fun _ s4 => wpAny (model X.prog X.w) X.A (throw (.ref a) : Sem Flow) (SP X pins D) X.xe s4) X.xe { s' with heap := h3 } := by
          rw [hf]
          exact HandSPX.setFlight_upZ fl3 fun h4 hh4 up4 => wpAny_throw (tk _ _ ⟨a, B, sI, pins, σ', H', cls, d, rfl, J, nb, (up.trans up3).trans up4, .inr (.inr (by rw [hs]; exact hh4)), na, os, ag, wz⟩)
        first
          | exact wpAny_bind (wpAny_pure (wpAny_bind out))
          | exact wpAny_bind out
      | @plain x c ts b₀ suite np pos' hd3' l3 hc su r ih =>
        intro wz
        obtain ⟨b, hb1, yes, no⟩ := wz
        refine wpAny_handleBy_cons (codeAny_handlers_test ?_) (by intro q; cases q)
        refine asked hc ((PySem.W.exm_one (M := model X.prog X.w) (J3.kIn) LT hb1).here ?_)
        cases b with
        | false => exact ih (no rfl)
        | true =>
          refine codeAny_handlers_suite (HandSPX.lands_againZ fl3 fun h4 fl4 up4 => ?_)
          have J4 : Inv X pins σ' H' { s' with heap := h4 } := J.landed nb fl4.1 ((up.trans up3).trans up4) os ag
          obtain ⟨oe4, vs4, he4, hz4, hd4⟩ := fl4.there
          refine wpAny_mono ((su a oe4 cls d (X.pn ++ pins) hz4 ⟨_, hd4⟩).run [] _ _ H' _ (J4.suite he4 hd4 na nL nF) (yes rfl a na J.len)) (fun f s6 z => ?_) (fun _ _ z => z.elim)
          cases f with
          | next | brk | cont => obtain ⟨σ6, H6, S6, q6⟩ := z; exact ⟨_, _, S6.unsuite ok, q6⟩
          | ret u => obtain ⟨v6, σ6, H6, S6, r6, q6⟩ := z; exact ⟨_, _, _, S6.unsuite ok, r6, q6⟩
      | @named x n i c ts b₀ suite np pos' hd3' l3 hc hN hi hln su r ih =>
        intro wz
        obtain ⟨b, hb1, yes, no⟩ := wz
        refine wpAny_handleBy_cons (codeAny_handlers_test ?_) (by intro q; cases q)
        refine asked hc ((PySem.W.exm_one (M := model X.prog X.w) (J3.kIn) LT hb1).here ?_)
        cases b with
        | false => exact ih (no rfl)
        | true =>
          refine codeAny_handlers_suite_as (HandSPX.lands_againZ fl3 fun h4 fl4 up4 => ?_)
          have J4 : Inv X pins σ' H' { s' with heap := h4 } := J.landed nb fl4.1 ((up.trans up3).trans up4) os ag
          obtain ⟨oe4, vs4, he4, hz4, hd4⟩ := fl4.there
          refine store_ok (X := X.suite a ((a, oe4) :: (X.pn ++ pins))) (v := .ref a) (J4.suite he4 hd4 na nL nF) hN hi (.inl hln) rfl (fun s5 S5 => ?_) (.inr hln)
          refine wpAny_mono ((su a oe4 cls d (X.pn ++ pins) hz4 ⟨_, hd4⟩).run [] s5 _ H' _ S5 (yes rfl a na J.len)) (fun f s6 z => ?_) (fun _ _ z => z.elim)
          have off : ∀ {σ6 : St} {H6 : Hp} {Q : Shared → Prop}, Inv (X.suite a ((a, oe4) :: (X.pn ++ pins))) [] σ6 H6 s6 → (∀ s7, Inv X pins (σ6.set i none) H6 s7 → Q s7) → wpAny (model X.prog X.w) X.A (do bindName X.env n .none; unbindBehindTheSuite X.env n pos') (fun _ s7 => Q s7) X.xe s6 :=
            fun {σ6 H6 Q} S6 hq => gone_ok (S6.unsuite ok) hN hi hln hq
          cases f with
          | next | brk | cont => obtain ⟨σ6, H6, S6, q6⟩ := z; exact off S6 fun s7 J7 => ⟨_, _, J7, q6⟩
          | ret u => obtain ⟨v6, σ6, H6, S6, r6, q6⟩ := z; exact off S6 fun s7 J7 => ⟨_, _, _, J7, r6, q6⟩
    exact go hh wish
  · cases f with
    | next => obtain ⟨σ', H', J', q⟩ := e1; exact wpAny_execs_nil ⟨σ', H', J'.ofTry ok, q⟩
    | brk | cont => obtain ⟨σ', H', J', q⟩ := e1; exact ⟨σ', H', J'.ofTry ok, q⟩
    | ret u => obtain ⟨v, σ', H', J', r, q⟩ := e1; exact ⟨v, σ', H', J'.ofTry ok, r, q⟩
end
end L2
set_option Elab.async false
set_option linter.all false
set_option maxRecDepth 100000
set_option maxHeartbeats 2000000
/-! promises that are kept where no repr is under way (the guards are known to be none); repr of data -/
namespace L2
open PySem PySem.Spec PyProof.Rows
structure FnG (P : Program) (w : World) (K : PySem.W.Frag) (mg : Str → Option Value) (base : Heap) (CX : CXT) (k : Nat) (f : Addr) (fd : FuncData) (ps : List Str) (sp : Sp) : Prop where
  len : ∀ vs H Q E, sp vs H Q E → vs.length = ps.length
  go : ∀ (A : Around) (outer : List Env) (s : Shared) (H : Hp) (args : Args) (us : List Value) (vs : List V) (Q : VK) (E : XK), Room k A → A.guards = some [] → Env0 P w K mg base A outer s H → BindsTo s fd args (ps.zip us) → Vals vs us → sp vs H Q E →
    codeAny (model P w) A (.call (.ref f) args) (CR CX outer P w H s Q E) s
section
variable {P : Program} {w : World} {K : PySem.W.Frag} {mg : Str → Option Value} {base : Heap} {CX : CXT} {f : Addr} {fd : FuncData} {ps : List Str} {sp : Sp}
theorem FnG.of {k : Nat} (F : FnOk P w K mg base CX k f fd ps sp) : FnG P w K mg base CX k f fd ps sp := ⟨F.len, fun A outer s H args us vs Q E hr _ e0 hb r h => F.run A outer s H args us vs Q E hr e0 hb r h⟩
theorem Fun.okG {x qual : Str} {st : Stmt} {N : List Str} {k : Nat} (F : Fun K x qual st f fd) (S : FnScope N ps (defScope st)) (len : ∀ vs H Q E, sp vs H Q E → vs.length = ps.length)
    (hbody : ∀ (cdv : Value) (A : Around) (outer : List Env) (s : Shared) (H : Hp) (vs : List V) (Q : VK) (E : XK), Room k (A.deeper (envOfC qual (defScope st) s.heap.objs.size f cdv)) → A.guards = some [] → PySem.W.codeIn K cdv qual = true → sp vs H Q E →
      ∃ t, PSs (cxOf CX P w K mg base N qual (defScope st) f cdv A outer s H E) (defBody st) t ∧ t { nx := fun _ H' => Q .non H', rt := Q } (start N vs) H) : FnG P w K mg base CX (k + 1) f fd ps sp := by
  obtain ⟨oc, od, kV, doc, pm, an, cdv, ct, osl, rfl, lk, hcd⟩ := F.ex
  exact ⟨len, fun A outer s H args us vs Q E hr hg e0 hb r h => LamX.run_ofS lk hcd S hr e0 hb r (len _ _ _ _ h) fun hr2 => hbody cdv A outer s H vs Q E hr2 hg hcd h⟩
end
section
variable {X : Cx} {CX : CXT} {k : Nat} {f : Addr} {fd : FuncData} {ps : List Str} {sp : Sp} {dvs : List V} {ds : List Value} {E : XK} {x : Str} {p pos : Pos} {e : Expr} {es : List Expr} {t : TA}
theorem pe_callG (F : FnG X.prog X.w X.K X.mg X.base CX k f fd ps sp) (hr : Room k X.A) (gd : X.A.guards = some []) (hg : Gl X x) (hm : X.mg x = some (.ref f)) (hk : PySem.W.keepIn X.K (.ref f) = true) (hb : Binds X.K fd ps ds) (hd : Vals dvs ds) (hx : Passes CX X E) (ha : PA X (e :: es) t)
    (hdb : (x == ("__debug__" : Str)) = false := by decide) (he : starEach (e :: es) X.env = (false, eval e X.env) :: starEach es X.env := by rfl) (hpl : (backTo pos (starEach es X.env)).any (·.1) = false := by rfl) : PE X (.Call (.Name x p) (e :: es) [] pos) (tCall sp dvs E t) := by
  refine ⟨fun pins s σ H Q I h => wpAny_Call_Name_kw (ld_glob I hg hm ?_ hdb)⟩
  refine PySem.W.callWith_K (h₀ := X.base) I.ok.mod.kin hk (thn (ha.run pos pins s σ H _ I h) fun us s1 ⟨vs, H1, I1, r, q⟩ => ⟨I1.kIn, ?_⟩) he hpl
  have rr : Vals (vs ++ dvs) (us ++ ds) := r.append hd
  refine wpAny_call (codeAny_mono (F.go X.A X.stack s1 H1 ⟨us, []⟩ (us ++ ds) (vs ++ dvs) Q E hr gd I1.env0 (hb s1 us I1.kIn (by rw [← rr.length]; exact F.len _ _ _ _ q)) rr q) fun r' s' z => ?_)
  cases r' with
  | error e => exact hx pins σ H1 s1 e s' I1 z
  | ok fl =>
    cases fl with
    | ret u => exact I1.after z
    | next | brk | cont => exact z.elim
end
mutual
/-- what is read has no dict -/
theorem Dp.noDict {K : PySem.W.Frag} {H : Hp} : ∀ (d : PyData) (v : V), Dp K H v d → d.hasDict = false
  | .none, _, _ => by simp only [PyData.hasDict]
  | .bool _, _, _ => by simp only [PyData.hasDict]
  | .int _, _, _ => by simp only [PyData.hasDict]
  | .str _, _, _ => by simp only [PyData.hasDict]
  | .list ds, _, h => by cases h with | lst _ h2 => simp only [PyData.hasDict]; exact DpAll.noDict ds _ h2
  | .tuple ds, _, h => by cases h with | tup _ h2 => simp only [PyData.hasDict]; exact DpAll.noDict ds _ h2
  | .dict _, _, h => by cases h
theorem DpAll.noDict {K : PySem.W.Frag} {H : Hp} : ∀ (ds : List PyData) (vs : List V), DpAll K H vs ds → PyData.hasDictAll ds = false
  | [], _, _ => by simp only [PyData.hasDictAll]
  | d :: ds, _, h => by cases h with | cons h1 h2 => simp only [PyData.hasDictAll]; rw [Dp.noDict d _ h1, DpAll.noDict ds _ h2]; rfl
end
/-- repr(e) of data -/
def rReprD (K : PySem.W.Frag) : List V → Hp → VK → Prop := fun xs H Q => ∃ (v : V) (d : PyData), xs = [v] ∧ Dp K H v d ∧ d.showable = true ∧ d.depth ≤ 60 ∧ d.shown.length ≤ sizeLine ∧ Q (.str d.shown) H
theorem c_reprD {X : Cx} (gd : X.A.guards = some []) (hu : X.A.units + 64 < cLine) : CallR X (.builtin "repr") (rReprD X.K) := by
  intro pins s σ H xs us Q I r ⟨v, d, e, hd, hs, hdep, hz, q⟩
  subst e
  cases r with
  | @cons _ u _ _ r1 r2 =>
    cases r2
    obtain ⟨as, hr⟩ := Dp.reads I d v u hd r1
    have nd := Dp.noDict d v hd
    cases d with
    | none => cases hd; obtain rfl : u = Value.none := r1; exact PySem.P.repr_of_none ⟨.str _, H, I.tok _, ⟨_, rfl⟩, q⟩
    | bool b => cases hd; obtain rfl : u = Value.bool b := r1; exact PySem.P.repr_of_bool ⟨.str _, H, I.tok _, ⟨_, rfl⟩, q⟩
    | int i => cases hd; obtain ⟨t, rfl⟩ := r1; exact PySem.P.repr_of_int (by simpa [PyData.showable] using hs) ⟨.str _, H, I.tok _, ⟨_, rfl⟩, q⟩
    | str x => cases hd; obtain ⟨t, rfl⟩ := r1; exact PySem.P.repr_of_str ⟨.str _, H, I.tok _, ⟨_, rfl⟩, q⟩ hz
    | dict kvs => cases hd
    | list ds =>
      cases hd with | lst k1 k2 => obtain rfl : u = Value.ref _ := r1; exact repr_of_reads' hr hs (fun z => absurd z (by rw [nd]; decide)) gd (by omega) (fun _ _ z => z) (fun h' u tk kp => ⟨.str _, H, I.kept kp, ⟨_, rfl⟩, q⟩) hz
    | tuple ds =>
      cases hd with | tup k1 k2 => obtain rfl : u = Value.ref _ := r1; exact repr_of_reads' hr hs (fun z => absurd z (by rw [nd]; decide)) gd (by omega) (fun _ _ z => z) (fun h' u tk kp => ⟨.str _, H, I.kept kp, ⟨_, rfl⟩, q⟩) hz
end L2
set_option Elab.async false
set_option linter.all false
set_option maxRecDepth 100000
set_option maxHeartbeats 2000000
/-! exceptions whose context is None: defs that raise such, own classes with their own __init__, and raise C('..') from None in an except suite -/
namespace L2
open PySem PySem.Spec PyProof.Rows
section
variable {P : Program} {w : World} {K : PySem.W.Frag} {mg : Str → Option Value} {base : Heap}
theorem Fun.okN {x qual : Str} {st : Stmt} {f : Addr} {fd : FuncData} {N ps : List Str} {k : Nat} {sp : Sp} (F : Fun K x qual st f fd) (S : FnScope N ps (defScope st)) (len : ∀ vs H Q E, sp vs H Q E → vs.length = ps.length)
    (hb : ∀ (cdv : Value) (A : Around) (outer : List Env) (s : Shared) (H : Hp) (vs : List V) (Q : VK) (E : XK), Room k (A.deeper (envOfC qual (defScope st) s.heap.objs.size f cdv)) → sp vs H Q E →
      ∃ t, PSs (cxOf (L2N.CX P w) P w K mg base N qual (defScope st) f cdv A outer s H E) (defBody st) t ∧ t { nx := fun _ H' => Q .non H', rt := Q } (start N vs) H) : FnOk P w K mg base (L2N.CX P w) (k + 1) f fd ps sp := by
  obtain ⟨o1, o2, k1, k2, k3, k4, c1, c2, o3, rfl, lk, hcd⟩ := F.ex
  exact fn_of lk hcd S len fun A outer s H vs Q E r z => hb c1 A outer s H vs Q E r z
end
section
variable {X : Cx} {o e : Expr} {es : List Expr} {to te : TE} {ta : TA} {f : Str} {p p' p1 p2 pos : Pos}
theorem pmk_oexN {CX : CXT} {x : Str} {C fI : Addr} {k : Nat} {fd : FuncData} {ps : List Str} {sp : Sp} {ds : List Value} {dvs : List V} (T : OexC X.K C) (iC : PySem.W.findIn X.K (.ref C) "__init__" = some (some (.ref fI))) (tI : PySem.W.typeIn X.K (.ref fI) = some (.type "function"))
    (Fi : FnOk X.prog X.w X.K X.mg X.base CX k fI fd ps sp) (hr : Room (k + 1) X.A) (hb : Binds X.K fd ps ds) (hd : Vals dvs ds) (hx : Passes CX X (fun _ _ _ => False)) (hg : Gl X x) (gm : X.mg x = some (.ref C)) (ha : PA X (e :: es) ta)
    (db : (x == ("__debug__" : Str)) = false := by decide) (hs : starEach (e :: es) X.env = (false, eval e X.env) :: starEach es X.env := by rfl) (pl : (backTo pos (starEach es X.env)).any (·.1) = false := by rfl) :
    L2N.PMk X (.Call (.Name x p) (e :: es) [] pos) (tMkO C sp dvs ta) := by
  intro pins s σ H Q I h
  obtain ⟨n0, q, N, bs, bm, sn, sub, ab, col, dd, k0, k1, k2, k3, k5, lC, cb⟩ := T.cls
  refine wpAny_Call_Name_kw (ld_glob I hg gm ?_ db)
  refine PySem.W.callWith_K (h₀ := X.base) I.ok.mod.kin T.kC (thn (ha.run pos pins s σ H _ I h) fun us sa ⟨vs, Ha, Ia, ra, hz, qa⟩ => ⟨Ia.kIn, ?_⟩) hs pl
  show wpAny _ _ (call (.ref C) us) _ _ _
  obtain ⟨hp, g, dw, tt, os⟩ := sa
  have bg : hp.objs.size ≤ hp.objs.size + 1 := Nat.le_succ _
  have fr : Ha (hp.objs.size + 1) = none := Ia.hok.fresh bg
  have wq := qa (hp.objs.size + 1) fr
  have kp : ∀ b o, hp.get? b = some o → ((hp.push (PySem.W.kdv_tup us)).push (PySem.HandSPX.excO C hp.objs.size)).get? b = some o := fun b o e => Heap.get?_push_of_some _ (Heap.get?_push_of_some _ e)
  have gt : ((hp.push (PySem.W.kdv_tup us)).push (PySem.HandSPX.excO C hp.objs.size)).get? (hp.objs.size + 1) = some (PySem.HandSPX.excO C hp.objs.size) := by heap_get
  have J2 : Inv X pins σ (upd Ha (hp.objs.size + 1) (exo (hp.objs.size + 1) C none)) ⟨(hp.push (PySem.W.kdv_tup us)).push (PySem.HandSPX.excO C hp.objs.size), g, dw, tt, os⟩ :=
    Ia.laid (t' := tt) (a := hp.objs.size + 1) (o := exo (hp.objs.size + 1) C none) (h' := (hp.push (PySem.W.kdv_tup us)).push (PySem.HandSPX.excO C hp.objs.size)) kp bg (exo_ok gt)
  have rr : Vals (V.ref (hp.objs.size + 1) :: (vs ++ dvs)) (Value.ref (hp.objs.size + 1) :: (us ++ ds)) := .cons rfl (ra.append hd)
  have ln : (Value.ref (hp.objs.size + 1) :: us ++ ds).length = ps.length := by
    have e := rr.length
    rw [Fi.len _ _ _ _ wq] at e
    exact e.symm
  have sh : us.length ≤ sizeLine := by
    rw [← Paired.length ra, sizeLine_eq]
    omega
  refine wpAny_call (PySem.HandSPX.call_own F.excBase_ValueError (fun Y => PySem.HandSPX.refsVE_contains Y bm cb) (Ia.kIn _ _ lC) (PySem.W.looks_findIn Ia.kIn iC) (fun self => PySem.W.bind_fn Ia.kIn self tI) sh
    (codeAny_mono (Fi.run _ X.stack _ _ ⟨Value.ref (hp.objs.size + 1) :: us, []⟩ (Value.ref (hp.objs.size + 1) :: (us ++ ds)) _ _ (fun _ _ _ => False) (hr.make C us []) (J2.env0.make C us []) (hb _ (Value.ref (hp.objs.size + 1) :: us) J2.kIn ln) rr wq) fun r s' z => ?_))
  cases r with
  | error er => exact hx pins σ _ _ er s' J2 z
  | ok fl =>
    cases fl with
    | ret u =>
      obtain ⟨v, Hb, os2, bare2, un2, hok2, rv, ev, d, fs, ea, ed, hd1, qb⟩ := z
      subst ev
      obtain ⟨hb2, g2, d2, t2, os'⟩ := s'
      obtain ⟨t0, G, J, kG, ge, hoe, na⟩ := mk_end0 (d2 := d2) (t2 := t2) Ia bg kp un2 hok2 os2 bare2 ea ed hd1
      exact ⟨rv, hp.objs.size + 1, _, _, ⟨G, g2, d2, t2, os'⟩, _, .ref C, some d, rfl, J, kG, ge, hoe, ⟨rfl, rfl, fun vs hv => (by cases hv; rfl)⟩, rfl, rfl, na, rfl, bare2, raises_own T.exC T.tyC, qb⟩
    | next => exact False.elim z
    | brk => exact False.elim z
    | cont => exact False.elim z
end
end L2
namespace L2H
open PySem PySem.Spec PyProof.Rows L2 HotX
section
variable {X : Cx} {C : Addr} {bmB : List Value} {B newId initId : String}
/-- C('m'), its six fields told -/
theorem pmk5_own {x m : Str} {j : Nat} {p p2 pos : Pos} (F : ExcBaseFacts B newId initId bmB) (q : PySem.W.excIn X.K C bmB newId = true) (gC : X.mg x = some (.ref C)) (kC : PySem.W.keepIn X.K (.ref C) = true) (r : Raises X (.ref C)) (hg : Gl X x)
    (hdb : (x == ("__debug__" : Str)) = false := by decide) : PMk5 X (.Call (.Name x p) [.Constant (.str m) j p2] [] pos) (fun _ H Q => Q (.ref C) none H) := by
  intro pins s σ H Q I h
  have ha : PA X [.Constant (.str m) j p2] (tCons (tC (.str m)) tNil) := pa_cons pe_str pa_nil
  refine wpAny_Call_Name_kw (ld_glob I hg gC (PySem.W.callWith_K (h₀ := X.base) I.ok.mod.kin kC (thn (ha.run pos pins s σ H (fun vs H1 => vs = [V.str m] ∧ H = H1) I ⟨rfl, rfl⟩) fun us s1 hh => ?_)) hdb)
  obtain ⟨vs, H1, I1, r1, ev, eH⟩ := hh
  subst ev
  rw [← eH] at I1
  refine ⟨I1.kIn, ?_⟩
  cases r1 with
  | cons ru rn =>
    rename_i u us'
    cases rn
    show wpAny _ _ (call (.ref C) [u]) _ _ _
    obtain ⟨bm, N, nm, qn, bs, hdct, sn, sub, ab, col, dd, k0, k1, k2, k3, k5, mN, hC, hN, hni, T⟩ := exc_obj I1.kIn q
    exact wpAny_call_exc_subT F T hC hN hni (fun h' e hm => mk_of5 I1 hm r h (I1.hok.gone hm.new)) (by show 1 ≤ sizeLine; rw [sizeLine_eq]; omega)
end
end L2H
set_option Elab.async false
set_option linter.all false
set_option maxRecDepth 100000
set_option maxHeartbeats 4000000
/-! lambdas handed to a def that meets them: what stays where the tables of code objects grow -/
namespace L2
open PySem PySem.Spec PyProof.Rows Evl Vr LamX
section
variable {K : PySem.W.Frag} {H H' : Hp}
theorem xn_t {a : Addr} {xs : List V} (e : ExtN H H') (h : SqT K H a xs) : SqT K H' a xs := by
  rcases h with (h | ⟨o, h⟩) | h
  · exact .inl (.inl (e _ _ h fun _ z => by cases z))
  · exact .inl (.inr ⟨o, e _ _ h fun _ z => by cases z⟩)
  · exact .inr h
theorem xn_l {a : Addr} {xs : List V} (e : ExtN H H') (h : SqL K H a xs) : SqL K H' a xs := by
  rcases h with (h | ⟨o, h⟩) | h
  · exact .inl (.inl (e _ _ h fun _ z => by cases z))
  · exact .inl (.inr ⟨o, e _ _ h fun _ z => by cases z⟩)
  · exact .inr h
theorem xn_ty {x : V} {u : Value} (e : ExtN H H') (h : TyX K H x u) : TyX K H' x u := by
  cases h with
  | base b =>
    cases b with
    | non => exact .base .non
    | bl y => exact .base (.bl y)
    | int y => exact .base (.int y)
    | str y => exact .base (.str y)
    | flt y => exact .base (.flt y)
    | lst h => exact .base (.lst (e _ _ h fun _ z => by cases z))
    | frz h => exact .base (.frz (e _ _ h fun _ z => by cases z))
    | tup h => exact .base (.tup (e _ _ h fun _ z => by cases z))
    | dK h => exact .base (.dK (e _ _ h fun _ z => by cases z))
    | dT h => exact .base (.dT (e _ _ h fun _ z => by cases z))
    | ins h a b c d f => exact .base (.ins (e _ _ h fun _ z => by cases z) a b c d f)
  | byt b => exact .byt b
  | set h => exact .set (e _ _ h fun _ z => by cases z)
  | kList h c => exact .kList h c
  | kTuple h c => exact .kTuple h c
  | kDict h c => exact .kDict h c
  | fTuple h => exact .fTuple (e _ _ h fun _ z => by cases z)
  | fDict h => exact .fDict (e _ _ h fun _ z => by cases z)
theorem Plain.xn {x : V} (e : ExtN H H') (h : Plain K H x) : Plain K H' x := by
  obtain ⟨n, h⟩ := h
  exact ⟨n, xn_ty e h⟩
mutual
theorem Dp.xn (e : ExtN H H') : ∀ (d : PyData) (v : V), Dp K H v d → Dp K H' v d
  | .none, _, h => by cases h; exact .non
  | .bool b, _, h => by cases h; exact .bl b
  | .int i, _, h => by cases h; exact .int i
  | .str z, _, h => by cases h; exact .str z
  | .list ds, _, h => by cases h with | lst h1 h2 => exact .lst (xn_l e h1) (DpAll.xn e ds _ h2)
  | .tuple ds, _, h => by cases h with | tup h1 h2 => exact .tup (xn_t e h1) (DpAll.xn e ds _ h2)
  | .dict _, _, h => by cases h
theorem DpAll.xn (e : ExtN H H') : ∀ (ds : List PyData) (vs : List V), DpAll K H vs ds → DpAll K H' vs ds
  | [], _, h => by cases h; exact .nil
  | d :: ds, _, h => by cases h with | cons h1 h2 => exact .cons (Dp.xn e d _ h1) (DpAll.xn e ds _ h2)
end
theorem xn_ex (e : Ex H H') : ExtN H H' := fun b o h _ => e b o h
/-- what repr tells of it -/
def Rp (K : PySem.W.Frag) (H : Hp) (v : V) (y : PyData) : Prop := Dp K H v y ∧ y.showable = true ∧ y.depth ≤ 60 ∧ y.shown.length ≤ sizeLine
theorem Rp.xn {v : V} {y : PyData} (e : ExtN H H') (h : Rp K H v y) : Rp K H' v y := ⟨Dp.xn e _ _ h.1, h.2⟩
end
/-! ### defs that make lambdas: their code object is told -/
structure FunL (K : PySem.W.Frag) (x qual : Str) (st : Stmt) (c f : Addr) (fd : FuncData) : Prop where
  ex : ∃ (oc : Value) (od : Option Addr) (kV doc pm : Value) (an : Option Addr) (ct : Value) (osl : Array (Option Value)), fd = PySem.W.fnOf x qual (defArgs st) (defBody st) (defScope st) .none kV doc pm an (.ref c) ct ∧ K.lookup f = some ⟨oc, od, .func fd, osl⟩ ∧ PySem.W.codeIn K (.ref c) qual = true
  kp : PySem.W.keepIn K (.ref f) = true
section
variable {P : Program} {w : World} {K : PySem.W.Frag} {mg : Str → Option Value} {base : Heap} {CX : CXT} {f c : Addr} {fd : FuncData} {ps : List Str} {sp : Sp}
theorem FunL.okG {x qual : Str} {st : Stmt} {N : List Str} {k : Nat} (F : FunL K x qual st c f fd) (S : FnScope N ps (defScope st)) (len : ∀ vs H Q E, sp vs H Q E → vs.length = ps.length)
    (hbody : ∀ (A : Around) (outer : List Env) (s : Shared) (H : Hp) (vs : List V) (Q : VK) (E : XK), Room k (A.deeper (envOfC qual (defScope st) s.heap.objs.size f (.ref c))) → A.guards = some [] → sp vs H Q E →
      ∃ t, PSs (cxOf CX P w K mg base N qual (defScope st) f (.ref c) A outer s H E).nox (defBody st) t ∧ t { nx := fun _ H' => Q .non H', rt := Q } (start N vs) H) : FnG P w K mg base CX (k + 1) f fd ps sp := by
  obtain ⟨oc, od, kV, doc, pm, an, ct, osl, rfl, lk, hcd⟩ := F.ex
  exact ⟨len, fun A outer s H args us vs Q E hr hg e0 hb r h => LamX.run_ofS lk hcd S hr e0 hb r (len _ _ _ _ h) fun hr2 => let ⟨t, h1, h2⟩ := hbody A outer s H vs Q E hr2 hg h; ⟨t, h1.nox, h2⟩⟩
end
/-! ### a call of a slot that holds one of several defs, which may raise -/
structure HeldX (P : Program) (w : World) (K : PySem.W.Frag) (mg : Str → Option Value) (base : Heap) (k : Nat) (f : Addr) (sp : Sp) : Prop where
  ex : ∃ (fd : FuncData) (ps : List Str), FnOk P w K mg base (L2.CX P w) k f fd ps sp ∧ PySem.W.keepIn K (.ref f) = true ∧ Binds K fd ps []
def tCallX (i : Nat) (S : Addr → Sp → Prop) (E : XK) (t : TA) : TE := fun σ H Q => ∃ f sp, σ[i]? = some (some (.ref f)) ∧ S f sp ∧ t σ H fun vs H1 => sp vs H1 Q E
theorem pe_callX {X : Cx} {k i : Nat} {E : XK} {x : Str} {p pos : Pos} {e : Expr} {es : List Expr} {t : TA} {S : Addr → Sp → Prop} (hS : ∀ f sp, S f sp → HeldX X.prog X.w X.K X.mg X.base k f sp) (hr : Room k X.A) (hN : X.N[i]? = some x) (hv : Vis X.env.scope x) (hx : Passes (L2.CX X.prog X.w) X E) (ha : PA X (e :: es) t)
    (hdb : (x == ("__debug__" : Str)) = false := by decide) (hcd : (x == ("__classdict__" : Str)) = false := by decide)
    (he : starEach (e :: es) X.env = (false, eval e X.env) :: starEach es X.env := by rfl) (hpl : (backTo pos (starEach es X.env)).any (·.1) = false := by rfl) : PE X (.Call (.Name x p) (e :: es) [] pos) (tCallX i S E t) := by
  refine ⟨fun pins s σ H Q I h => ?_⟩
  obtain ⟨f, sp, hs, hf, ht⟩ := h
  obtain ⟨fd, ps, F, hk, hb⟩ := (hS f sp hf).ex
  refine (pe_callL (i := i) (f := f) (sp := sp) (dvs := []) (E := E) F hr hN hv hk hb .nil hx ha hdb hcd he hpl).run pins s σ H Q I ⟨hs, ?_⟩
  have z : (fun (vs : List V) (H1 : Hp) => sp (vs ++ []) H1 Q E) = fun vs H1 => sp vs H1 Q E := by
    funext vs H1
    rw [List.append_nil]
  show t σ H (fun vs H1 => sp (vs ++ []) H1 Q E)
  rw [z]
  exact ht
end L2
set_option Elab.async false
set_option linter.all false
set_option maxRecDepth 100000
set_option maxHeartbeats 2000000
/-! a dict is no tuple -/
namespace L2
open PySem PySem.Spec PyProof.Rows
theorem dictNe_lets (l b : Addr) (es : Array DictEntry) (xs : Array Value) (k m : Nat) (d1 d2 : Option Addr) (s1 s2 : Array (Option Value)) :
    Meets (Builtin.«dict.__ne__» ⟨[.ref l, .ref b], []⟩) (fun _ R s => s.heap.get? l = some { cls := .type "dict", dict := d1, data := .dict es k, slots := s1 } ∧ s.heap.get? b = some { cls := .type "tuple", dict := d2, data := .seq xs m, slots := s2 } ∧ R (.ok (.ret .notImplemented)) s) :=
  .of_wp fun prog w A R s z => by obtain ⟨hp, g, d, tk, os⟩ := s; obtain ⟨zl, zb, z⟩ := z; have f1 := F.sub_tuple_dict; wp_walk using wpAny_loadPart' zl, wpAny_loadPart' zb; exact ⟨_, rfl, z⟩
theorem tupNe_lets (l b : Addr) (es : Array DictEntry) (xs : Array Value) (k m : Nat) (d1 d2 : Option Addr) (s1 s2 : Array (Option Value)) :
    Meets (Builtin.«tuple.__ne__» ⟨[.ref b, .ref l], []⟩) (fun _ R s => s.heap.get? b = some { cls := .type "tuple", dict := d2, data := .seq xs m, slots := s2 } ∧ s.heap.get? l = some { cls := .type "dict", dict := d1, data := .dict es k, slots := s1 } ∧ R (.ok (.ret .notImplemented)) s) :=
  .of_wp fun prog w A R s z => by obtain ⟨hp, g, d, tk, os⟩ := s; obtain ⟨zb, zl, z⟩ := z; have f1 := F.sub_dict_tuple; wp_walk using wpAny_loadPart' zl, wpAny_loadPart' zb; exact ⟨_, rfl, z⟩
def rNeDT (K : PySem.W.Frag) : R2 := fun x y H Q => ∃ a b ks ys, x = .ref a ∧ y = .ref b ∧ H a = some (.dK ks) ∧ SqT K H b ys ∧ Q (.bl true) H
theorem op_neDT {X : Cx} (hu : X.A.units < cLine) : OpR X (compareOp .NotEq) (rNeDT X.K) := by
  intro pins s σ H x y v u Q I rx ry z
  obtain ⟨a, b, ks, ys, rfl, rfl, ea, eb, q⟩ := z
  obtain rfl : v = Value.ref a := rx
  obtain rfl : u = Value.ref b := ry
  obtain ⟨_, _, va, ra, da⟩ := (show ObjOk X.prog X.w H s.heap a (.dK ks) from I.hok a _ ea)
  obtain ⟨its, rb, ⟨o2, e2, c2, n2, t2⟩, _⟩ := I.tuple eb
  obtain ⟨o1, es, ep, e1, x1, t1, _⟩ := da
  have far : a ≠ b := fun y => by
    subst y
    rw [e1] at e2
    cases e2
    rw [t1] at t2
    cases t2
  have c1 : o1.cls = .type "dict" := x1.1
  obtain ⟨k1, d1, b1, l1⟩ := o1
  obtain ⟨k2, d2, b2, l2⟩ := o2
  simp only at c1 t1 c2 t2
  subst c1 t1 c2 t2
  show wpAny _ _ (richCompare .NotEq (.ref a) (.ref b)) _ _ _
  exact SeqAt.rc_ne_decline_or (k := false) ⟨_, e1, rfl⟩ ⟨_, e2, rfl⟩ (by decide) F.sub_tuple_dict F.slot_dict_ne F.slot_tuple_ne_refl
    (fun _ z => call_meets F.slot_dict_ne ⟨_, e1, rfl⟩ F.entry_dict_ne (F.args_dict_ne_2 _ _) (dictNe_lets a b es its.toArray ep n2 d1 d2 l1 l2) ⟨e1, e2, z⟩)
    (fun _ z => call_meets F.slot_tuple_ne_refl ⟨_, e2, rfl⟩ F.entry_tuple_ne (F.args_tuple_ne_2 _ _) (tupNe_lets a b es its.toArray ep n2 d1 d2 l1 l2) ⟨e2, e1, z⟩)
    (fun _ z => wpAny_isSame_ref_other far e1 e2 (by simp) z) (.inr hu) ⟨.bl true, H, I, rfl, q⟩
end L2
set_option Elab.async false
set_option linter.all false
set_option maxRecDepth 100000
set_option maxHeartbeats 4000000
/-! enumerate over a text -/
namespace En
open PySem PySem.Spec PyProof.Rows L2 Evl Vr
/-- a text, each sign in a new pair -/
def IteS (x : Str) : It :=
  ⟨fun i _ => i < x.cps.size, fun i H v H' => ∃ T c, v = .ref T ∧ H T = none ∧ H' = upd H T (.tup [.int (i : Nat), .str ⟨#[c]⟩]) ∧ x.cps[i]? = some c, fun i _ => x.cps.size ≤ i⟩
theorem turn_enumS {P : Program} {w : World} {K : PySem.W.Frag} {elts : List Expr} {kk : Nat} {tpos : Pos} (x : Str) (t : Tok) (e it : Addr) :
    Turn P w K (.Tuple elts kk tpos) (IteS x) [e, it] e (fun i h => (∃ old, IsEnum h e it ((i : Nat) : Int) old) ∧ (h.IsStrIter it (strIterType x) x t i ∧ i ≤ x.cps.size) ∧ e ≠ it) where
  mem := by simp
  obj := fun i h st b hb => by
    obtain ⟨⟨old, he⟩, ⟨⟨o, ho, hc, hd⟩, _⟩, _⟩ := st
    have e' : b = e ∨ b = it := by simpa using hb
    rcases e' with z | z
    · rw [z]; exact ⟨_, he, fun v q => nomatch q⟩
    · rw [z]; exact ⟨o, ho, fun v q => by rw [hd] at q; cases q⟩
  keep := fun i h h' st k => by
    obtain ⟨⟨old, he⟩, ⟨⟨o, ho, hr⟩, hl⟩, hne⟩ := st
    exact ⟨⟨old, k e (by simp) _ he⟩, ⟨⟨o, k it (by simp) o ho, hr⟩, hl⟩, hne⟩
  item := by
    intro X hP hw hK hc i pins s σ H E I hf st hg
    subst hP hw hK
    obtain ⟨⟨old, he⟩, ⟨hit, hle⟩, hne⟩ := st
    have hel : e < s.heap.objs.size := Heap.lt_size he
    have hil : it < s.heap.objs.size := by obtain ⟨_, q, _⟩ := hit; exact Heap.lt_size q
    have hh : X.A.handled = none := I.ok.hd hc
    have Dr := Draws.text (prog := X.prog) (w := X.w) (A := X.A.in1) (by simp [hh]) it x t
    refine wpAny_pyNext_enum_itemD Dr he hit hg hne (by simp [hne]) fun x' h' tk hPx ho hit' hT hsz hk => ?_
    obtain ⟨c, u, hcx, rfl⟩ := hPx
    refine ⟨_, rfl, wpAny_letOwnedTupleGo_enum (s := { s with heap := h', toks := tk + 1 }) ho fun h'' he' sb => ?_⟩
    have hT2 : h''.get? s.heap.objs.size = some { cls := .type "tuple", data := .seq #[.int i tk, .str ⟨#[c]⟩ u] } := (sb.2 _ (Nat.ne_of_gt hel)).trans hT
    have new : ObjOk X.prog X.w (upd H s.heap.objs.size (.tup [.int (i : Nat), .str ⟨#[c]⟩])) h'' s.heap.objs.size (.tup [.int (i : Nat), .str ⟨#[c]⟩]) :=
      ⟨by show 2 ≤ sizeLine; decide, [.int i tk, .str ⟨#[c]⟩ u], .cons ⟨_, rfl⟩ (.cons ⟨_, rfl⟩ .nil), ⟨_, hT2, rfl, _, rfl⟩⟩
    have I1 : Inv X pins σ (upd H s.heap.objs.size (.tup [.int (i : Nat), .str ⟨#[c]⟩])) { s with heap := h'', toks := tk + 1 } :=
      I.turnedNew (ch := [e, it]) (fun b ob hb q => (sb.2 b (fun z => hb (by simp [z]))).trans (hk b ob (fun z => hb (by simp [z])) (fun z => hb (by simp [z])) q)) hf (Nat.le_refl _) new
    obtain ⟨oi, ei, ri⟩ := hit'
    refine ⟨.ref s.heap.objs.size, _, I1, rfl, ⟨_, c, rfl, I.hok.fresh (Nat.le_refl _), rfl, hcx⟩, ⟨⟨.str ⟨#[c]⟩ u, ?_⟩, ⟨⟨oi, (sb.2 it (Ne.symm hne)).trans ei, ri⟩, hg⟩, hne⟩, fun b hb => ?_⟩
    · have e1 : ((i + 1 : Nat) : Int) = (i : Int) + 1 := by omega
      rw [e1]; exact he'
    · have hb' : b < s.heap.objs.size := by
        have e' : b = e ∨ b = it := by simpa using hb
        rcases e' with z | z
        · rw [z]; exact hel
        · rw [z]; exact hil
      rw [upd_ne (Nat.ne_of_lt hb')]
      exact (hf b hb).1
  done := by
    intro X hP hw hK hc i pins s σ H E I hf st hg
    subst hP hw hK
    obtain ⟨⟨old, he⟩, ⟨hit, hle⟩, hne⟩ := st
    obtain rfl : i = x.cps.size := Nat.le_antisymm hle hg
    obtain ⟨f0, f1, f2, f3, f4, f5⟩ := hf it (by simp)
    have hh : X.A.handled = none := I.ok.hd hc
    have Dr := Draws.text (prog := X.prog) (w := X.w) (A := X.A.in1) (by simp [hh]) it x t
    exact wpAny_pyNext_enum_endD Dr he hit fun h' hx => ⟨rfl, I.turned (t' := s.toks) (fun b o hb q => hx b o hb q) f0 f1 f3 f4 f5⟩
  self := fun A i s Q E st h => let ⟨⟨_, he⟩, _⟩ := st; wpAny_pyIter_enum he h
def iEnumS (ta : TA) : TI := fun σ H R => ta σ H fun vs H1 => ∃ x, vs = [.str x] ∧ R (IteS x) H1
theorem pi_enumS {X : Cx} {e : Expr} {ta : TA} {p pos tpos : Pos} {elts : List Expr} {kk : Nat} (hg : Gl X "enumerate") (hm : X.mg "enumerate" = none) (ha : PA X [e] ta) (hs : starEach [e] X.env = [(false, eval e X.env)] := by rfl) :
    PI X (.Tuple elts kk tpos) (.Call (.Name "enumerate" p) [e] [] pos) (iEnumS ta) := by
  refine ⟨fun pins s σ H R I h => ?_⟩
  refine Call_ (ld_blt I hg hm boot_enumerate (PyProof.Rows.callWith_type1 (thn (ha.run pos pins s σ H _ I h) fun us s1 ⟨vs, H1, I1, r1, q1⟩ => ?_) hs rfl))
  obtain ⟨x, ex, q⟩ := q1
  subst ex
  cases r1 with
  | cons r rr =>
    cases rr
    obtain ⟨t, rfl⟩ := r
    refine call_enumerate_str fun h' he hit hsz hk => wpAny_pyIter_enum he ?_
    have I2 : Inv X pins σ H1 { s1 with heap := h' } := I1.kept (t' := s1.toks) hk
    refine ⟨s1.heap.objs.size + 1, [s1.heap.objs.size + 1, s1.heap.objs.size], _, _, H1, rfl, I2, turn_enumS x t (s1.heap.objs.size + 1) s1.heap.objs.size, ⟨⟨.none, he⟩, ⟨hit, Nat.zero_le _⟩, Nat.succ_ne_self _⟩, fun b hb => ?_, q⟩
    have e' : b = s1.heap.objs.size + 1 ∨ b = s1.heap.objs.size := by simpa using hb
    have hle : s1.heap.objs.size ≤ b := by
      rcases e' with z | z
      · rw [z]; exact Nat.le_add_right _ _
      · rw [z]; exact Nat.le_refl _
    exact I1.fpOk hle (I1.hok.fresh hle)
theorem walk_enumS {x : Str} : Walk (IteS x) x.cps.size (fun _ => True) (YPair (fun i => some (.int (i : Nat))) (fun i => (x.cps[i]?).map fun c => V.str ⟨#[c]⟩)) := by
  refine ⟨fun i _ hi _ => hi, fun _ _ => Nat.le_refl _, fun i H v H' _ _ y => ?_⟩
  obtain ⟨T, c, h1, h2, h3, h4⟩ := y
  exact ⟨T, .int (i : Nat), .str ⟨#[c]⟩, h1, h2, h3, rfl, by show (x.cps[i]?).map _ = _; rw [h4]; rfl⟩
/-- [e for i, c in enumerate(text)] -/
theorem el_lcEnumS {σ : L2.St} {H : Hp} {te : TE} {t : TT} {x : Str} {ta : TA} {j l : Nat} {vs : List Nat} (K : PySem.W.Frag) (f : Nat → Bool) (v : Nat → V) (h : EvA ta σ H [.str x]) (hz : x.cps.size ≤ 40000)
    (hw : ∀ x y, wipe (((wipe σ vs).set j (some x)).set l (some y)) vs = wipe σ vs)
    (ht : ∀ (i c : Nat) H1, Ex H H1 → x.cps[i]? = some c → EvT t (((wipe σ vs).set j (some (.int (i : Nat)))).set l (some (.str ⟨#[c]⟩))) H1 (f i)) (he : ∀ (i c : Nat) H1, Ex H H1 → x.cps[i]? = some c → f i = true → Ev te (((wipe σ vs).set j (some (.int (i : Nat)))).set l (some (.str ⟨#[c]⟩))) H1 (v i)) :
    EvL (tLc (iEnumS ta) (gTup K 2 (gCons (gName j) (gCons (gName l) gNil))) t te vs) σ H (given x.cps.size f v) := fun H0 e Q q => h H0 e _ fun H1 e1 => ⟨x, rfl, fun Dl hD =>
  lc_it walk_enumS (Cw H1 f v Dl) ⟨hD, Ex.new hD, upd_same⟩ (fun i H' _ p => trivial) (fun i x' H' H'' hi p y => by
    obtain ⟨T, y1, y2, rfl, hT, rfl, h3, h4⟩ := y
    have h3 : y1 = .int (i : Nat) := (Option.some.inj h3).symm
    subst h3
    obtain ⟨c, hc, rfl⟩ := Option.map_eq_some_iff.mp h4
    have eT : Ex H' (upd H' T (.tup [.int (i : Nat), .str ⟨#[c]⟩])) := Ex.new hT
    refine ⟨T, [.int (i : Nat), .str ⟨#[c]⟩], rfl, st_of upd_same, rfl, .int (i : Nat), [.str ⟨#[c]⟩], rfl, .str ⟨#[c]⟩, [], rfl, rfl, hw _ _, ?_⟩
    have p' : Cw H1 f v Dl i (upd H' T (.tup [.int (i : Nat), .str ⟨#[c]⟩])) := ⟨p.1, p.2.1.trans eT, eT _ _ p.2.2⟩
    exact cw_turn p' (by omega) (ht i c H1 (e.trans e1) hc) (fun hf => he i c H1 (e.trans e1) hc hf)) fun H' p => q Dl H' (fresh_back e1 p.1) (e1.trans p.2.1) p.2.2⟩
end En
set_option Elab.async false
set_option linter.all false
set_option maxRecDepth 100000
set_option maxHeartbeats 4000000
/-! a whole number by four digits at least -/
namespace L2
open PySem PySem.Spec PyProof.Rows
def f04 : Str := "04d"
def fs04 : PySem.Builtin.Float.FormatSpec := { fill := 48, align := 61, width := some 4, type := some 100 }
theorem p04 (name : String) : PySem.Builtin.Float.parseFormatSpec f04.cps.toList name 62 = .ok fs04 := by rfl
theorem len04 {a : Int} (h0 : 0 ≤ a) (h1 : a < 10000) : (intSpecText fs04 a).length = 4 := by
  rw [intSpecText_length a rfl rfl, if_neg (by omega)]
  have e := (Nat.length_repr_le_iff (n := a.natAbs) (by decide : 0 < 4)).mpr (by omega)
  rw [← String.length_toList, Nat.toList_repr] at e
  show max 4 _ = 4
  omega
theorem ret_T {M : Model} {A : Around} {E : Value → Shared → Prop} {s : Shared} {X T : Str} {Q : PySem.Fin → Shared → Prop} (e : X = T) (hL : T.length ≤ sizeLine) (h : ∀ t k, Q (.done (.ret (.str T t))) { s with toks := k }) : wpAny M A (retStr X) Q E s := PySem.W.KXf.ret_text e (by rw [e]; exact hL) h
theorem meets_04 {a : Int} {t : Tok} (h0 : 0 ≤ a) (h1 : a < 10000) (u : Tok) :
    Meets (Builtin.«int.__format__» ⟨[.int a t, .str f04 u], []⟩) (fun _ R s => ∀ t' k, R (.ok (.ret (.str (intSpecText fs04 a) t'))) { s with toks := k }) := by
  apply PySem.W.KPc.meets_of
  intro prog w A s Q E h
  unfold Builtin.«int.__format__»
  refine wpAny_bind (wpAny_of_eq (a := (.int a t, .str f04 u)) rfl ?_)
  refine wpAny_bind (wpAny_of_eq (a := a) rfl ?_)
  refine wpAny_ite_false (decide_eq_false (by show ¬ (false = true); decide)) ?_
  refine wpAny_bind (wpAny_typeNameOf (T := "str") (typeIs_str _ _ _) (by decide) fun _ => ?_)
  refine wpAny_bind (wpAny_of_eq (a := some f04) rfl ?_)
  refine wpAny_ite_false (by decide) ?_
  refine wpAny_ite_false (by decide +kernel) ?_
  refine wpAny_bind (wpAny_typeNameOfCut_int ?_)
  simp only [p04]
  rw [show fs04.type.getD (if (f04.cps.back? == some 0) = true then 0 else 100) = 100 by decide]
  refine wpAny_ite_true (by decide +kernel) ?_
  conv => arg 3; whnf
  have hlog : a.natAbs.log2 < 1920 := by
    by_cases z : a.natAbs = 0
    · rw [z]; decide
    · have h2 : a.natAbs < 2 ^ 14 := by omega
      exact Nat.lt_of_lt_of_le ((Nat.log2_lt z).mpr h2) (by decide)
  rw [PySem.overDigitLimit_small hlog]
  conv => arg 3; whnf
  refine ret_T (T := intSpecText fs04 a) ?_ (by rw [len04 h0 h1]; decide) h
  · have e : fs04.alt = false := rfl
    conv => lhs; whnf
    conv => rhs; unfold intSpecText; whnf
    rfl
/-- {n:04d} -/
def tFmt4 (te : TE) : TE := fun σ H Q => te σ H fun x H1 => ∃ i : Int, x = .int i ∧ 0 ≤ i ∧ i < 10000 ∧ ∀ y : Str, y.length = 4 → Q (.str y) H1
theorem pe_fmt4 {X : Cx} {e spec : Expr} {te : TE} {pos : Pos} (he : PE X e te) (hs : PE X spec (tC (.str f04))) : PE X (.FormattedValue e (-1) (some spec) pos) (tFmt4 te) := by
  refine ⟨fun pins s σ H Q I h => ?_⟩
  refine wpAny_FormattedValue_spec (thn (he.run pins s σ H _ I h) fun v s1 hv => ?_)
  obtain ⟨x, H1, I1, r1, i, rfl, h0, h1, q⟩ := hv
  obtain ⟨t, rfl⟩ := r1
  refine thn (hs.run pins s1 σ H1 (fun y H2 => y = .str f04 ∧ H2 = H1) I1 ⟨rfl, rfl⟩) fun v s2 hv => ?_
  obtain ⟨y, H2, I2, r2, rfl, rfl⟩ := hv
  obtain ⟨u, rfl⟩ := r2
  refine ⟨f04, u, rfl, ?_⟩
  refine PySem.W.KXf.field_int rfl (by decide) (by show 3 ≤ sizeLine; decide) (fun u => meets_04 h0 h1 u) fun t' k => ?_
  exact ⟨.str _, H2, I2.tok _, ⟨_, rfl⟩, q _ (len04 h0 h1)⟩
end L2
set_option Elab.async false
set_option linter.all false
set_option maxRecDepth 100000
set_option maxHeartbeats 4000000
/-! list(reversed(tuple)) -/
namespace Rv
open PySem PySem.Spec PyProof.Rows L2 Evl Vr En PySem.W
theorem hint_rt : typeLookup (.type "reversed") "__length_hint__" = pure (some (.builtin "reversed.__length_hint__")) := by rw [typeLookup_type, builtinLookup_eq_fast]; kernel_rfl
theorem nolen_rt : typeLookup (.type "reversed") "__len__" = pure none := by rw [typeLookup_type, builtinLookup_eq_fast]; kernel_rfl
theorem walks {prog : Program} {w : World} {A : Around} (hh : A.handled = none) (I t : Addr) (hne : t ≠ I) (items : Array Value) (hz : items.size ≤ sizeLine) :
    Walks prog w A I [I, t] [I] items.size (fun i v => items[items.size - 1 - i]? = some v) (fun i h => i ≤ items.size ∧ RT.IsRt h I t ((items.size : Int) - 1 - (i : Int)) ∧ h.IsTuple t items) where
  sub := fun b hb => by simp at hb; simp [hb]
  frame := fun _ _ _ x hk => ⟨x.1, x.2.1.at fun o e => hk I (by simp) o e, x.2.2.at fun o e => hk t (by simp) o e⟩
  item := fun i s Q E hi x hQ => by
    obtain ⟨_, hit, ht⟩ := x
    rw [show (items.size : Int) - 1 - (i : Int) = ((items.size - 1 - i : Nat) : Int) by omega] at hit
    have hx : items[items.size - 1 - i]? = some (items[items.size - 1 - i]'(by omega)) := Array.getElem?_eq_getElem (by omega)
    refine RT.next_rt_item hit ht hx hz fun h' st sb => ?_
    rw [show ((items.size - 1 - i : Nat) : Int) - 1 = (items.size : Int) - 1 - ((i + 1 : Nat) : Int) by omega] at st
    exact hQ _ h' _ hx ⟨hi, st, ht.at fun o e => (sb.2 t hne).trans e⟩ fun b o hb e => (sb.2 b (fun z => hb (by simp [z]))).trans e
  done := fun s Q E x hQ => by
    obtain ⟨_, hit, ht⟩ := x
    rw [show (items.size : Int) - 1 - (items.size : Int) = -1 by omega] at hit
    exact RT.next_rt_end hh hit fun h' eb => hQ h' s.toks fun b o hb e => eb b o (fun z => hb (by simp [z])) e
  self := fun _ _ _ _ x hQ => RT.iter_rt x.2.1 hQ
theorem fits_ok {n : Nat} (h : n ≤ sizeLine) : Builtin.List.listFitsIndex (n : Int) = true := by
  have h : n ≤ 16777216 := h
  unfold Builtin.List.listFitsIndex
  rw [decide_eq_true (by omega : -(2 ^ 63 : Int) ≤ (n : Int)), decide_eq_true (by omega : (n : Int) < 2 ^ 63)]
  rfl
theorem long_ok {n : Nat} (h : n ≤ sizeLine) : Builtin.List.listTooLong ((n : Int).toNat) = false := by
  unfold Builtin.List.listTooLong
  rw [Int.toNat_natCast]
  exact decide_eq_false (by omega)
theorem as_int (i : Int) (t : Tok) : asInt? (.int i t) = (pure (some i) : Sem (Option Int)) := rfl
theorem slot_hint : Slot "reversed" "__length_hint__" "reversed.__length_hint__" :=
  .of (owner := "reversed") (n := "__length_hint__") (by rw [typeLookup_type, builtinLookup_eq_fast]; kernel_rfl) (by decide +kernel) (by decide +kernel) (by decide +kernel)
    (by first
      | exact .inl (by decide +kernel)
      | exact .inr (by decide +kernel)) (by rw [isSubtype_type]; kernel_rfl)
theorem entry_hint : entryFor table "reversed.__length_hint__" = some Builtin.«reversed.__length_hint__» := entryFor_of_tree (by kernel_rfl)
theorem args_hint (a : Value) : argsOk "reversed.__length_hint__" ⟨[a], []⟩ := by
  unfold argsOk
  rw [signature?_of (id := "reversed.__length_hint__") (n := ['_', '_', 't', 'n', 'i', 'h', '_', 'h', 't', 'g', 'n', 'e', 'l', '_', '_']) (o := ['d', 'e', 's', 'r', 'e', 'v', 'e', 'r']) (by kernel_rfl) RT.owner_rt]
  kernel_rfl
section
variable {prog : Program} {w : World} {A : Around} {E : Value → Shared → Prop} {s : Shared}
theorem call_hint {it t : Addr} {items : Array Value} {Q : Value → Shared → Prop} (hit : RT.IsRt s.heap it t ((items.size : Int) - 1)) (ht : s.heap.IsTuple t items) (hn : items.size ≤ sizeLine)
    (hQ : ∀ t' k, Q (.int items.size t') { s with toks := k }) : wpAny (model prog w) A (call (.builtin "reversed.__length_hint__") [.ref it]) Q E s := by
  obtain ⟨o, ho, hc, hd⟩ := id hit
  refine wpAny_call_entry slot_hint hit.typeIs entry_hint ?_ (args_hint _)
  unfold Builtin.«reversed.__length_hint__»
  refine wpAny_bind (wpAny_of_eq (a := .ref it) rfl ?_)
  refine wpAny_bind (wpAny_field ho hd (x := .ref t) rfl ?_)
  refine wpAny_ite_false (decide_eq_false (by show ¬ (false = true); decide)) ?_
  refine wpAny_bind (len_tuple ht (by have := line63; omega) ?_)
  refine wpAny_bind (wpAny_of_eq (a := some (items.size : Int)) rfl ?_)
  refine wpAny_bind (wpAny_field (s := { s with toks := s.toks + 1 + 1 }) ho hd (x := rawInt ((items.size : Int) - 1)) rfl ?_)
  have ii : (items.size : Int) - 1 + 1 = (items.size : Int) := by omega
  show wpAny (model prog w) _ (if (items.size : Int) < (items.size : Int) - 1 + 1 then _ else retInt ((items.size : Int) - 1 + 1)) _ _ _
  rw [ii]
  refine wpAny_ite_false (decide_eq_false (Int.lt_irrefl _)) ?_
  exact wpAny_bind (wpAny_mkInt (wpAny_pure ⟨_, rfl, hQ _ _⟩))
theorem bind_hint (self : Value) : bindSpecial (.builtin "reversed.__length_hint__") self = pure (.builtin "reversed.__length_hint__", [self]) := by
  exact slot_hint.bind self
theorem call_list_rt {it t : Addr} {items : Array Value} {Q : Value → Shared → Prop} (hh : A.handled = none) (hit : RT.IsRt s.heap it t ((items.size : Int) - 1)) (ht : s.heap.IsTuple t items) (hne : t ≠ it) (hn : items.size ≤ sizeLine)
    (hQ : ∀ (h' : Heap) (tk : Nat) (acc : Array Value) (c : Nat), (∀ b o, b ≠ it → b ≠ s.heap.objs.size → s.heap.get? b = some o → h'.get? b = some o) → h'.get? s.heap.objs.size = some { cls := .type "list", dict := none, data := .seq acc c, slots := #[] } → ItemsOf (fun i v => items[items.size - 1 - i]? = some v) acc items.size → Q (.ref s.heap.objs.size) { s with heap := h', toks := tk }) :
    wpAny (model prog w) A (call (.type "list") [.ref it]) Q E s := by
  refine callType_codes (Q₁ := fun o s1 => o = .ref s.heap.objs.size ∧ s1 = { s with heap := s.heap.push { cls := .type "list", data := .seq #[] } }) PySem.F.called_list (PySem.F.typeCall_list_1 _) PySem.F.entry_list_init (code_list_new _ ⟨rfl, rfl⟩) fun obj s1 h1 => ?_
  obtain ⟨rfl, rfl⟩ := h1
  have hS : (s.heap.push { cls := .type "list", data := .seq #[] }).get? s.heap.objs.size = some { cls := .type "list", data := .seq #[] } := Heap.get?_push_size _ rfl
  refine ⟨⟨_, hS, rfl⟩, PySem.F.args_list_init_2 _ _, ?_⟩
  show wpAny (model prog w) _ (Builtin.List.listItems (.ref s.heap.objs.size) >>= fun old => Builtin.List.listUpdate (.ref s.heap.objs.size) (fun _ => #[]) >>= fun _ => letGo old.toList.reverse >>= fun _ => Builtin.List.listExtendWith (.ref s.heap.objs.size) (.ref it) .none) _ _ _
  refine wpAny_bind ?_
  unfold Builtin.List.listItems
  refine wpAny_bind (wpAny_seqItems hS rfl (wpAny_pure ?_))
  show wpAny (model prog w) _ (updateSeq s.heap.objs.size (fun _ => #[]) >>= fun _ => letGo (#[] : Array Value).toList.reverse >>= fun _ => Builtin.List.listExtendWith (.ref s.heap.objs.size) (.ref it) .none) _ _ _
  refine wpAny_bind (wpAny_updateSeq hS rfl ?_)
  refine wpAny_bind (wpAny_letGo ?_)
  obtain ⟨oi, hoi, _⟩ := id hit
  obtain ⟨ot, hot, _⟩ := id ht
  have n1 : s.heap.objs.size ≠ it := Nat.ne_of_gt (Heap.lt_size hoi)
  have n2 : s.heap.objs.size ≠ t := Nat.ne_of_gt (Heap.lt_size hot)
  have nf : s.heap.objs.size ∉ [it, t] := by simp only [List.mem_cons, List.not_mem_nil, or_false, not_or]; exact ⟨n1, n2⟩
  have up : ∀ {b : Addr} {o : Obj}, b ≠ s.heap.objs.size → s.heap.get? b = some o → ((s.heap.push { cls := .type "list", data := .seq #[] }).update s.heap.objs.size (Obj.mapSeq fun _ => #[])).get? b = some o := fun {b o} n e => (Heap.get?_update_other _ _ (Ne.symm n)).trans (Heap.get?_push_of_some _ e)
  have hL : ∃ c, ((s.heap.push { cls := .type "list", data := .seq #[] }).update s.heap.objs.size (Obj.mapSeq fun _ => #[])).get? s.heap.objs.size = some { cls := .type "list", dict := none, data := .seq #[] c, slots := #[] } := ⟨_, Heap.get?_update_self _ hS rfl⟩
  obtain ⟨c0, hL⟩ := hL
  generalize (s.heap.push { cls := .type "list", data := .seq #[] }).update s.heap.objs.size (Obj.mapSeq fun _ => #[]) = h2 at up hL ⊢
  have hit2 : RT.IsRt h2 it t ((items.size : Int) - 1) := hit.at fun o e => up (Ne.symm n1) e
  have ht2 : h2.IsTuple t items := ht.at fun o e => up (Ne.symm n2) e
  have hh1 : A.in1.in1.handled = none := hh
  have W := (walks (prog := prog) (w := w) (A := A.in1.in1) hh1 it t hne items hn).toS
  dsimp only
  have hT : ({ heap := h2, gens := s.gens, drawn := s.drawn, toks := s.toks, os := s.os } : Shared).TypeIs (.ref it) "reversed" := RT.IsRt.typeIs (s := { heap := h2, gens := s.gens, drawn := s.drawn, toks := s.toks, os := s.os }) hit2
  unfold Builtin.List.listExtendWith
  refine wpAny_bind (wpAny_typeOf hT ?_)
  rw [if_neg (by
    have z1 : Builtin.List.listSameRef (.ref s.heap.objs.size) (.ref it) = false := by simp [Builtin.List.listSameRef, n1]
    rw [z1]
    exact fun z => nomatch z)]
  refine wpAny_bind (RT.iter_rt hit2 ?_)
  refine wpAny_bind (wpAny_holding ?_)
  unfold Builtin.List.listLengthHint
  refine wpAny_bind (wpAny_specialOf hT nolen_rt ?_)
  show wpAny _ _ (specialOf (Value.ref it) (Str.ofString "__length_hint__") >>= _) _ _ _
  refine wpAny_bind (wpAny_specialOf hT hint_rt ?_)
  generalize hid : ("reversed.__length_hint__" : String) = id0
  wp_delta
  rw [show splitId id0 = some ("reversed", "__length_hint__") from by subst hid; decide +kernel]
  subst hid
  refine wpAny_bind (wpAny_isInstance (b := true) hT (by rw [isSubtype_type]; kernel_rfl) ?_)
  refine wpAny_ite_false (by decide) ?_
  refine wpAny_ite_false (by decide +kernel) ?_
  refine wpAny_bind (wpAny_rule ?_)
  rw [bind_hint]
  refine wpAny_bind (wpAny_pure ?_)
  refine wpAny_bind (wpAny_attempt (call_hint (s := { heap := h2, gens := s.gens, drawn := s.drawn, toks := s.toks, os := s.os }) hit2 ht2 hn fun t' k => ?_))
  dsimp only
  simp only [as_int, pure_bind]
  have f1 := fits_ok hn
  have f2 := long_ok hn
  have f3 : decide ((items.size : Int) < 0) = false := decide_eq_false (Int.not_lt.mpr (Int.natCast_nonneg _))
  rw [f1]
  refine wpAny_ite_false (by decide) ?_
  refine wpAny_ite_false f3 ?_
  rw [f2]
  refine wpAny_ite_false (by decide) ?_
  refine wpAny_pure ?_
  have go : ∀ (h3 : Heap) (tk c : Nat), h3.get? s.heap.objs.size = some { cls := .type "list", dict := none, data := .seq #[] c, slots := #[] } → (∀ b o, b ≠ s.heap.objs.size → h2.get? b = some o → h3.get? b = some o) →
      codeAny (model prog w) A.in1 (.builtin "list.extend.loop" ⟨[.ref s.heap.objs.size, .ref it, .none], []⟩) (wants (fun r s₂ => r = Value.none ∧ Q (.ref s.heap.objs.size) s₂) E) { heap := h3, gens := s.gens, drawn := s.drawn, toks := tk, os := s.os } := fun h3 tk c e3 k3 => by
    have a1 : RT.IsRt h3 it t ((items.size : Int) - 1 - ((0 : Nat) : Int)) := by
      rw [show (items.size : Int) - 1 - ((0 : Nat) : Int) = (items.size : Int) - 1 by omega]
      exact hit2.at fun o e => k3 _ _ (Ne.symm n1) e
    have a2 : h3.IsTuple t items := ht2.at fun o e => k3 _ _ (Ne.symm n2) e
    refine codeAny_extend_loopS W hn _ nf _ items.size 0 _ #[] c rfl (Nat.zero_le _) ⟨Nat.zero_le _, a1, a2⟩ e3 (ItemsOf.nil _) fun s' acc' c' hm hS' hacc => ?_
    rw [Moved.eq_with hm]
    refine ⟨rfl, hQ s'.heap s'.toks acc' c' (fun b o b1 b2 e => hm.heap b o (fun hmem => ?_) (k3 _ _ b2 (up b2 e))) hS' hacc⟩
    rcases List.mem_cons.mp hmem with e' | hmem
    · exact b2 e'
    · exact b1 (List.mem_singleton.mp hmem)
  refine wpAny_ite_split (fun _ => ?_) (fun _ => wpAny_pure ⟨plainId_quiet PySem.F.plain_extend_loop _, go _ _ _ hL fun b o _ e => e⟩)
  refine wpAny_bind (wpAny_rule (wpAny_bind ?_))
  show wpAny (model prog w) _ (updateSeq s.heap.objs.size (·.push .none) >>= fun _ => updateSeq s.heap.objs.size (·.pop)) _ _ _
  have z1 : 1 ≤ sizeLine := by rw [sizeLine_eq]; decide
  refine wpAny_bind (wpAny_updateSeq hL rfl ?_ (Nat.zero_le _) (by show 1 ≤ sizeLine + 1; omega))
  have e4 := Heap.get?_update_self (Obj.mapSeq (·.push Value.none)) hL rfl
  refine wpAny_updateSeq e4 rfl ?_ z1 (Nat.zero_le _)
  refine wpAny_pure ⟨plainId_quiet PySem.F.plain_extend_loop _, go _ _ _ (Heap.get?_update_self _ e4 rfl) fun b o n e => ?_⟩
  rw [Heap.get?_update_other _ _ (Ne.symm n), Heap.get?_update_other _ _ (Ne.symm n)]
  exact e
end
/-- list(reversed(a tuple)): a new list -/
def tListRev (K : PySem.W.Frag) (te : TE) : TE := fun σ H Q => te σ H fun v H1 => ∃ (a : Addr) (xs : List V), v = .ref a ∧ SqT K H1 a xs ∧ ∀ q, H1 q = none → Q (.ref q) (upd H1 q (.lst xs.reverse))
section
variable {X : Cx}
theorem pe_listRev {e : Expr} {te : TE} {p p2 pos pos2 : Pos} (hc : X.calm = true) (hg : Gl X "list") (hm : X.mg "list" = none) (hg2 : Gl X "reversed") (hm2 : X.mg "reversed" = none) (he : PE X e te)
    (hs : starEach [e] X.env = (false, eval e X.env) :: starEach [] X.env := by rfl)
    (hs2 : starEach [.Call (.Name "reversed" p2) [e] [] pos2] X.env = (false, eval (.Call (.Name "reversed" p2) [e] [] pos2) X.env) :: starEach [] X.env := by rfl) :
    PE X (.Call (.Name "list" p) [.Call (.Name "reversed" p2) [e] [] pos2] [] pos) (tListRev X.K te) := by
  refine ⟨fun pins s σ H Q I h => ?_⟩
  refine Call_ (ld_blt I hg hm boot_list (PyProof.Rows.callWith_type1 (args_cons (Call_ (ld_blt I hg2 hm2 PyProof.Rows.boot_reversed (PyProof.Rows.callWith_type1 (args_cons (thn (he.run pins s σ H _ I h) fun u s1 ⟨v, H1, I1, r1, q1⟩ => args_nil ?_) hs) hs rfl))) hs2) hs2 rfl))
  obtain ⟨a, xs, ev, hq, q⟩ := q1
  subst ev
  obtain rfl : u = Value.ref a := r1
  obtain ⟨its, rv, p', hz⟩ := I1.tuple hq
  have p' : s1.heap.IsTuple a its.toArray := p'
  have hn : its.toArray.size ≤ sizeLine := by rw [List.size_toArray, ← rv.length]; exact hz
  refine RT.call_reversed_tup p' (fun A E Q k => len_tuple p' (by have := line63; omega) k) (args_nil ?_)
  have k0 : ∀ b o, s1.heap.get? b = some o → (s1.heap.push (RT.rtObj a ((its.toArray.size : Int) - 1))).get? b = some o := fun b o e => Heap.get?_push_of_some _ e
  have I2 : Inv X pins σ H1 { s1 with heap := s1.heap.push (RT.rtObj a ((its.toArray.size : Int) - 1)), toks := s1.toks + 1 + 1 } := I1.kept (t' := s1.toks + 1 + 1) k0
  obtain ⟨f0, f1, f2, f3, f4, f5⟩ := I1.fpOk (H' := H1) (b := s1.heap.objs.size) (Nat.le_refl _) (I1.hok.fresh (Nat.le_refl _))
  obtain ⟨ol, hol, _⟩ := id p'
  have hne : a ≠ s1.heap.objs.size := Nat.ne_of_lt (Heap.lt_size hol)
  have sz : (s1.heap.push (RT.rtObj a ((its.toArray.size : Int) - 1))).objs.size = s1.heap.objs.size + 1 := Heap.size_push ..
  refine call_list_rt (s := { s1 with heap := s1.heap.push (RT.rtObj a ((its.toArray.size : Int) - 1)), toks := s1.toks + 1 + 1 }) (I1.ok.hd hc) ⟨_, Heap.get?_push_size _ rfl, rfl, rfl⟩ (p'.at fun o e => k0 _ _ e) hne hn fun h' tk acc c hk hL hi => ?_
  have fr : H1 (s1.heap.push (RT.rtObj a ((its.toArray.size : Int) - 1))).objs.size = none := I1.hok.fresh (by rw [sz]; exact Nat.le_add_right _ _)
  have new : ObjOk X.prog X.w (upd H1 (s1.heap.push (RT.rtObj a ((its.toArray.size : Int) - 1))).objs.size (.lst xs.reverse)) h' (s1.heap.push (RT.rtObj a ((its.toArray.size : Int) - 1))).objs.size (.lst xs.reverse) :=
    ⟨by rw [List.length_reverse]; exact hz, acc.toList, c, RT.vals_rev rv hi, by
      rw [Array.toArray_toList]
      exact hL⟩
  have I3 := I2.turnedNew (t' := tk) (ch := [s1.heap.objs.size]) (fun b ob hb q => hk b ob (by simpa using hb) (Nat.ne_of_lt (Heap.lt_size q)) q) (fun b hb => by
    rw [List.mem_singleton.mp hb]
    exact ⟨f0, f1, f2, f3, f4, f5⟩) (Nat.le_refl _) new
  exact ⟨.ref _, _, I3, rfl, q _ fr⟩
end
end Rv
set_option Elab.async false
set_option linter.all false
set_option maxRecDepth 100000
set_option maxHeartbeats 4000000
/-! own exceptions over bases that have no __new__ of their own (KeyError), too -/
namespace PySem
namespace Xk
open PySem.W PySem.Calls PyProof.Rows PySem.HandSPX Builtin Builtin.ObjectAttr
section
variable {M : Model} {A : Around} {E : Value → Shared → Prop} {h : Heap} {g : Array GenState} {d : Drawn} {t : Nat} {os : OsState}
variable {nm q : Str} {C N : Addr} {bs bm bmB : List Value} {hdct : Bool} {sn : List Str} {sub : List Value}
variable {ab : Bool} {col : Option Bool} {dd : Option Addr} {k0 k1 k2 k3 k5 : Option Value} {B newId initId : String} {rest : List Value}
/-- what is asked of the bases: B is among them, two others are not -/
structure Am (bm : List Value) (B : String) : Prop where
  b : bm.contains (.type B) = true
  a : bm.contains (.type "AttributeError") = false
  n : bm.contains (.type "NameError") = false
theorem chk (F : ExcBaseFacts B newId initId bmB) (m : Am bm B) {Q : Unit → Shared → Prop}
    (hC : h.get? C = some (excClassObj nm q C N bs bm hdct sn sub ab col dd k0 k1 k2 k3 k5 newId))
    (hq : Q () ⟨h, g, d, t, os⟩) :
    wpAny M A (checkBuiltinCall newId ⟨.ref C :: rest, []⟩) Q E ⟨h, g, d, t, os⟩ := by
  have z : (Value.ref C :: bm).contains (.type B) = true := by
    rw [List.contains_cons, m.b]
    exact Bool.or_true _
  have s := F.noStar
  simp only [checkBuiltinCall, F.newSplit, F.newKind, F.newRow]
  repeat (first
    | refine wpAny_loadPart_at hC ?_
    | (refine wpAny_isSubtype_exc hC ?_; rw [z])
    | refine wpAny_madeBy_exc hC ?_
    | refine wpAny_staticBase_exc hC ?_
    | simp only [Bool.false_eq_true, bne_self_eq_false, if_false]
    | wp_step)
  exact hq
end
section
variable {prog : Program} {w : World} {A : Around} {E : Value → Shared → Prop} {R : Result → Shared → Prop} {h : Heap} {g : Array GenState} {d : Drawn} {t : Nat} {os : OsState}
variable {nm q : Str} {C N : Addr} {bs bm bmB : List Value} {hdct : Bool} {sn : List Str} {sub : List Value}
variable {ab : Bool} {col : Option Bool} {dd : Option Addr} {k0 k1 k2 k3 k5 : Option Value} {B newId initId : String} {rest : List Value}
theorem mkn (F : ExcBaseFacts B newId initId bmB) (m : Am bm B)
    (hC : h.get? C = some (excClassObj nm q C N bs bm hdct sn sub ab col dd k0 k1 k2 k3 k5 newId))
    (hq : R (.ok (.ret (.ref (h.objs.size + 1)))) ⟨(h.push (W.kdv_tup rest)).push (excO C h.objs.size), g, d, t, os⟩) (hr : rest.length ≤ sizeLine) :
    codeAny (model prog w) A (.builtin newId ⟨.ref C :: rest, []⟩) R ⟨h, g, d, t, os⟩ := by
  have ends := F.ends
  have cB : (Value.ref C :: bm).contains (.type B) = true := by rw [List.contains_cons, m.b]; exact Bool.or_true _
  have cA : (Value.ref C :: bm).contains (.type "AttributeError") = false := by
    rw [List.contains_cons, m.a]
    rfl
  have cN : (Value.ref C :: bm).contains (.type "NameError") = false := by
    rw [List.contains_cons, m.n]
    rfl
  refine codeAny_builtinAt F.entry ?_
  unfold Builtin.«BaseException.__new__»
  refine wpAt_bind ?_
  show wpAt _ _ _ (stack >>= _) _ _ _
  refine wpAt_bind (wpAt_stack fun p low => wpAt_of_wpAny ?_)
  wp_walk
  refine wpAt_of_wpAny ?_
  rw [F.owner]
  repeat (first
    | with_reducible refine wpAny_madeHere_exc F.canon hC ?_
    | with_reducible refine wpAny_loadPart_at hC ?_
    | (with_reducible refine wpAny_isSubtype_exc hC ?_; first | rw [cB] | rw [cA] | rw [cN])
    | wp_step)
  show R _ _
  rw [Heap.size_push]
  exact hq
theorem tcall (F : ExcBaseFacts B newId initId bmB) (m : Am bm B) {fI : Addr} {Q : Fin → Shared → Prop}
    (hC : h.get? C = some (excClassObj nm q C N bs bm hdct sn sub ab col dd k0 k1 k2 k3 k5 newId))
    (hi : W.Looks (model prog w) h (typeLookup (.ref C) "__init__") (some (.ref fI)))
    (hb : ∀ self, W.Looks (model prog w) h (bindSpecial (.ref fI) self) (.ref fI, [self])) (hr : rest.length ≤ sizeLine)
    (hq : codeAny (model prog w) A (.call (.ref fI) ⟨.ref (h.objs.size + 1) :: rest, []⟩)
      (fun r s' => match r with
        | .ok (.ret v) => v = .none ∧ Q (.done (.ret (.ref (h.objs.size + 1)))) s'
        | .ok _ => False
        | .error e => E e s') ⟨(h.push (W.kdv_tup rest)).push (excO C h.objs.size), g, d, t, os⟩) :
    wpAny (model prog w) A (Builtin.«type.__call__» ⟨.ref C :: rest, []⟩) Q E ⟨h, g, d, t, os⟩ := by
  repeat (first
    | with_reducible refine wpAny_madeBy_exc hC ?_
    | with_reducible refine wpAny_loadPart_at hC ?_
    | wp_step)
  refine codeAny_call_builtin_code (Code.quiet_builtin _ F.quiet) (chk F m hC (mkn F m hC ?_ hr))
  show wpAny _ _ _ _ _ _
  have kp : ∀ b o, h.get? b = some o → ((h.push (W.kdv_tup rest)).push (excO C h.objs.size)).get? b = some o :=
    fun b o e => Heap.get?_push_of_some _ (Heap.get?_push_of_some _ e)
  have there : ((h.push (W.kdv_tup rest)).push (excO C h.objs.size)).get? (h.objs.size + 1) = some (excO C h.objs.size) := by
    heap_get
  have cl2 := kp _ _ hC
  have self : (Value.ref C :: bm).contains (.ref C) = true := by simp
  have look := hi.keeps kp
  have bnd := (hb (.ref (h.objs.size + 1))).keeps kp
  unfold isInstance
  repeat (first
    | with_reducible refine wpAny_loadPart_at there ?_
    | (with_reducible refine wpAny_isSubtype_exc cl2 ?_; rw [self])
    | wp_step)
  show wpAny _ _ (typeLookup (.ref C) _) _ _ _
  refine look.at (wpAny_holding (wpAny_bind (bnd.at ?_)))
  refine wpAny_bind (wpAny_call (codeAny_mono hq fun r s' z => ?_))
  rcases r with e | (v | _ | _ | _)
  all_goals first
    | exact z
    | exact z.elim
    | skip
  obtain ⟨y, z⟩ := z
  subst y
  first
    | exact wpAny_pure (wpAny_pure z)
    | (wp_walk; exact z)
theorem own (F : ExcBaseFacts B newId initId bmB) (m : Am bm B) {fI : Addr}
    (hC : h.get? C = some (excClassObj nm q C N bs bm hdct sn sub ab col dd k0 k1 k2 k3 k5 newId))
    (hi : W.Looks (model prog w) h (typeLookup (.ref C) "__init__") (some (.ref fI)))
    (hb : ∀ self, W.Looks (model prog w) h (bindSpecial (.ref fI) self) (.ref fI, [self])) (hr : rest.length ≤ sizeLine)
    (hq : codeAny (model prog w) (A.under (.builtin "type.__call__" ⟨.ref C :: rest, []⟩)) (.call (.ref fI) ⟨.ref (h.objs.size + 1) :: rest, []⟩)
      (W.InitBack (h.objs.size + 1) R) ⟨(h.push (W.kdv_tup rest)).push (excO C h.objs.size), g, d, t, os⟩) :
    codeAny (model prog w) A (.call (.ref C) ⟨rest, []⟩) R ⟨h, g, d, t, os⟩ := by
  have a1 := tc_lookup
  have a2 := tc_bind (.ref C)
  have ty : (⟨h, g, d, t, os⟩ : Shared).TypeIs (.ref C) "type" := ⟨_, hC, rfl⟩
  refine codeAny_of_tree ?_
  show wpAny _ _ (callAny (.ref C) _) _ _ _
  repeat (any_goals (first
    | assumption
    | with_reducible refine wpAny_loadPart_at hC ?_
    | wp_step))
  refine ⟨rfl, codeAny_call_builtin_at (Code.quiet_builtin _ (by decide +kernel)) entry_typeCall (wpAny_check_type_call_sub hC (tcall F m hC hi hb hr ?_))⟩
  refine codeAny_mono hq fun r s' z => ?_
  rcases r with e | (v | _ | _ | _) <;> exact z
end
structure Bs (B ni ii : String) (tl bmB : List Value) : Prop where
  F : ExcBaseFacts B ni ii bmB
  m : Am tl B
  pass : ∀ self, refuseLoop self "__setattr__" tl = pure ()
  ob : tl.contains (.type "object") = true
theorem am_key : Am [.type "KeyError", .type "LookupError", .type "Exception", .type "BaseException", .type "object"] "LookupError" := ⟨by decide +kernel, by decide +kernel, by decide +kernel⟩
theorem bsIndex : Bs "IndexError" "IndexError.__new__" "IndexError.__init__" [.type "IndexError", .type "LookupError", .type "Exception", .type "BaseException", .type "object"] [.type "IndexError", .type "LookupError", .type "Exception", .type "BaseException", .type "object"] :=
  ⟨F.excBase_IndexError, ⟨by decide +kernel, by decide +kernel, by decide +kernel⟩, F.store_IndexError.passes, by decide +kernel⟩
theorem bsKey : Bs "LookupError" "LookupError.__new__" "LookupError.__init__" [.type "KeyError", .type "LookupError", .type "Exception", .type "BaseException", .type "object"] [.type "LookupError", .type "Exception", .type "BaseException", .type "object"] :=
  ⟨F.excBase_LookupError, am_key, fun self => by kernel_rfl, by decide +kernel⟩
theorem bsOver : Bs "OverflowError" "OverflowError.__new__" "OverflowError.__init__" [.type "OverflowError", .type "ArithmeticError", .type "Exception", .type "BaseException", .type "object"] [.type "OverflowError", .type "ArithmeticError", .type "Exception", .type "BaseException", .type "object"] :=
  ⟨F.excBase_OverflowError, ⟨by decide +kernel, by decide +kernel, by decide +kernel⟩, F.store_OverflowError.passes, by decide +kernel⟩
theorem bsArith : Bs "ArithmeticError" "ArithmeticError.__new__" "ArithmeticError.__init__" [.type "ArithmeticError", .type "Exception", .type "BaseException", .type "object"] [.type "ArithmeticError", .type "Exception", .type "BaseException", .type "object"] :=
  ⟨F.excBase_ArithmeticError, ⟨by decide +kernel, by decide +kernel, by decide +kernel⟩, F.store_ArithmeticError.passes, by decide +kernel⟩
section
variable {prog : Program} {w : World} {R : Result → Shared → Prop} {hp : Heap} {g : Array GenState} {d : Drawn} {t : Nat} {os : OsState} {A : Around}
theorem osaK {B ni ii : String} {tl bmB : List Value} (b : Bs B ni ii tl bmB) {K : W.Frag} {nm : Str} {tk : Tok} {y : Value} {e C : Addr} {fv : Array Value} {cd : ClassData} (kin : K.In hp)
    (at_ : hp.get? e = some { cls := .ref C, data := .fields fv }) (cl : W.clsIn K C = some cd) (mr : cd.mro = .ref C :: tl) (hd : cd.hasDict = true) (no : W.findIn K (.ref C) nm = some none)
    (fin : ∀ h' tk' dx, (∀ b o, b ≠ e → hp.get? b = some o → h'.get? b = some o) → hp.objs.size ≤ dx → dx ≠ e → h'.get? e = some { cls := .ref C, dict := some dx, data := .fields fv } → h'.Ns1 dx (fun z => if z = nm then some y else none) → R (.ok (.ret .none)) ⟨h', g, d, tk', os⟩) :
    codeAny (model prog w) A (.call (.builtin "object.__setattr__") ⟨[.ref e, .str nm tk, y], []⟩) R ⟨hp, g, d, t, os⟩ := by
  have J : W.InstAt hp e { cls := .ref C, data := .fields fv } C none := ⟨at_, rfl, rfl, trivial⟩
  have S := F.store_object; have isOb : cd.mro.contains (.type "object") = true := by rw [mr, List.contains_cons, b.ob, Bool.or_true]
  have notEmpty : cd.mro.isEmpty = false := by rw [mr]; rfl
  have far : e ≠ hp.objs.size := Nat.ne_of_lt (Heap.lt_size at_)
  have isSub : W.Looks (model prog w) hp (isInstance (.ref e) (.type "object")) true := J.type.andThen (W.looks_mroIn kin (by unfold W.mroIn; rw [cl, Option.bind_some, if_neg (by rw [notEmpty]; decide), isOb]))
  refine codeAny_call_builtin S.slot.plain S.entry (@W.check_slot (model prog w) _ _ ⟨hp, g, d, t, os⟩ "object.__setattr__" "object" "__setattr__" (.ref e) [.str nm tk, y] [] _ S.kind S.split isSub (S.args (.ref e) (.str nm tk) y) ?_)
  have lm : W.Looks (model prog w) hp (mroOf (.ref C)) cd.mro := (W.looks_clsIn kin cl).andThen .now
  have lt : W.Looks (model prog w) hp (storeTaker? none) none := .now
  have lc : W.Looks (model prog w) hp (classData C) cd := W.looks_clsIn kin cl
  rw [W.osa_eq, refuse_eq]; refine wpAny_bind (wpAny_bind (J.type.at (wpAny_bind (lm.at ?_))))
  rw [mr, refuseLoop_ref, b.pass]; refine wpAny_pure (wpAny_bind (J.type.at (wpAny_bind ((W.looks_findIn kin no).at (wpAny_bind (lt.at ?_))))))
  show wpAny _ _ (storeInOwnDict (.ref e) (.ref C) (.str nm tk) nm y false) _ _ _
  obtain ⟨_, _, _, _, _, hd', _, _, _, _, _⟩ := cd; dsimp only at hd; subst hd; unfold storeInOwnDict ownDictForStores
  repeat (first | with_reducible refine store_in_new ?_ ?_ | with_reducible refine wpAny_loadPart_at at_ ?_ | with_reducible refine lc.at ?_ | wp_step)
  · exact ⟨_, #[], _, (Heap.get?_update_ne _ _ _ _ far.symm).trans (Heap.get?_push_at rfl rfl), rfl, fun _ z => absurd z (by simp), fun _ => rfl⟩
  · intro h' tk' ns' sb
    have at2 : (hp.push { cls := .type "dict", data := .dict #[] }).get? e = some { cls := .ref C, data := .fields fv } := Heap.get?_push_of_some _ at_
    refine fin h' tk' hp.objs.size (fun b o nb ho => ?_) (Nat.le_refl _) far.symm ((sb.2 e far).trans (Heap.get?_update_self _ at2 rfl)) ns'
    exact (sb.2 b (Nat.ne_of_lt (Heap.lt_size ho))).trans ((Heap.get?_update_ne _ _ _ _ nb).trans (Heap.get?_push_of_some _ ho))
end
end Xk
end PySem
namespace L2
open PySem PySem.Spec PyProof.Rows
section
variable {X : Cx} {pins : List (Addr × Obj)} {σ : St} {H : Hp} {s : Shared} {a C : Addr} {f : Str} {y : V} {u : Value} {Q : Unit → Shared → Prop} {E : Value → Shared → Prop} {A : Around} {B ni ii : String} {tl bmB : List Value}
theorem osK_new (b : PySem.Xk.Bs B ni ii tl bmB) (T : OxG X.K C ni tl) (I : Inv X pins σ H s) (e : H a = some (exo a C none)) (hno : PySem.W.findIn X.K (.ref C) f = some none) (ry : RelV y u)
    (h : ∀ dx s', H dx = none → dx ≠ a → Inv X pins σ (upd (upd H dx (exd dx [(f, y)])) a (exo a C (some dx))) s' → Q () s') : wpAny (model X.prog X.w) A (setAttr (.ref a) f u) Q E s := by
  obtain ⟨nm, q, N, bs, sn, sub, ab, col, dd, k0, k1, k2, k3, k5, hC⟩ := T.cls
  have cl : PySem.W.clsIn X.K C = some { name := nm, bases := bs, mro := .ref C :: tl, ns := N, qualname := q, hasDict := true, slotNames := sn, subclasses := sub, abstract := ab, collection := col, hasDel := false } := by unfold PySem.W.clsIn; rw [hC] <;> rfl
  obtain ⟨t1, at_⟩ := exo_at I.hok e; obtain ⟨hp, g, d, t, os⟩ := s
  refine PySem.W.set_plain I.kIn (ox := { cls := .ref C, dict := none, data := .fields #[.ref t1, .none, .none, .none, .bool false, .none] }) (od := none) ⟨at_, rfl, rfl, trivial⟩ T.sa ?_
  refine PySem.Xk.osaK b I.kIn at_ cl rfl rfl hno (fun h' tk' dx kp big ne there ns' => ?_)
  have fr : H dx = none := I.hok.fresh big
  have n1 : ∀ {b : Addr} {o : Obj}, hp.get? b = some o → b ≠ dx := fun {b o} z => Nat.ne_of_lt (Nat.lt_of_lt_of_le (Heap.lt_size z) big)
  have n2 : ∀ {b : Addr}, H b = none → b ≠ a := fun {b} n z => by rw [z, e] at n; cases n
  have un : Un X.fs [] H (upd (upd H dx (exd dx [(f, y)])) a (exo a C (some dx))) hp h' := {
    keep := fun b o z n _ _ => kp b o (n2 n) z
    slot := fun b o z n _ _ => ⟨o.slots, kp b o (n2 n) z⟩
    free := fun b o z n _ => by rw [upd_ne (n2 n), upd_ne (n1 z)]; exact n
    there := fun b o z _ => by
      by_cases hb : b = a
      · rw [hb]; exact ⟨_, there⟩
      · exact ⟨o, kp b o hb z⟩
    tups := fun b xs z => by rw [upd_ne (at_ne e z exo_tup), upd_ne (ne_of_none z fr)]; exact z
    frzs := fun b o v z => by rw [upd_ne (at_ne e z exo_frz), upd_ne (ne_of_none z fr)]; exact z
    tbls := fun b ps z => ⟨#[], by rw [upd_ne (at_ne e z exo_tbl), upd_ne (ne_of_none z fr), z]; simp⟩ }
  refine h dx _ fr ne (I.un (t' := tk') un fun b o z => ?_)
  by_cases hb : b = a
  · subst hb; rw [upd_same] at z; cases z; exact exo_ok there
  · rw [upd_ne hb] at z
    by_cases hd : b = dx
    · subst hd; rw [upd_same] at z; cases z; exact exd_ok ns' (relO_put (fs := []) ry fun _ => True.intro)
    · rw [upd_ne hd] at z
      refine (I.hok b o z).stay (fun c v hc p => kp c v ?_ p) (fun c hc => by rw [upd_ne (at_ne e hc exo_own), upd_ne (ne_of_none hc fr)]; exact hc) (fun c xs hc => by rw [upd_ne (at_ne e hc exo_tup), upd_ne (ne_of_none hc fr)]; exact hc)
      rcases hc with hc | hc
      · rw [hc]; exact hb
      · exact at_ne e hc exo_own
/-- self.f = e, the first field of an exception in the making -/
def tOsK (K : PySem.W.Frag) (ni : String) (tl : List Value) (f : Str) (to te : TE) : TS := fun D σ H => te σ H fun y H1 => to σ H1 fun x H2 => ∃ a C : Addr, x = .ref a ∧ OxG K C ni tl ∧ PySem.W.findIn K (.ref C) f = some none ∧
  H2 a = some (exo a C none) ∧ ∀ dx, H2 dx = none → dx ≠ a → D.nx σ (upd (upd H2 dx (exd dx [(f, y)])) a (exo a C (some dx)))
theorem ps_osK {o e : Expr} {to te : TE} {p' pos : Pos} (b : PySem.Xk.Bs B ni ii tl bmB) (ho : PE X o to) (he : PE X e te) (hs : swapsWith e (some (.Attribute o f p')) pos.line X.env = pure false := by rfl) : PS X (.Assign [.Attribute o f p'] e pos) (tOsK X.K ni tl f to te) := by
  refine ⟨fun pins s σ H D I h => plainObj_wpAny_Assign_Attribute (thn (he.run pins s σ H _ I h) fun v s1 ⟨y, H1, I1, r1, q1⟩ => thn (ho.run pins s1 σ H1 _ I1 q1) fun u s2 ⟨x, H2, I2, r2, a, C, ex, T, hno, ea, q⟩ => ?_) hs⟩
  subst ex; obtain rfl : u = Value.ref a := r2
  exact osK_new b T I2 ea hno r1 fun dx s' n ne J => ⟨σ, _, J, q dx n ne⟩
/-- C(e, ..), C's own __init__ keeping sp, over a base class b -/
theorem pmk_oxK {e : Expr} {es : List Expr} {ta : TA} {p pos : Pos} {CX : CXT} {x : Str} {fI : Addr} {k : Nat} {fd : FuncData} {ps : List Str} {sp : Sp} {ds : List Value} {dvs : List V} (b : PySem.Xk.Bs B ni ii tl bmB) (T : OxG X.K C ni tl)
    (iC : PySem.W.findIn X.K (.ref C) "__init__" = some (some (.ref fI))) (tI : PySem.W.typeIn X.K (.ref fI) = some (.type "function")) (F1 : FnOk X.prog X.w X.K X.mg X.base CX k fI fd ps sp) (hr : Room (k + 1) X.A) (hb : Binds X.K fd ps ds) (hd : Vals dvs ds)
    (hx : Passes CX X (fun _ _ _ => False)) (hg : Gl X x) (hm : X.mg x = some (.ref C)) (ha : PA X (e :: es) ta) (hdb : (x == ("__debug__" : Str)) = false := by decide) (he : starEach (e :: es) X.env = (false, eval e X.env) :: starEach es X.env := by rfl)
    (hpl : (backTo pos (starEach es X.env)).any (·.1) = false := by rfl) : PMk X (.Call (.Name x p) (e :: es) [] pos) (tMkO C sp dvs ta) := by
  intro pins s σ H Q I h
  obtain ⟨nm, q, N, bs, sn, sub, ab, col, dd, k0, k1, k2, k3, k5, hC⟩ := T.cls
  refine wpAny_Call_Name_kw (ld_glob I hg hm (PySem.W.callWith_K (h₀ := X.base) I.ok.mod.kin T.kC (thn (ha.run pos pins s σ H _ I h) fun us s1 ⟨vs, H1, I1, r1, hz, q1⟩ => ⟨I1.kIn, ?_⟩) he hpl) hdb)
  show wpAny _ _ (call (.ref C) us) _ _ _
  obtain ⟨hp, g, dr, tk, os⟩ := s1
  have big : hp.objs.size ≤ hp.objs.size + 1 := Nat.le_succ _
  have fr : H1 (hp.objs.size + 1) = none := I1.hok.fresh big
  have q2 := q1 (hp.objs.size + 1) fr
  have keep : ∀ b o, hp.get? b = some o → ((hp.push (PySem.W.kdv_tup us)).push (PySem.HandSPX.excO C hp.objs.size)).get? b = some o := fun b o z => Heap.get?_push_of_some _ (Heap.get?_push_of_some _ z)
  have there : ((hp.push (PySem.W.kdv_tup us)).push (PySem.HandSPX.excO C hp.objs.size)).get? (hp.objs.size + 1) = some (PySem.HandSPX.excO C hp.objs.size) := by heap_get
  have J : Inv X pins σ (upd H1 (hp.objs.size + 1) (exo (hp.objs.size + 1) C none)) ⟨(hp.push (PySem.W.kdv_tup us)).push (PySem.HandSPX.excO C hp.objs.size), g, dr, tk, os⟩ :=
    I1.laid (t' := tk) (o := exo (hp.objs.size + 1) C none) keep big (exo_ok there)
  have rr : Vals (V.ref (hp.objs.size + 1) :: (vs ++ dvs)) (Value.ref (hp.objs.size + 1) :: (us ++ ds)) := .cons rfl (r1.append hd)
  have len : (Value.ref (hp.objs.size + 1) :: us ++ ds).length = ps.length := by have z := rr.length; rw [F1.len _ _ _ _ q2] at z; exact z.symm
  have short : us.length ≤ sizeLine := by rw [← Paired.length r1, sizeLine_eq]; omega
  refine wpAny_call (PySem.Xk.own b.F b.m (I1.kIn _ _ hC) (PySem.W.looks_findIn I1.kIn iC) (fun self => PySem.W.bind_fn I1.kIn self tI) short
    (codeAny_mono (F1.run _ X.stack _ _ ⟨Value.ref (hp.objs.size + 1) :: us, []⟩ (Value.ref (hp.objs.size + 1) :: (us ++ ds)) _ _ (fun _ _ _ => False) (hr.make C us []) (J.env0.make C us []) (hb _ (Value.ref (hp.objs.size + 1) :: us) J.kIn len) rr q2) fun r s' z => ?_))
  cases r with
  | error er => exact hx pins σ _ _ er s' J z
  | ok fl =>
    cases fl with
    | ret u =>
      obtain ⟨v, H2, os2, bare2, un2, hok2, rv, ev, d, fs, ea, ed, hd1, q3⟩ := z
      subst ev; obtain ⟨h2, g2, d2, t2, os'⟩ := s'
      exact ⟨rv, mk_end (raises_own T.exC T.tyC) I1 big keep un2 hok2 os2 bare2 ea ed hd1 q3⟩
    | next | brk | cont => exact z.elim
end
end L2
set_option Elab.async false
set_option linter.all false
set_option maxRecDepth 100000
set_option maxHeartbeats 4000000
/-! repr of an empty dict, too -/
namespace L2
open PySem PySem.Spec PyProof.Rows Evl Vr
def Dq (K : PySem.W.Frag) (H : Hp) (v : V) (d : PyData) : Prop := Dp K H v d ∨ ∃ a, v = .ref a ∧ H a = some (.dK []) ∧ d = .dict []
def rReprQ (K : PySem.W.Frag) : List V → Hp → VK → Prop := fun xs H Q => ∃ (v : V) (d : PyData), xs = [v] ∧ Dq K H v d ∧ d.showable = true ∧ d.depth ≤ 60 ∧ d.shown.length ≤ sizeLine ∧ Q (.str d.shown) H
theorem c_reprQ {X : Cx} (gd : X.A.guards = some []) (hu : X.A.units + 64 < cLine) : CallR X (.builtin "repr") (rReprQ X.K) := by
  intro pins s σ H xs us Q I r ⟨v, d, e, hd, hs, hdep, hz, q⟩
  rcases hd with hd | ⟨a, rfl, ha, rfl⟩
  · exact c_reprD gd hu pins s σ H xs us Q I r ⟨v, d, e, hd, hs, hdep, hz, q⟩
  subst e
  obtain rfl := Vals.ref1 r
  obtain ⟨_, hsm, vs, rel, dk⟩ := I.hok a _ ha
  cases rel
  obtain ⟨o, es, ep, ho, hx, hdat, _, pr, _⟩ := dk
  have e0 : es.toList = [] := by
    generalize es.toList = l at pr
    cases pr
    rfl
  have rd : Reads s.heap (.ref a) (.dict []) (a :: [] ++ []) := .dict ho hx.1 hdat (by rw [e0]; exact .nil) (by rw [e0]; exact .nil)
  refine repr_of_reads' rd hs (fun _ m => ?_) gd (by show X.A.units + (0 + 1 + 1) < cLine; omega) (fun _ _ z => z) (fun h' u tk kp => ⟨.str _, H, I.kept kp, ⟨_, rfl⟩, q⟩) hz
  have : sysModules = a := by simpa using m
  rw [this] at hsm
  simp at hsm
end L2
set_option Elab.async false
set_option linter.all false
set_option maxRecDepth 100000
set_option maxHeartbeats 4000000
/-! walks over an own object whose __iter__ answers an iterator over a tuple: the iterator is forgotten, it is younger than the caller's frame -/
namespace Wo
open PySem PySem.Spec PyProof.Rows L2 Evl Vr En PySem.W ItX
/-- a promise that knows how many objects there were at the call -/
structure FnA (P : Program) (w : PySem.World) (K : PySem.W.Frag) (mg : Str → Option Value) (base : Heap) (k : Nat) (f : Addr) (fd : FuncData) (ps : List Str) (sp : Nat → Sp) : Prop where
  many : ∀ n vs H Q E, sp n vs H Q E → vs.length = ps.length
  go : ∀ (A : Around) (outer : List Env) (s : Shared) (H : Hp) (args : Args) (us : List Value) (vs : List V) (Q : VK) (E : XK), Room k A → Env0 P w K mg base A outer s H → BindsTo s fd args (ps.zip us) → Vals vs us → sp s.heap.objs.size vs H Q E → codeAny (model P w) A (.call (.ref f) args) (CR CX0 outer P w H s Q E) s
section
variable {P : Program} {w : PySem.World} {K : PySem.W.Frag} {mg : Str → Option Value} {base : Heap} {f : Addr} {fd : FuncData} {ps : List Str} {sp : Nat → Sp}
theorem _root_.L2.Fun.okA {x qual : Str} {st : Stmt} {N : List Str} {k : Nat} (F : Fun K x qual st f fd) (S : FnScope N ps (defScope st)) (many : ∀ n vs H Q E, sp n vs H Q E → vs.length = ps.length)
    (body : ∀ (cdv : Value) (A : Around) (outer : List Env) (s : Shared) (H : Hp) (vs : List V) (Q : VK) (E : XK), Room k (A.deeper (envOfC qual (defScope st) s.heap.objs.size f cdv)) → sp s.heap.objs.size vs H Q E →
      ∃ t, PSs (cxOf CX0 P w K mg base N qual (defScope st) f cdv A outer s H E).nox (defBody st) t ∧ t { nx := fun _ H' => Q .non H', rt := Q } (L2.start N vs) H) : FnA P w K mg base (k + 1) f fd ps sp := by
  obtain ⟨o1, o2, k1, k2, k3, k4, c1, c2, o3, rfl, lk, hcd⟩ := F.ex
  exact ⟨many, fun A outer s H args us vs Q E r e b v h => LamX.run_ofS lk hcd S r e b v (many _ _ _ _ _ h) fun r2 => let ⟨t, h1, h2⟩ := body c1 A outer s H vs Q E r2 h; ⟨t, h1.nox, h2⟩⟩
end
section
variable {X : Cx} {pins : List (Addr × Obj)} {σ : L2.St} {H : Hp} {s : Shared} {f C a : Addr} {fd : FuncData} {ps : List Str} {sp : Nat → Sp} {E : XK} {n : Nat}
/-- iter(t), t a tuple: the iterator is young -/
def rIterA (K : PySem.W.Frag) (n : Nat) : List V → Hp → VK → Prop := fun xs H Q => ∃ (t : Addr) (zs : List V), xs = [.ref t] ∧ SqT K H t zs ∧ ∀ it, H it = none → n ≤ it → Q (.ref it) (upd H it (TiO t it 0))
theorem c_iterA : CallR X (.builtin "iter") (rIterA X.K X.s_0.heap.objs.size) := by
  intro pins s σ H xs us Q I r ⟨t, zs, e, ht, q⟩
  subst e
  rw [Vals.ref1 r]
  obtain ⟨its, rv, ⟨o, h1, h2, h3⟩, hz⟩ := I.tuple ht
  exact ti_call ⟨o, h1, h2, h3⟩ ⟨.ref s.heap.objs.size, _, I.laid (t' := s.toks) (fun b u z => Heap.get?_push_of_some _ z) (Nat.le_refl _) (ti_ok (Heap.get?_push_size _ rfl)), rfl, q _ (I.hok.fresh (Nat.le_refl _)) I.sz⟩
theorem call_A {A : Around} {us : List Value} {vs : List V} {Q : VK} {Er : Value → Shared → Prop} (sb : Sub X n A) (F : FnA X.prog X.w X.K X.mg X.base n f fd ps sp) (hb : Binds X.K fd ps []) (I : Inv X pins σ H s) (r : Vals vs us) (h : sp s.heap.objs.size vs H Q E) :
    wpAny (model X.prog X.w) A (call (.ref f) us) (EP X pins σ Q) Er s := by
  have z := I.env0
  have b1 : BindsTo s fd ⟨us, []⟩ (ps.zip us) := by simpa using hb s us I.kIn (by rw [List.append_nil, ← r.length]; exact F.many _ _ _ _ _ h)
  refine wpAny_call (codeAny_mono (F.go A X.stack s H ⟨us, []⟩ us vs Q E sb.room ⟨by rw [sb.fr]; exact z.frames, z.mod, z.bs, z.bsz, z.funs, z.frf, z.hok, z.bare⟩ b1 r h) fun r s' hq => ?_)
  cases r with
  | error e => exact hq.elim
  | ok fl => cases fl with
    | ret u => exact I.after hq
    | next | brk | cont => exact hq.elim
/-- for x in o -/
def iOwn (K : PySem.W.Frag) (C : Addr) (sp : Nat → Sp) (E : XK) (te : TE) : TI := fun σ H R => te σ H fun v H1 => ∃ a dx fs, v = .ref a ∧ H1 a = some (.ins C dx fs) ∧ ∀ n, sp n [.ref a] H1 (fun v H' => ∃ it t, v = .ref it ∧ H' it = some (TiO t it 0) ∧ n ≤ it ∧ R (Itt K t) (dropH H' it)) E
theorem pi_own {tg e : Expr} {te : TE} (F : FnA X.prog X.w X.K X.mg X.base n f fd ps sp) (hr : Room n X.A) (M : Meth X.K C "__iter__" f) (hb : Binds X.K fd ps []) (he : PE X e te) : PI X tg e (iOwn X.K C sp E te) := by
  refine ⟨fun pins s σ H R I h => thn (he.run pins s σ H _ I h) fun u s1 ⟨v, H1, I1, r1, a, dx, fs, ev, ha, q⟩ => ?_⟩
  subst ev
  cases r1
  obtain ⟨mA, J, _⟩ := ins_get I1.hok ha
  obtain ⟨od, J, _⟩ := J.look
  obtain ⟨m0, hF⟩ := I1.fr
  refine owit_iter hF I1.ok.mod.kin J M.at_ M.fn (wpAny_mono (call_A (vs := [.ref a]) ⟨hr, rfl⟩ F hb I1 (.cons rfl .nil) (q _)) (fun u s2 z => ?_) fun _ _ z => z)
  obtain ⟨v, H2, I2, rv, it, t, rfl, hi, hn, hR⟩ := z
  cases rv
  have hg := ti_get I2 hi
  have hT : s2.TypeIs (.ref it) "tuple_iterator" := ⟨_, hg, rfl⟩
  unfold OwitIt
  refine wpAny_specialOf hT PySem.F.slot_tuple_iterator_next.lookup ?_
  refine ⟨it, [it], _, _, dropH H2 it, rfl, inv_drop I2 hi, turn_tuple t it, ⟨_, hg, rfl, rfl⟩, fun b hb => ?_, hR⟩
  have e : b = it := by simpa using hb
  rw [e]
  exact inv_fp I2 hi (Nat.le_trans I1.sz hn)
end
section
variable {K : PySem.W.Frag} {σ : L2.St} {H : Hp} {te tl : TE} {t : TT} {C a tu : Addr} {dx : Addr} {fs : List (Str × V)} {sp : Nat → Sp} {E : XK}
theorem ex_drop {H1 H2 : Hp} {it : Addr} (e : Ex H1 H2) (h : H1 it = none) : Ex H1 (dropH H2 it) := fun b o hb => by
  rw [dropH_ne (ne_of_none hb h)]
  exact e b o hb
/-- what an own __iter__ promises: an iterator over the tuple tu -/
def AnsI (sp : Nat → Sp) (E : XK) (H : Hp) (a tu : Addr) : Prop := ∀ H1, Ex H H1 → ∀ n (Q : VK), (∀ it H', H1 it = none → n ≤ it → Ex H1 H' → H' it = some (TiO tu it 0) → Q (.ref it) H') → sp n [.ref a] H1 Q E
/-- [e for x in o if t] -/
theorem el_lcO {xs : List V} {j : Nat} {vs : List Nat} (f : Nat → Bool) (v : Nat → V) (h : Ev tl σ H (.ref a)) (ha : H a = some (.ins C dx fs)) (hs : AnsI sp E H a tu) (hx : SqT K H tu xs) (hz : xs.length ≤ 40000) (hw : ∀ x, wipe ((wipe σ vs).set j (some x)) vs = wipe σ vs)
    (ht : ∀ (i : Nat) (x : V) H1, Ex H H1 → xs[i]? = some x → EvT t ((wipe σ vs).set j (some x)) H1 (f i)) (he : ∀ (i : Nat) (x : V) H1, Ex H H1 → xs[i]? = some x → f i = true → Ev te ((wipe σ vs).set j (some x)) H1 (v i)) :
    EvL (tLc (iOwn K C sp E tl) (gName j) t te vs) σ H (given xs.length f v) := fun H0 e Q q => h H0 e _ fun H1 e1 => ⟨a, dx, fs, rfl, (e.trans e1) _ _ ha, fun n => hs H1 (e.trans e1) n _ fun it H2 hit hn e2 hi => ⟨it, tu, rfl, hi, hn, fun Dl hD => by
  have e3 : Ex H1 (dropH H2 it) := ex_drop e2 hit
  exact lc_tup (xs := xs) (Cw (dropH H2 it) f v Dl) ⟨hD, Ex.new hD, upd_same⟩ (fun i H' _ p => ex_t (((e.trans e1).trans e3).trans p.2.1) hx)
    (fun i x H' hi p => ⟨hw x, cw_turn p (by have := (List.getElem?_eq_some_iff.mp hi).1; omega) (ht i x _ ((e.trans e1).trans e3) hi) (fun hf => he i x _ ((e.trans e1).trans e3) hi hf)⟩)
    (fun H' p => q Dl H' (fresh_back (e1.trans e3) p.1) ((e1.trans e3).trans p.2.1) p.2.2)⟩⟩
end
end Wo
set_option Elab.async false
set_option linter.all false
set_option maxRecDepth 100000
set_option maxHeartbeats 4000000
set_option exponentiation.threshold 500
namespace Kz
open PySem PySem.Spec PyProof.Rows L2 Evl Vr
def top (i : Nat) : Stmt := PySem.Challenge.pw_settledplay_k33_errors_of_differences_an.main.body.getD i (.Pass ⟨0, 0, 0, 0⟩)
abbrev s_InvalidNumber___init__ : Stmt := inClass (top 4) 0
theorem sc_InvalidNumber___init__ : FnScope ["self", "given"] ["self", "given"] (defScope s_InvalidNumber___init__) := ⟨rfl, rfl, rfl, by decide +kernel, rfl, by decide +kernel, by decide +kernel⟩
abbrev s_UnknownName___init__ : Stmt := inClass (top 5) 0
theorem sc_UnknownName___init__ : FnScope ["self", "wanted"] ["self", "wanted"] (defScope s_UnknownName___init__) := ⟨rfl, rfl, rfl, by decide +kernel, rfl, by decide +kernel, by decide +kernel⟩
abbrev s_Refused___init__ : Stmt := inClass (top 6) 0
theorem sc_Refused___init__ : FnScope ["self", "reason"] ["self", "reason"] (defScope s_Refused___init__) := ⟨rfl, rfl, rfl, by decide +kernel, rfl, by decide +kernel, by decide +kernel⟩
abbrev s_is_integer : Stmt := top 8
theorem sc_is_integer : FnScope ["value"] ["value"] (defScope s_is_integer) := ⟨rfl, rfl, rfl, by decide +kernel, rfl, by decide +kernel, by decide +kernel⟩
abbrev s_is_within : Stmt := top 9
theorem sc_is_within : FnScope ["value", "low", "high"] ["value", "low", "high"] (defScope s_is_within) := ⟨rfl, rfl, rfl, by decide +kernel, rfl, by decide +kernel, by decide +kernel⟩
abbrev s_is_whole : Stmt := top 10
theorem sc_is_whole : FnScope ["value"] ["value"] (defScope s_is_whole) := ⟨rfl, rfl, rfl, by decide +kernel, rfl, by decide +kernel, by decide +kernel⟩
abbrev s_is_name : Stmt := top 11
theorem sc_is_name : FnScope ["value"] ["value"] (defScope s_is_name) := ⟨rfl, rfl, rfl, by decide +kernel, rfl, by decide +kernel, by decide +kernel⟩
abbrev s_need_within : Stmt := top 12
theorem sc_need_within : FnScope ["value", "low", "high"] ["value", "low", "high"] (defScope s_need_within) := ⟨rfl, rfl, rfl, by decide +kernel, rfl, by decide +kernel, by decide +kernel⟩
abbrev s_is_luck : Stmt := top 15
theorem sc_is_luck : FnScope ["value"] ["value"] (defScope s_is_luck) := ⟨rfl, rfl, rfl, by decide +kernel, rfl, by decide +kernel, by decide +kernel⟩
abbrev s_is_number : Stmt := top 18
theorem sc_is_number : FnScope ["value"] ["value"] (defScope s_is_number) := ⟨rfl, rfl, rfl, by decide +kernel, rfl, by decide +kernel, by decide +kernel⟩
abbrev s_World___init__ : Stmt := inClass (top 22) 0
theorem sc_World___init__ : FnScope ["self", "tick", "next_id", "luck", "things"] ["self", "tick", "next_id", "luck", "things"] (defScope s_World___init__) := ⟨rfl, rfl, rfl, by decide +kernel, rfl, by decide +kernel, by decide +kernel⟩
abbrev s_World__fill : Stmt := inClass (top 22) 1
theorem sc_World__fill : FnScope ["self", "tick", "next_id", "luck", "things", "thing"] ["self", "tick", "next_id", "luck", "things"] (defScope s_World__fill) := ⟨rfl, rfl, rfl, by decide +kernel, rfl, by decide +kernel, by decide +kernel⟩
abbrev s_World_ids : Stmt := inClass (top 22) 2
theorem sc_World_ids : FnScope ["self", "kind", "thing"] ["self", "kind"] (defScope s_World_ids) := ⟨rfl, rfl, rfl, by decide +kernel, rfl, by decide +kernel, by decide +kernel⟩
abbrev s_World_kind_of : Stmt := inClass (top 22) 3
theorem sc_World_kind_of : FnScope ["self", "thing"] ["self", "thing"] (defScope s_World_kind_of) := ⟨rfl, rfl, rfl, by decide +kernel, rfl, by decide +kernel, by decide +kernel⟩
abbrev s_World_numbers : Stmt := inClass (top 22) 4
theorem sc_World_numbers : FnScope ["self", "thing"] ["self", "thing"] (defScope s_World_numbers) := ⟨rfl, rfl, rfl, by decide +kernel, rfl, by decide +kernel, by decide +kernel⟩
abbrev s_World___contains__ : Stmt := inClass (top 22) 5
theorem sc_World___contains__ : FnScope ["self", "value"] ["self", "value"] (defScope s_World___contains__) := ⟨rfl, rfl, rfl, by decide +kernel, rfl, by decide +kernel, by decide +kernel⟩
abbrev s_World___len__ : Stmt := inClass (top 22) 6
theorem sc_World___len__ : FnScope ["self"] ["self"] (defScope s_World___len__) := ⟨rfl, rfl, rfl, by decide +kernel, rfl, by decide +kernel, by decide +kernel⟩
abbrev s_World___iter__ : Stmt := inClass (top 22) 7
theorem sc_World___iter__ : FnScope ["self"] ["self"] (defScope s_World___iter__) := ⟨rfl, rfl, rfl, by decide +kernel, rfl, by decide +kernel, by decide +kernel⟩
abbrev s_World___eq__ : Stmt := inClass (top 22) 8
theorem sc_World___eq__ : FnScope ["self", "other"] ["self", "other"] (defScope s_World___eq__) := ⟨rfl, rfl, rfl, by decide +kernel, rfl, by decide +kernel, by decide +kernel⟩
abbrev s_World___str__ : Stmt := inClass (top 22) 9
theorem sc_World___str__ : FnScope ["self"] ["self"] (defScope s_World___str__) := ⟨rfl, rfl, rfl, by decide +kernel, rfl, by decide +kernel, by decide +kernel⟩
abbrev s_properties_of : Stmt := top 23
theorem sc_properties_of : FnScope ["world"] ["world"] (defScope s_properties_of) := ⟨rfl, rfl, rfl, by decide +kernel, rfl, by decide +kernel, by decide +kernel⟩
abbrev s_world_of : Stmt := top 24
theorem sc_world_of : FnScope ["tick", "next_id", "luck", "things", "world"] ["tick", "next_id", "luck", "things"] (defScope s_world_of) := ⟨rfl, rfl, rfl, by decide +kernel, rfl, by decide +kernel, by decide +kernel⟩
abbrev s_are_things : Stmt := top 25
theorem sc_are_things : FnScope ["value", "thing"] ["value"] (defScope s_are_things) := ⟨rfl, rfl, rfl, by decide +kernel, rfl, by decide +kernel, by decide +kernel⟩
abbrev s_is_thing : Stmt := top 26
theorem sc_is_thing : FnScope ["value"] ["value"] (defScope s_is_thing) := ⟨rfl, rfl, rfl, by decide +kernel, rfl, by decide +kernel, by decide +kernel⟩
abbrev s_are_numbers : Stmt := top 27
theorem sc_are_numbers : FnScope ["value", "number"] ["value"] (defScope s_are_numbers) := ⟨rfl, rfl, rfl, by decide +kernel, rfl, by decide +kernel, by decide +kernel⟩
abbrev s_are_in_sequence : Stmt := top 28
theorem sc_are_in_sequence : FnScope ["things", "next_id", "ids", "thing", "low", "high"] ["things", "next_id"] (defScope s_are_in_sequence) := ⟨rfl, rfl, rfl, by decide +kernel, rfl, by decide +kernel, by decide +kernel⟩
abbrev s_need_world : Stmt := top 29
theorem sc_need_world : FnScope ["value"] ["value"] (defScope s_need_world) := ⟨rfl, rfl, rfl, by decide +kernel, rfl, by decide +kernel, by decide +kernel⟩
abbrev s_do_ascend : Stmt := top 31
theorem sc_do_ascend : FnScope ["members", "low", "high"] ["members"] (defScope s_do_ascend) := ⟨rfl, rfl, rfl, by decide +kernel, rfl, by decide +kernel, by decide +kernel⟩
abbrev s_is_difference : Stmt := top 34
theorem sc_is_difference : FnScope ["value", "tick", "next_id", "luck", "gone", "came", "changed", "ids", "unlike", "thing", "triple"] ["value"] (defScope s_is_difference) := ⟨rfl, rfl, rfl, by decide +kernel, rfl, by decide +kernel, by decide +kernel⟩
abbrev s_are_gone : Stmt := top 35
theorem sc_are_gone : FnScope ["value", "thing"] ["value"] (defScope s_are_gone) := ⟨rfl, rfl, rfl, by decide +kernel, rfl, by decide +kernel, by decide +kernel⟩
abbrev s_are_coming : Stmt := top 36
theorem sc_are_coming : FnScope ["value", "thing"] ["value"] (defScope s_are_coming) := ⟨rfl, rfl, rfl, by decide +kernel, rfl, by decide +kernel, by decide +kernel⟩
abbrev s_are_changes : Stmt := top 37
theorem sc_are_changes : FnScope ["value", "triple"] ["value"] (defScope s_are_changes) := ⟨rfl, rfl, rfl, by decide +kernel, rfl, by decide +kernel, by decide +kernel⟩
abbrev s_is_change : Stmt := top 38
theorem sc_is_change : FnScope ["value"] ["value"] (defScope s_is_change) := ⟨rfl, rfl, rfl, by decide +kernel, rfl, by decide +kernel, by decide +kernel⟩
abbrev s_difference : Stmt := top 39
theorem sc_difference : FnScope ["one", "other"] ["one", "other"] (defScope s_difference) := ⟨rfl, rfl, rfl, by decide +kernel, rfl, by decide +kernel, by decide +kernel⟩
abbrev s_difference_of : Stmt := top 40
theorem sc_difference_of : FnScope ["one", "other", "came", "changed", "told", "gone", "thing"] ["one", "other"] (defScope s_difference_of) := ⟨rfl, rfl, rfl, by decide +kernel, rfl, by decide +kernel, by decide +kernel⟩
abbrev s_has_alike : Stmt := top 41
theorem sc_has_alike : FnScope ["world", "told", "thing", "kind", "numbers"] ["world", "told"] (defScope s_has_alike) := ⟨rfl, rfl, rfl, by decide +kernel, rfl, by decide +kernel, by decide +kernel⟩
abbrev s_changes_of : Stmt := top 42
theorem sc_changes_of : FnScope ["former", "told", "thing", "_", "numbers", "at", "number"] ["former", "told"] (defScope s_changes_of) := ⟨rfl, rfl, rfl, by decide +kernel, rfl, by decide +kernel, by decide +kernel⟩
abbrev s_applied : Stmt := top 43
theorem sc_applied : FnScope ["world", "told", "unfit", "things"] ["world", "told"] (defScope s_applied) := ⟨rfl, rfl, rfl, by decide +kernel, rfl, by decide +kernel, by decide +kernel⟩
abbrev s_world_behind : Stmt := top 44
theorem sc_world_behind : FnScope ["world", "told"] ["world", "told"] (defScope s_world_behind) := ⟨rfl, rfl, rfl, by decide +kernel, rfl, by decide +kernel, by decide +kernel⟩
abbrev s_ids_that_fail : Stmt := top 45
theorem sc_ids_that_fail : FnScope ["world", "told", "gone", "thing", "at", "_"] ["world", "told"] (defScope s_ids_that_fail) := ⟨rfl, rfl, rfl, by decide +kernel, rfl, by decide +kernel, by decide +kernel⟩
abbrev s_things_behind : Stmt := top 46
theorem sc_things_behind : FnScope ["world", "told", "_", "gone", "came", "changed", "thing", "kind", "numbers", "things", "at", "number"] ["world", "told"] (defScope s_things_behind) := ⟨rfl, rfl, rfl, by decide +kernel, rfl, by decide +kernel, by decide +kernel⟩
abbrev s_size : Stmt := top 47
theorem sc_size : FnScope ["told", "_", "gone", "came", "changed", "numbers"] ["told"] (defScope s_size) := ⟨rfl, rfl, rfl, by decide +kernel, rfl, by decide +kernel, by decide +kernel⟩
abbrev s_Ring___init__ : Stmt := inClass (top 50) 0
theorem sc_Ring___init__ : FnScope ["self", "world", "spacing"] ["self", "world", "spacing"] (defScope s_Ring___init__) := ⟨rfl, rfl, rfl, by decide +kernel, rfl, by decide +kernel, by decide +kernel⟩
abbrev s_Ring__fill : Stmt := inClass (top 50) 1
theorem sc_Ring__fill : FnScope ["self", "first", "spacing", "kept", "tick"] ["self", "first", "spacing", "kept"] (defScope s_Ring__fill) := ⟨rfl, rfl, rfl, by decide +kernel, rfl, by decide +kernel, by decide +kernel⟩
abbrev s_Ring__is_whole : Stmt := inClass (top 50) 2
theorem sc_Ring__is_whole : FnScope ["self", "tick"] ["self", "tick"] (defScope s_Ring__is_whole) := ⟨rfl, rfl, rfl, by decide +kernel, rfl, by decide +kernel, by decide +kernel⟩
abbrev s_Ring_put : Stmt := inClass (top 50) 3
theorem sc_Ring_put : FnScope ["self", "world", "part"] ["self", "world"] (defScope s_Ring_put) := ⟨rfl, rfl, rfl, by decide +kernel, rfl, by decide +kernel, by decide +kernel⟩
abbrev s_Ring_world : Stmt := inClass (top 50) 4
theorem sc_Ring_world : FnScope ["self", "tick", "whole", "world", "at"] ["self", "tick"] (defScope s_Ring_world) := ⟨rfl, rfl, rfl, by decide +kernel, rfl, by decide +kernel, by decide +kernel⟩
abbrev s_Ring_work : Stmt := inClass (top 50) 5
theorem sc_Ring_work : FnScope ["self", "tick"] ["self", "tick"] (defScope s_Ring_work) := ⟨rfl, rfl, rfl, by decide +kernel, rfl, by decide +kernel, by decide +kernel⟩
abbrev s_Ring_back_to : Stmt := inClass (top 50) 6
theorem sc_Ring_back_to : FnScope ["self", "tick"] ["self", "tick"] (defScope s_Ring_back_to) := ⟨rfl, rfl, rfl, by decide +kernel, rfl, by decide +kernel, by decide +kernel⟩
abbrev s_Ring_from_tick : Stmt := inClass (top 50) 7
theorem sc_Ring_from_tick : FnScope ["self", "tick", "whole"] ["self", "tick"] (defScope s_Ring_from_tick) := ⟨rfl, rfl, rfl, by decide +kernel, rfl, by decide +kernel, by decide +kernel⟩
abbrev s_Ring__need_tick : Stmt := inClass (top 50) 8
theorem sc_Ring__need_tick : FnScope ["self", "tick"] ["self", "tick"] (defScope s_Ring__need_tick) := ⟨rfl, rfl, rfl, by decide +kernel, rfl, by decide +kernel, by decide +kernel⟩
abbrev s_Ring___contains__ : Stmt := inClass (top 50) 9
theorem sc_Ring___contains__ : FnScope ["self", "value"] ["self", "value"] (defScope s_Ring___contains__) := ⟨rfl, rfl, rfl, by decide +kernel, rfl, by decide +kernel, by decide +kernel⟩
abbrev s_Ring___len__ : Stmt := inClass (top 50) 10
theorem sc_Ring___len__ : FnScope ["self"] ["self"] (defScope s_Ring___len__) := ⟨rfl, rfl, rfl, by decide +kernel, rfl, by decide +kernel, by decide +kernel⟩
abbrev s_Ring___eq__ : Stmt := inClass (top 50) 11
theorem sc_Ring___eq__ : FnScope ["self", "other"] ["self", "other"] (defScope s_Ring___eq__) := ⟨rfl, rfl, rfl, by decide +kernel, rfl, by decide +kernel, by decide +kernel⟩
abbrev s_parts_of : Stmt := top 51
theorem sc_parts_of : FnScope ["ring"] ["ring"] (defScope s_parts_of) := ⟨rfl, rfl, rfl, by decide +kernel, rfl, by decide +kernel, by decide +kernel⟩
abbrev s_ring_of : Stmt := top 52
theorem sc_ring_of : FnScope ["first", "spacing", "kept", "ring"] ["first", "spacing", "kept"] (defScope s_ring_of) := ⟨rfl, rfl, rfl, by decide +kernel, rfl, by decide +kernel, by decide +kernel⟩
abbrev s_law_dice : Stmt := top 54
theorem sc_law_dice : FnScope ["script", "spot", "cell", "left"] ["script", "spot"] (defScope s_law_dice) := ⟨rfl, rfl, rfl, by decide +kernel, rfl, by decide +kernel, by decide +kernel⟩
abbrev s_law_roll : Stmt := top 55
theorem sc_law_roll : FnScope ["dice", "total", "found", "one", "two"] ["dice", "total"] (defScope s_law_roll) := ⟨rfl, rfl, rfl, by decide +kernel, rfl, by decide +kernel, by decide +kernel⟩
abbrev s_law_pick : Stmt := top 56
theorem sc_law_pick : FnScope ["dice", "items"] ["dice", "items"] (defScope s_law_pick) := ⟨rfl, rfl, rfl, by decide +kernel, rfl, by decide +kernel, by decide +kernel⟩
abbrev s_law_met : Stmt := top 57
theorem sc_law_met : FnScope ["call", "error"] ["call"] (defScope s_law_met) := ⟨rfl, rfl, rfl, by decide +kernel, rfl, by decide +kernel, by decide +kernel⟩
abbrev s_law_no_world : Stmt := top 58
theorem sc_law_no_world : FnScope ["dice"] ["dice"] (defScope s_law_no_world) := ⟨rfl, rfl, rfl, by decide +kernel, rfl, by decide +kernel, by decide +kernel⟩
abbrev s_law_parts_right : Stmt := top 59
theorem sc_law_parts_right : FnScope ["dice", "world", "told", "due", "bad", "no"] ["dice", "world"] (defScope s_law_parts_right) := ⟨rfl, rfl, rfl, by decide +kernel, rfl, by decide +kernel, by decide +kernel⟩
abbrev s_law_ring_right : Stmt := top 60
theorem sc_law_ring_right : FnScope ["dice", "world", "told", "due", "bad", "no", "ring", "spacing_here"] ["dice", "world"] (defScope s_law_ring_right) := ⟨rfl, rfl, rfl, by decide +kernel, rfl, by decide +kernel, by decide +kernel⟩
abbrev s_law : Stmt := top 61
theorem sc_law : FnScope ["script", "spot", "dice", "told", "world"] ["script"] (defScope s_law) := ⟨rfl, rfl, rfl, by decide +kernel, rfl, by decide +kernel, by decide +kernel⟩
structure Txt (K : PySem.W.Frag) (mg : Str → Option Value) (w : World) where
  C_World : Addr
  cl_World : Cls K C_World
  g_World : mg "World" = some (.ref C_World)
  n_World_tick : NoAttr K C_World "tick"
  n_World_next_id : NoAttr K C_World "next_id"
  n_World_luck : NoAttr K C_World "luck"
  n_World_things : NoAttr K C_World "things"
  n_World_order : NoAttr K C_World "order"
  n_World_table : NoAttr K C_World "table"
  C_Ring : Addr
  cl_Ring : Cls K C_Ring
  g_Ring : mg "Ring" = some (.ref C_Ring)
  n_Ring_first : NoAttr K C_Ring "first"
  n_Ring_last : NoAttr K C_Ring "last"
  n_Ring_spacing : NoAttr K C_Ring "spacing"
  n_Ring_kept : NoAttr K C_Ring "kept"
  n_Ring_wholes : NoAttr K C_Ring "wholes"
  a_is_integer : Addr
  fd_is_integer : FuncData
  F_is_integer : Fun K "is_integer" "is_integer" s_is_integer a_is_integer fd_is_integer
  g_is_integer : mg "is_integer" = some (.ref a_is_integer)
  b_is_integer : Binds K fd_is_integer ["value"] []
  a_is_within : Addr
  fd_is_within : FuncData
  F_is_within : Fun K "is_within" "is_within" s_is_within a_is_within fd_is_within
  g_is_within : mg "is_within" = some (.ref a_is_within)
  b_is_within : Binds K fd_is_within ["value", "low", "high"] []
  a_is_whole : Addr
  fd_is_whole : FuncData
  F_is_whole : Fun K "is_whole" "is_whole" s_is_whole a_is_whole fd_is_whole
  g_is_whole : mg "is_whole" = some (.ref a_is_whole)
  b_is_whole : Binds K fd_is_whole ["value"] []
  a_is_name : Addr
  fd_is_name : FuncData
  F_is_name : Fun K "is_name" "is_name" s_is_name a_is_name fd_is_name
  g_is_name : mg "is_name" = some (.ref a_is_name)
  b_is_name : Binds K fd_is_name ["value"] []
  a_need_within : Addr
  fd_need_within : FuncData
  F_need_within : Fun K "need_within" "need_within" s_need_within a_need_within fd_need_within
  g_need_within : mg "need_within" = some (.ref a_need_within)
  b_need_within : Binds K fd_need_within ["value", "low", "high"] []
  a_is_luck : Addr
  fd_is_luck : FuncData
  F_is_luck : Fun K "is_luck" "is_luck" s_is_luck a_is_luck fd_is_luck
  g_is_luck : mg "is_luck" = some (.ref a_is_luck)
  b_is_luck : Binds K fd_is_luck ["value"] []
  a_is_number : Addr
  fd_is_number : FuncData
  F_is_number : Fun K "is_number" "is_number" s_is_number a_is_number fd_is_number
  g_is_number : mg "is_number" = some (.ref a_is_number)
  b_is_number : Binds K fd_is_number ["value"] []
  a_World___init__ : Addr
  fd_World___init__ : FuncData
  F_World___init__ : Fun K "__init__" "World.__init__" s_World___init__ a_World___init__ fd_World___init__
  m_World___init__ : Meth K C_World "__init__" a_World___init__
  b_World___init__ : Binds K fd_World___init__ ["self", "tick", "next_id", "luck", "things"] []
  a_World__fill : Addr
  fd_World__fill : FuncData
  F_World__fill : Fun K "_fill" "World._fill" s_World__fill a_World__fill fd_World__fill
  m_World__fill : Meth K C_World "_fill" a_World__fill
  b_World__fill : Binds K fd_World__fill ["self", "tick", "next_id", "luck", "things"] []
  a_World_ids : Addr
  fd_World_ids : FuncData
  F_World_ids : Fun K "ids" "World.ids" s_World_ids a_World_ids fd_World_ids
  m_World_ids : Meth K C_World "ids" a_World_ids
  b_World_ids : Binds K fd_World_ids ["self", "kind"] []
  a_World_kind_of : Addr
  fd_World_kind_of : FuncData
  F_World_kind_of : Fun K "kind_of" "World.kind_of" s_World_kind_of a_World_kind_of fd_World_kind_of
  m_World_kind_of : Meth K C_World "kind_of" a_World_kind_of
  b_World_kind_of : Binds K fd_World_kind_of ["self", "thing"] []
  a_World_numbers : Addr
  fd_World_numbers : FuncData
  F_World_numbers : Fun K "numbers" "World.numbers" s_World_numbers a_World_numbers fd_World_numbers
  m_World_numbers : Meth K C_World "numbers" a_World_numbers
  b_World_numbers : Binds K fd_World_numbers ["self", "thing"] []
  a_World___contains__ : Addr
  fd_World___contains__ : FuncData
  F_World___contains__ : Fun K "__contains__" "World.__contains__" s_World___contains__ a_World___contains__ fd_World___contains__
  m_World___contains__ : Meth K C_World "__contains__" a_World___contains__
  b_World___contains__ : Binds K fd_World___contains__ ["self", "value"] []
  a_World___len__ : Addr
  fd_World___len__ : FuncData
  F_World___len__ : Fun K "__len__" "World.__len__" s_World___len__ a_World___len__ fd_World___len__
  m_World___len__ : Meth K C_World "__len__" a_World___len__
  b_World___len__ : Binds K fd_World___len__ ["self"] []
  a_World___iter__ : Addr
  fd_World___iter__ : FuncData
  F_World___iter__ : Fun K "__iter__" "World.__iter__" s_World___iter__ a_World___iter__ fd_World___iter__
  m_World___iter__ : Meth K C_World "__iter__" a_World___iter__
  b_World___iter__ : Binds K fd_World___iter__ ["self"] []
  a_World___eq__ : Addr
  fd_World___eq__ : FuncData
  F_World___eq__ : Fun K "__eq__" "World.__eq__" s_World___eq__ a_World___eq__ fd_World___eq__
  m_World___eq__ : Meth K C_World "__eq__" a_World___eq__
  b_World___eq__ : Binds K fd_World___eq__ ["self", "other"] []
  a_World___str__ : Addr
  fd_World___str__ : FuncData
  F_World___str__ : Fun K "__str__" "World.__str__" s_World___str__ a_World___str__ fd_World___str__
  m_World___str__ : Meth K C_World "__str__" a_World___str__
  b_World___str__ : Binds K fd_World___str__ ["self"] []
  a_properties_of : Addr
  fd_properties_of : FuncData
  F_properties_of : Fun K "properties_of" "properties_of" s_properties_of a_properties_of fd_properties_of
  g_properties_of : mg "properties_of" = some (.ref a_properties_of)
  b_properties_of : Binds K fd_properties_of ["world"] []
  a_world_of : Addr
  fd_world_of : FuncData
  F_world_of : Fun K "world_of" "world_of" s_world_of a_world_of fd_world_of
  g_world_of : mg "world_of" = some (.ref a_world_of)
  b_world_of : Binds K fd_world_of ["tick", "next_id", "luck", "things"] []
  a_are_things : Addr
  fd_are_things : FuncData
  F_are_things : Fun K "are_things" "are_things" s_are_things a_are_things fd_are_things
  g_are_things : mg "are_things" = some (.ref a_are_things)
  b_are_things : Binds K fd_are_things ["value"] []
  a_is_thing : Addr
  fd_is_thing : FuncData
  F_is_thing : Fun K "is_thing" "is_thing" s_is_thing a_is_thing fd_is_thing
  g_is_thing : mg "is_thing" = some (.ref a_is_thing)
  b_is_thing : Binds K fd_is_thing ["value"] []
  a_are_numbers : Addr
  fd_are_numbers : FuncData
  F_are_numbers : Fun K "are_numbers" "are_numbers" s_are_numbers a_are_numbers fd_are_numbers
  g_are_numbers : mg "are_numbers" = some (.ref a_are_numbers)
  b_are_numbers : Binds K fd_are_numbers ["value"] []
  a_are_in_sequence : Addr
  fd_are_in_sequence : FuncData
  F_are_in_sequence : Fun K "are_in_sequence" "are_in_sequence" s_are_in_sequence a_are_in_sequence fd_are_in_sequence
  g_are_in_sequence : mg "are_in_sequence" = some (.ref a_are_in_sequence)
  b_are_in_sequence : Binds K fd_are_in_sequence ["things", "next_id"] []
  a_need_world : Addr
  fd_need_world : FuncData
  F_need_world : Fun K "need_world" "need_world" s_need_world a_need_world fd_need_world
  g_need_world : mg "need_world" = some (.ref a_need_world)
  b_need_world : Binds K fd_need_world ["value"] []
  a_do_ascend : Addr
  fd_do_ascend : FuncData
  F_do_ascend : Fun K "do_ascend" "do_ascend" s_do_ascend a_do_ascend fd_do_ascend
  g_do_ascend : mg "do_ascend" = some (.ref a_do_ascend)
  b_do_ascend : Binds K fd_do_ascend ["members"] []
  a_is_difference : Addr
  fd_is_difference : FuncData
  F_is_difference : Fun K "is_difference" "is_difference" s_is_difference a_is_difference fd_is_difference
  g_is_difference : mg "is_difference" = some (.ref a_is_difference)
  b_is_difference : Binds K fd_is_difference ["value"] []
  a_are_gone : Addr
  fd_are_gone : FuncData
  F_are_gone : Fun K "are_gone" "are_gone" s_are_gone a_are_gone fd_are_gone
  g_are_gone : mg "are_gone" = some (.ref a_are_gone)
  b_are_gone : Binds K fd_are_gone ["value"] []
  a_are_coming : Addr
  fd_are_coming : FuncData
  F_are_coming : Fun K "are_coming" "are_coming" s_are_coming a_are_coming fd_are_coming
  g_are_coming : mg "are_coming" = some (.ref a_are_coming)
  b_are_coming : Binds K fd_are_coming ["value"] []
  a_are_changes : Addr
  fd_are_changes : FuncData
  F_are_changes : Fun K "are_changes" "are_changes" s_are_changes a_are_changes fd_are_changes
  g_are_changes : mg "are_changes" = some (.ref a_are_changes)
  b_are_changes : Binds K fd_are_changes ["value"] []
  a_is_change : Addr
  fd_is_change : FuncData
  F_is_change : Fun K "is_change" "is_change" s_is_change a_is_change fd_is_change
  g_is_change : mg "is_change" = some (.ref a_is_change)
  b_is_change : Binds K fd_is_change ["value"] []
  a_difference : Addr
  fd_difference : FuncData
  F_difference : Fun K "difference" "difference" s_difference a_difference fd_difference
  g_difference : mg "difference" = some (.ref a_difference)
  b_difference : Binds K fd_difference ["one", "other"] []
  a_difference_of : Addr
  fd_difference_of : FuncData
  F_difference_of : Fun K "difference_of" "difference_of" s_difference_of a_difference_of fd_difference_of
  g_difference_of : mg "difference_of" = some (.ref a_difference_of)
  b_difference_of : Binds K fd_difference_of ["one", "other"] []
  a_has_alike : Addr
  fd_has_alike : FuncData
  F_has_alike : Fun K "has_alike" "has_alike" s_has_alike a_has_alike fd_has_alike
  g_has_alike : mg "has_alike" = some (.ref a_has_alike)
  b_has_alike : Binds K fd_has_alike ["world", "told"] []
  a_changes_of : Addr
  fd_changes_of : FuncData
  F_changes_of : Fun K "changes_of" "changes_of" s_changes_of a_changes_of fd_changes_of
  g_changes_of : mg "changes_of" = some (.ref a_changes_of)
  b_changes_of : Binds K fd_changes_of ["former", "told"] []
  a_applied : Addr
  fd_applied : FuncData
  F_applied : Fun K "applied" "applied" s_applied a_applied fd_applied
  g_applied : mg "applied" = some (.ref a_applied)
  b_applied : Binds K fd_applied ["world", "told"] []
  a_world_behind : Addr
  fd_world_behind : FuncData
  F_world_behind : Fun K "world_behind" "world_behind" s_world_behind a_world_behind fd_world_behind
  g_world_behind : mg "world_behind" = some (.ref a_world_behind)
  b_world_behind : Binds K fd_world_behind ["world", "told"] []
  a_ids_that_fail : Addr
  fd_ids_that_fail : FuncData
  F_ids_that_fail : Fun K "ids_that_fail" "ids_that_fail" s_ids_that_fail a_ids_that_fail fd_ids_that_fail
  g_ids_that_fail : mg "ids_that_fail" = some (.ref a_ids_that_fail)
  b_ids_that_fail : Binds K fd_ids_that_fail ["world", "told"] []
  a_things_behind : Addr
  fd_things_behind : FuncData
  F_things_behind : Fun K "things_behind" "things_behind" s_things_behind a_things_behind fd_things_behind
  g_things_behind : mg "things_behind" = some (.ref a_things_behind)
  b_things_behind : Binds K fd_things_behind ["world", "told"] []
  a_size : Addr
  fd_size : FuncData
  F_size : Fun K "size" "size" s_size a_size fd_size
  g_size : mg "size" = some (.ref a_size)
  b_size : Binds K fd_size ["told"] []
  a_Ring___init__ : Addr
  fd_Ring___init__ : FuncData
  F_Ring___init__ : Fun K "__init__" "Ring.__init__" s_Ring___init__ a_Ring___init__ fd_Ring___init__
  m_Ring___init__ : Meth K C_Ring "__init__" a_Ring___init__
  ds_Ring___init__ : List Value
  vd_Ring___init__ : Vals [V.int (2)] ds_Ring___init__
  b_Ring___init__ : Binds K fd_Ring___init__ ["self", "world", "spacing"] ds_Ring___init__
  kb_Ring___init__ : KBn K fd_Ring___init__ ["self", "world", "spacing"] 2 ["spacing"] (fun us ws => us ++ ws) (fun vs zs => vs ++ zs)
  a_Ring__fill : Addr
  fd_Ring__fill : FuncData
  F_Ring__fill : Fun K "_fill" "Ring._fill" s_Ring__fill a_Ring__fill fd_Ring__fill
  m_Ring__fill : Meth K C_Ring "_fill" a_Ring__fill
  b_Ring__fill : Binds K fd_Ring__fill ["self", "first", "spacing", "kept"] []
  a_Ring__is_whole : Addr
  fd_Ring__is_whole : FuncData
  F_Ring__is_whole : Fun K "_is_whole" "Ring._is_whole" s_Ring__is_whole a_Ring__is_whole fd_Ring__is_whole
  m_Ring__is_whole : Meth K C_Ring "_is_whole" a_Ring__is_whole
  b_Ring__is_whole : Binds K fd_Ring__is_whole ["self", "tick"] []
  a_Ring_put : Addr
  fd_Ring_put : FuncData
  F_Ring_put : Fun K "put" "Ring.put" s_Ring_put a_Ring_put fd_Ring_put
  m_Ring_put : Meth K C_Ring "put" a_Ring_put
  b_Ring_put : Binds K fd_Ring_put ["self", "world"] []
  a_Ring_world : Addr
  fd_Ring_world : FuncData
  F_Ring_world : Fun K "world" "Ring.world" s_Ring_world a_Ring_world fd_Ring_world
  m_Ring_world : Meth K C_Ring "world" a_Ring_world
  b_Ring_world : Binds K fd_Ring_world ["self", "tick"] []
  a_Ring_work : Addr
  fd_Ring_work : FuncData
  F_Ring_work : Fun K "work" "Ring.work" s_Ring_work a_Ring_work fd_Ring_work
  m_Ring_work : Meth K C_Ring "work" a_Ring_work
  b_Ring_work : Binds K fd_Ring_work ["self", "tick"] []
  a_Ring_back_to : Addr
  fd_Ring_back_to : FuncData
  F_Ring_back_to : Fun K "back_to" "Ring.back_to" s_Ring_back_to a_Ring_back_to fd_Ring_back_to
  m_Ring_back_to : Meth K C_Ring "back_to" a_Ring_back_to
  b_Ring_back_to : Binds K fd_Ring_back_to ["self", "tick"] []
  a_Ring_from_tick : Addr
  fd_Ring_from_tick : FuncData
  F_Ring_from_tick : Fun K "from_tick" "Ring.from_tick" s_Ring_from_tick a_Ring_from_tick fd_Ring_from_tick
  m_Ring_from_tick : Meth K C_Ring "from_tick" a_Ring_from_tick
  b_Ring_from_tick : Binds K fd_Ring_from_tick ["self", "tick"] []
  a_Ring__need_tick : Addr
  fd_Ring__need_tick : FuncData
  F_Ring__need_tick : Fun K "_need_tick" "Ring._need_tick" s_Ring__need_tick a_Ring__need_tick fd_Ring__need_tick
  m_Ring__need_tick : Meth K C_Ring "_need_tick" a_Ring__need_tick
  b_Ring__need_tick : Binds K fd_Ring__need_tick ["self", "tick"] []
  a_Ring___contains__ : Addr
  fd_Ring___contains__ : FuncData
  F_Ring___contains__ : Fun K "__contains__" "Ring.__contains__" s_Ring___contains__ a_Ring___contains__ fd_Ring___contains__
  m_Ring___contains__ : Meth K C_Ring "__contains__" a_Ring___contains__
  b_Ring___contains__ : Binds K fd_Ring___contains__ ["self", "value"] []
  a_Ring___len__ : Addr
  fd_Ring___len__ : FuncData
  F_Ring___len__ : Fun K "__len__" "Ring.__len__" s_Ring___len__ a_Ring___len__ fd_Ring___len__
  m_Ring___len__ : Meth K C_Ring "__len__" a_Ring___len__
  b_Ring___len__ : Binds K fd_Ring___len__ ["self"] []
  a_Ring___eq__ : Addr
  fd_Ring___eq__ : FuncData
  F_Ring___eq__ : Fun K "__eq__" "Ring.__eq__" s_Ring___eq__ a_Ring___eq__ fd_Ring___eq__
  m_Ring___eq__ : Meth K C_Ring "__eq__" a_Ring___eq__
  b_Ring___eq__ : Binds K fd_Ring___eq__ ["self", "other"] []
  a_parts_of : Addr
  fd_parts_of : FuncData
  F_parts_of : Fun K "parts_of" "parts_of" s_parts_of a_parts_of fd_parts_of
  g_parts_of : mg "parts_of" = some (.ref a_parts_of)
  b_parts_of : Binds K fd_parts_of ["ring"] []
  a_ring_of : Addr
  fd_ring_of : FuncData
  F_ring_of : Fun K "ring_of" "ring_of" s_ring_of a_ring_of fd_ring_of
  g_ring_of : mg "ring_of" = some (.ref a_ring_of)
  b_ring_of : Binds K fd_ring_of ["first", "spacing", "kept"] []
  a_law_dice : Addr
  fd_law_dice : FuncData
  F_law_dice : Fun K "_law_dice" "_law_dice" s_law_dice a_law_dice fd_law_dice
  g_law_dice : mg "_law_dice" = some (.ref a_law_dice)
  b_law_dice : Binds K fd_law_dice ["script", "spot"] []
  a_law_roll : Addr
  fd_law_roll : FuncData
  F_law_roll : Fun K "_law_roll" "_law_roll" s_law_roll a_law_roll fd_law_roll
  g_law_roll : mg "_law_roll" = some (.ref a_law_roll)
  b_law_roll : Binds K fd_law_roll ["dice", "total"] []
  a_law_pick : Addr
  fd_law_pick : FuncData
  F_law_pick : Fun K "_law_pick" "_law_pick" s_law_pick a_law_pick fd_law_pick
  g_law_pick : mg "_law_pick" = some (.ref a_law_pick)
  b_law_pick : Binds K fd_law_pick ["dice", "items"] []
  a_law_met : Addr
  fd_law_met : FuncData
  F_law_met : Fun K "_law_met" "_law_met" s_law_met a_law_met fd_law_met
  g_law_met : mg "_law_met" = some (.ref a_law_met)
  b_law_met : Binds K fd_law_met ["call"] []
  a_law_no_world : Addr
  fd_law_no_world : FuncData
  F_law_no_world : Fun K "_law_no_world" "_law_no_world" s_law_no_world a_law_no_world fd_law_no_world
  g_law_no_world : mg "_law_no_world" = some (.ref a_law_no_world)
  b_law_no_world : Binds K fd_law_no_world ["dice"] []
  a_law_parts_right : Addr
  fd_law_parts_right : FuncData
  F_law_parts_right : Fun K "_law_parts_right" "_law_parts_right" s_law_parts_right a_law_parts_right fd_law_parts_right
  g_law_parts_right : mg "_law_parts_right" = some (.ref a_law_parts_right)
  b_law_parts_right : Binds K fd_law_parts_right ["dice", "world"] []
  a_law_ring_right : Addr
  fd_law_ring_right : FuncData
  F_law_ring_right : Fun K "_law_ring_right" "_law_ring_right" s_law_ring_right a_law_ring_right fd_law_ring_right
  g_law_ring_right : mg "_law_ring_right" = some (.ref a_law_ring_right)
  b_law_ring_right : Binds K fd_law_ring_right ["dice", "world"] []
  mk_World : Mk K C_World a_World___init__
  mk_Ring : Mk K C_Ring a_Ring___init__
  z_abs : mg "abs" = none
  z_max : mg "max" = none
  z_min : mg "min" = none
  z_int : mg "int" = none
  z_len : mg "len" = none
  z_range : mg "range" = none
  z_repr : mg "repr" = none
  z_isinstance : mg "isinstance" = none
  z_sorted : mg "sorted" = none
  z_str : mg "str" = none
  z_bool : mg "bool" = none
  z_sum : mg "sum" = none
  z_tuple : mg "tuple" = none
  z_list : mg "list" = none
  z_set : mg "set" = none
  z_all : mg "all" = none
  z_enumerate : mg "enumerate" = none
  z_zip : mg "zip" = none
  z_iter : mg "iter" = none
  t_MODULUS : Tok
  g_MODULUS : mg "MODULUS" = some (.int 999999937 t_MODULUS)
  t_MOST : Tok
  g_MOST : mg "MOST" = some (.int 1000000000 t_MOST)
  t_MAX_THINGS : Tok
  g_MAX_THINGS : mg "MAX_THINGS" = some (.int 12 t_MAX_THINGS)
  t_MAX_FIELDS : Tok
  g_MAX_FIELDS : mg "MAX_FIELDS" = some (.int 8 t_MAX_FIELDS)
  ha_World : PySem.W.findIn K (.ref C_World) "__class__" = some (some (.builtin "object.__class__"))
  hn_World : PySem.W.specialIn K (.builtin "object.__class__") "__get__" = some (some (.builtin "getset_descriptor.__get__"))
  ht_World : PySem.W.takesIn K (.builtin "object.__class__") = some true
  hm_World : PySem.W.mroIn K C_World (.type "object") = some true
  hc_World : (PySem.W.clsIn K C_World).isSome = true
  hy_World : PySem.W.typeIn K (.ref C_World) = some (.type "type")
  hs_World_tuple : PySem.W.subIn K (.type "tuple") (.ref C_World) = some false
  hs_World_NoneType : PySem.W.subIn K (.type "NoneType") (.ref C_World) = some false
  hs_World_str : PySem.W.subIn K (.type "str") (.ref C_World) = some false
  ne_World : PySem.W.findIn K (.ref C_World) "__ne__" = some (some (.builtin "object.__ne__"))
  ob_World : PySem.W.subIn K (.ref C_World) (.type "object") = some true
  hs_World_list : PySem.W.subIn K (.type "list") (.ref C_World) = some false
  hs_World_int : PySem.W.subIn K (.type "int") (.ref C_World) = some false
  hs_World_dict : PySem.W.subIn K (.type "dict") (.ref C_World) = some false
  hs_World_bool : PySem.W.subIn K (.type "bool") (.ref C_World) = some false
  t_LEAST_SIZE : Tok
  g_LEAST_SIZE : mg "LEAST_SIZE" = some (.int 3 t_LEAST_SIZE)
  t_MOST_SPACING : Tok
  g_MOST_SPACING : mg "MOST_SPACING" = some (.int 6 t_MOST_SPACING)
  C_WE : Addr
  g_InvalidWorld : mg "InvalidWorld" = some (.ref C_WE)
  x_WE : PySem.W.excIn K C_WE [.type "ValueError", .type "Exception", .type "BaseException", .type "object"] "ValueError.__new__" = true
  k_WE : PySem.W.keepIn K (.ref C_WE) = true
  e_WE : PySem.W.subIn K (.ref C_WE) (.type "BaseException") = some true
  y_WE : PySem.W.typeIn K (.ref C_WE) = some (.type "type")
  C_OE : Addr
  g_InvalidOperation : mg "InvalidOperation" = some (.ref C_OE)
  x_OE : PySem.W.excIn K C_OE [.type "ValueError", .type "Exception", .type "BaseException", .type "object"] "ValueError.__new__" = true
  k_OE : PySem.W.keepIn K (.ref C_OE) = true
  e_OE : PySem.W.subIn K (.ref C_OE) (.type "BaseException") = some true
  y_OE : PySem.W.typeIn K (.ref C_OE) = some (.type "type")
  C_IN : Addr
  g_InvalidNumber : mg "InvalidNumber" = some (.ref C_IN)
  o_IN : OxG K C_IN "IndexError.__new__" [.type "IndexError", .type "LookupError", .type "Exception", .type "BaseException", .type "object"]
  a_InvalidNumber___init__ : Addr
  fd_InvalidNumber___init__ : FuncData
  F_InvalidNumber___init__ : Fun K "__init__" "InvalidNumber.__init__" s_InvalidNumber___init__ a_InvalidNumber___init__ fd_InvalidNumber___init__
  b_InvalidNumber___init__ : Binds K fd_InvalidNumber___init__ ["self", "given"] []
  i_IN : PySem.W.findIn K (.ref C_IN) "__init__" = some (some (.ref a_InvalidNumber___init__))
  t_IN : PySem.W.typeIn K (.ref a_InvalidNumber___init__) = some (.type "function")
  f_IN : PySem.W.findIn K (.ref C_IN) "given" = some none
  x_IN : XfC K C_IN
  C_UN : Addr
  g_UnknownName : mg "UnknownName" = some (.ref C_UN)
  o_UN : OxG K C_UN "LookupError.__new__" [.type "KeyError", .type "LookupError", .type "Exception", .type "BaseException", .type "object"]
  a_UnknownName___init__ : Addr
  fd_UnknownName___init__ : FuncData
  F_UnknownName___init__ : Fun K "__init__" "UnknownName.__init__" s_UnknownName___init__ a_UnknownName___init__ fd_UnknownName___init__
  b_UnknownName___init__ : Binds K fd_UnknownName___init__ ["self", "wanted"] []
  i_UN : PySem.W.findIn K (.ref C_UN) "__init__" = some (some (.ref a_UnknownName___init__))
  t_UN : PySem.W.typeIn K (.ref a_UnknownName___init__) = some (.type "function")
  f_UN : PySem.W.findIn K (.ref C_UN) "wanted" = some none
  x_UN : XfC K C_UN
  C_RE : Addr
  g_Refused : mg "Refused" = some (.ref C_RE)
  o_RE : OxG K C_RE "ArithmeticError.__new__" [.type "ArithmeticError", .type "Exception", .type "BaseException", .type "object"]
  a_Refused___init__ : Addr
  fd_Refused___init__ : FuncData
  F_Refused___init__ : Fun K "__init__" "Refused.__init__" s_Refused___init__ a_Refused___init__ fd_Refused___init__
  b_Refused___init__ : Binds K fd_Refused___init__ ["self", "reason"] []
  i_RE : PySem.W.findIn K (.ref C_RE) "__init__" = some (some (.ref a_Refused___init__))
  t_RE : PySem.W.typeIn K (.ref a_Refused___init__) = some (.type "function")
  f_RE : PySem.W.findIn K (.ref C_RE) "reason" = some none
  x_RE : XfC K C_RE
  m_WE_WE : PySem.W.exmOne K (.ref C_WE) (.ref C_WE) = some true
  m_OE_WE : PySem.W.exmOne K (.ref C_OE) (.ref C_WE) = some false
  m_OE_OE : PySem.W.exmOne K (.ref C_OE) (.ref C_OE) = some true
  m_IN_WE : PySem.W.exmOne K (.ref C_IN) (.ref C_WE) = some false
  m_IN_OE : PySem.W.exmOne K (.ref C_IN) (.ref C_OE) = some false
  m_IN_IN : PySem.W.exmOne K (.ref C_IN) (.ref C_IN) = some true
  m_RE_WE : PySem.W.exmOne K (.ref C_RE) (.ref C_WE) = some false
  m_RE_OE : PySem.W.exmOne K (.ref C_RE) (.ref C_OE) = some false
  m_RE_IN : PySem.W.exmOne K (.ref C_RE) (.ref C_IN) = some false
  m_RE_RE : PySem.W.exmOne K (.ref C_RE) (.ref C_RE) = some true
end Kz
set_option Elab.async false
set_option linter.all false
set_option maxRecDepth 100000
set_option maxHeartbeats 4000000
set_option exponentiation.threshold 500
namespace Kz
open PySem PySem.Spec PyProof.Rows L2 Evl Vr
local macro_rules | `(tactic| walk_at "sc") => `(tactic| first | (with_reducible assumption) | (with_reducible exact sc_mul (by omega)) | (with_reducible exact sc_mulr (by omega)) | (with_reducible exact sc_div (by omega) (by decide)) | (show (0 : Int) < _; omega) | (show _ ≠ (0 : Int); omega) | (with_reducible rfl) | decide)
local macro_rules | `(tactic| walk_at "sq") => `(tactic| first | assumption | exact sq_of (by assumption) | exact st_of (by assumption))
local macro_rules | `(tactic| walk_at "pl") => `(tactic| first | assumption | exact pl_int | exact pl_bl | exact pl_str | exact pl_non | exact pl_lst (by assumption) | exact pl_tup (by assumption) | exact pl_dK (by assumption))
local macro_rules | `(tactic| walk_at "rv") => `(tactic| first
  | with_reducible exact rv_I0
  | with_reducible exact ru_neg
  | ((with_reducible apply rv_I); walk_at "sc")
  | ((with_reducible apply rv_ixL); walk_at "sq"; first | rfl | assumption)
  | ((with_reducible apply rv_ixT); walk_at "sq"; first | rfl | assumption)
  | ((with_reducible apply rv_eq); rfl) | ((with_reducible apply rv_ne); rfl))
local macro_rules | `(tactic| walk_at "rc") => `(tactic| first
  | with_reducible exact rc_I1 | with_reducible exact rc_B1 | with_reducible exact rc_I2 | ((with_reducible apply rc_repr); walk_at "sc") | ((with_reducible apply rc_lenL); walk_at "sq")
  | ((with_reducible apply rc_isiInt); walk_at "pl") | ((with_reducible apply rc_isiBool); walk_at "pl"))
local macro_rules | `(tactic| walk_at "ea") => `(tactic| first
  | with_reducible exact ea_nil | ((with_reducible apply ea_cons); walk_at "ev"; walk_at "ea"))
local macro_rules | `(tactic| walk_at "pow") => `(tactic| first
  | with_reducible exact ev_pow (a := 10) (b := 9) (c := 1000000000) (by decide +kernel) (by decide +kernel)
  | with_reducible exact ev_pow (a := 10) (b := 10) (c := 10000000000) (by decide +kernel) (by decide +kernel)
  | with_reducible exact ev_pow (a := 10) (b := 12) (c := 1000000000000) (by decide +kernel) (by decide +kernel)
  | with_reducible exact ev_pow (a := 10) (b := 17) (c := 100000000000000000) (by decide +kernel) (by decide +kernel)
  | with_reducible exact ev_pow (a := 10) (b := 20) (c := 100000000000000000000) (by decide +kernel) (by decide +kernel)
  | with_reducible exact ev_pow (a := 10) (b := 29) (c := 100000000000000000000000000000) (by decide +kernel) (by decide +kernel)
  | with_reducible exact ev_pow (a := 10) (b := 30) (c := 1000000000000000000000000000000) (by decide +kernel) (by decide +kernel)
  | with_reducible exact ev_pow (a := 10) (b := 40) (c := 10000000000000000000000000000000000000000) (by decide +kernel) (by decide +kernel)
  | with_reducible exact ev_pow (a := 10) (b := 57) (c := 1000000000000000000000000000000000000000000000000000000000) (by decide +kernel) (by decide +kernel)
  | with_reducible exact ev_pow (a := 10) (b := 58) (c := 10000000000000000000000000000000000000000000000000000000000) (by decide +kernel) (by decide +kernel)
  | with_reducible exact ev_pow (a := 10) (b := 59) (c := 100000000000000000000000000000000000000000000000000000000000) (by decide +kernel) (by decide +kernel)
  | with_reducible exact ev_pow (a := 10) (b := 60) (c := 1000000000000000000000000000000000000000000000000000000000000) (by decide +kernel) (by decide +kernel))
local macro_rules | `(tactic| walk_at "call") => `(tactic| (intro H9 e9; first | exact ⟨_, rfl, rfl⟩ | exact ⟨_, _, rfl, rfl⟩ | exact ⟨_, _, _, rfl, rfl⟩ | exact ⟨_, rfl, by walk_at "pl", rfl⟩ | (refine ⟨_, _, _, rfl, ?_, rfl⟩; first | exact Plain.ex e9 (by assumption) | walk_at "pl") | (refine ⟨_, rfl, ?_, rfl⟩; first | exact Plain.ex e9 (by assumption) | walk_at "pl")))
local macro_rules | `(tactic| walk_at "ev") => `(tactic| first
  | with_reducible exact ev_c
  | exact ev_var rfl
  | walk_at "pow"
  | ((with_reducible apply ev_op); walk_at "ev"; walk_at "ev"; walk_at "rv")
  | ((with_reducible apply ev_un); walk_at "ev"; walk_at "rv")
  | ((with_reducible apply ev_cb); walk_at "ea"; walk_at "rc")
  | ((with_reducible apply ev_callP); walk_at "ea"; walk_at "call")
  | ((with_reducible apply ev_chain); walk_at "ev"; walk_at "ev"; walk_at "rv"; walk_at "ev"; walk_at "rv")
  | ((with_reducible apply ev_andV); walk_at "ev"; intro _; walk_at "ev")
  | ((with_reducible apply ev_orV); walk_at "ev"; intro _; walk_at "ev")
  | ((with_reducible apply ev_ite); walk_at "et"; intro _; walk_at "ev"; intro _; walk_at "ev")
  | ((with_reducible apply ev_notV); walk_at "ev"))
local macro_rules | `(tactic| walk_at "et") => `(tactic| first
  | ((with_reducible apply et_test); walk_at "ev")
  | ((with_reducible apply et_B); walk_at "ev")
  | ((with_reducible apply et_and); walk_at "et"; intro _; walk_at "et")
  | ((with_reducible apply et_or); walk_at "et"; intro _; walk_at "et")
  | ((with_reducible apply et_not); walk_at "et"))
section
variable {P : Program} {w : World} {K : PySem.W.Frag} {mg : Str → Option Value} {base : Heap}
def kIsInteger (K : PySem.W.Frag) (vs : List V) (H : Hp) (z : V) : Prop := ∃ x, vs = [x] ∧ Plain K H x ∧ z = .bl (isIntV x)
theorem ok_is_integer (T : Txt K mg w) : FnOk P w K mg base CX0 1 T.a_is_integer T.fd_is_integer ["value"] (Pure (kIsInteger K)) := by
  refine T.F_is_integer.ok sc_is_integer (fun vs H Q E h => ?_) (fun cdv A outer s H vs Q E hr h => ?_)
  · obtain ⟨_, ⟨a, rfl, _⟩, _⟩ := h; rfl
  · obtain ⟨_, ⟨x, rfl, hp, rfl⟩, q⟩ := h
    refine ⟨_, (pss_one (ps_ret (pe_and (pe_callB call_isi (by rfl) T.z_isinstance (by decide +kernel) (pa_cons (pv 0) (pa_cons (pe_bltn (v := .ty "int") (by rfl) T.z_int (by decide +kernel) rfl) pa_nil))) (pe_and (pe_not (pe_callB call_isi (by rfl) T.z_isinstance (by decide +kernel) (pa_cons (pv 0) (pa_cons (pe_bltn (v := .ty "bool") (by rfl) T.z_bool (by decide +kernel) rfl) pa_nil)))) (pe_one (pe_chain op_lt op_lt (pe_un un_neg (pe_op op_pow pe_int pe_int)) (pv 0) (pe_op op_pow pe_int pe_int))))))), ?_⟩
    refine s_ret (v := .bl (isIntV x)) ?_ q
    cases x with
    | int i =>
      apply ev_is
      walk_at "ev"
      show V.bl (true && (!false && (decide (-1000000000000000000000000000000000000000000000000000000000000 < i) && decide (i < 1000000000000000000000000000000000000000000000000000000000000)))) = _
      rfl
    | bl b =>
      refine ev_andV (a := true) (b := false) (by apply ev_is; walk_at "ev"; rfl) fun _ => ?_
      exact ev_andV (a := false) (b := false) (by apply ev_is; walk_at "ev"; rfl) (fun h => by cases h)
    | non => exact ev_andV (a := false) (b := false) (by apply ev_is; walk_at "ev"; rfl) (fun h => by cases h)
    | str _ => exact ev_andV (a := false) (b := false) (by apply ev_is; walk_at "ev"; rfl) (fun h => by cases h)
    | byt _ => exact ev_andV (a := false) (b := false) (by apply ev_is; walk_at "ev"; rfl) (fun h => by cases h)
    | flt _ => exact ev_andV (a := false) (b := false) (by apply ev_is; walk_at "ev"; rfl) (fun h => by cases h)
    | ref _ => exact ev_andV (a := false) (b := false) (by apply ev_is; walk_at "ev"; rfl) (fun h => by cases h)
    | ty _ => exact ev_andV (a := false) (b := false) (by apply ev_is; walk_at "ev"; rfl) (fun h => by cases h)
def kIsWithin (K : PySem.W.Frag) (vs : List V) (H : Hp) (z : V) : Prop := ∃ x lo hi, vs = [x, .int lo, .int hi] ∧ Plain K H x ∧ z = .bl (isWithin lo hi x)
theorem ok_is_within (T : Txt K mg w) : FnOk P w K mg base CX0 2 T.a_is_within T.fd_is_within ["value", "low", "high"] (Pure (kIsWithin K)) := by
  have G_is_integer := ok_is_integer (P := P) (w := w) (base := base) T
  refine T.F_is_within.ok sc_is_within (fun vs H Q E h => ?_) (fun cdv A outer s H vs Q E hr h => ?_)
  · obtain ⟨_, ⟨a, _, _, rfl, _⟩, _⟩ := h; rfl
  · obtain ⟨_, ⟨x, lo, hi, rfl, hp, rfl⟩, q⟩ := h
    refine ⟨_, (pss_one (ps_ret (pe_and (pe_call G_is_integer (hr.mono (by decide)) (by rfl) T.g_is_integer T.F_is_integer.kp T.b_is_integer .nil pass0 (pa_cons (pv 0) pa_nil)) (pe_one (pe_chain op_le op_le (pv 1) (pv 0) (pv 2)))))), ?_⟩
    refine s_ret (v := .bl (isWithin lo hi x)) ?_ q
    cases x with
    | int i => apply ev_is; walk_at "ev"; rfl
    | bl b => exact ev_andV (a := false) (b := false) (by apply ev_is; walk_at "ev"; rfl) (fun h => by cases h)
    | non => exact ev_andV (a := false) (b := false) (by apply ev_is; walk_at "ev"; rfl) (fun h => by cases h)
    | str _ => exact ev_andV (a := false) (b := false) (by apply ev_is; walk_at "ev"; rfl) (fun h => by cases h)
    | byt _ => exact ev_andV (a := false) (b := false) (by apply ev_is; walk_at "ev"; rfl) (fun h => by cases h)
    | flt _ => exact ev_andV (a := false) (b := false) (by apply ev_is; walk_at "ev"; rfl) (fun h => by cases h)
    | ref _ => exact ev_andV (a := false) (b := false) (by apply ev_is; walk_at "ev"; rfl) (fun h => by cases h)
    | ty _ => exact ev_andV (a := false) (b := false) (by apply ev_is; walk_at "ev"; rfl) (fun h => by cases h)
def kRoll (vs : List V) (_ : Hp) (p : Addr) (R : V → Prop) : Prop := ∃ t : Int, vs = [.ref p, .int t] ∧ 0 < t ∧ t.natAbs < 2 ^ 400 ∧ R = fun v => ∃ r : Int, v = .int r ∧ 0 ≤ r ∧ r < t
theorem ok_roll (T : Txt K mg w) : FnOk P w K mg base CX0 1 T.a_law_roll T.fd_law_roll ["dice", "total"] (Draws kRoll) := by
  refine T.F_law_roll.ok sc_law_roll (fun vs H Q E h => ?_) (fun cdv A outer s H vs Q E hr h => ?_)
  · obtain ⟨p, _, ⟨t, rfl, _⟩, _⟩ := h; rfl
  · obtain ⟨p, _, ⟨t, rfl, h0, h1, rfl⟩, ⟨a, b, c, hp⟩, q0⟩ := h
    have q : ∀ (r : Int) H', 0 ≤ r → r < t → Exd p H H' → Dice p H' → Q (.int r) H' := fun r H' a b => q0 _ H' ⟨r, rfl, a, b⟩
    refine ⟨_, (pss_cons (ps_if (pt_cmpR op_gt (pe_ix ix_list (pv 0) pe_int (fun _ _ => rfl)) pe_int (nomark _)) (pss_cons (ps_set (i := 2) sc_law_roll.nd rfl (.inl rfl) (pe_op op_mod (pe_callTy c_int (by rfl) T.z_int (by decide +kernel) (pa_cons (pe_ix ix_list (pv 0) pe_int (fun _ _ => rfl)) pa_nil)) (pv 1)))
  (pss_cons (ps_asg (pe_op op_fdivW (pe_ix ix_list (pv 0) pe_int (fun _ _ => rfl)) (pv 1)) (pg_sub (pv 0) pe_int set_list))
  (pss_one (ps_ret (pv 2))))) pss_nil)
  (pss_cons (ps_asg (pe_op op_add (pe_ix ix_list (pv 0) pe_int (fun _ _ => rfl)) pe_int) (pg_sub (pv 0) pe_int set_list))
  (pss_cons (ps_set (i := 3) sc_law_roll.nd rfl (.inl rfl) (pe_op op_mod (pe_callTy c_int (by rfl) T.z_int (by decide +kernel) (pa_cons (pe_op op_add (pe_ix ix_list (pv 0) pe_int (fun _ _ => rfl)) (pe_op op_mul pe_int (pe_ix ix_list (pv 0) pe_int (fun _ _ => rfl)))) pa_nil)) pe_int))
  (pss_cons (ps_set (i := 4) sc_law_roll.nd rfl (.inl rfl) (pe_op op_add (pe_op op_mul (pe_op op_mod (pe_callTy c_int (by rfl) T.z_int (by decide +kernel) (pa_cons (pe_op op_add (pe_op op_mul (pv 3) (pv 3)) (pe_op op_mul pe_int (pe_ix ix_list (pv 0) pe_int (fun _ _ => rfl)))) pa_nil)) pe_int) pe_int) (pv 3)))
  (pss_one (ps_ret (pe_op op_mod (pe_callTy c_int (by rfl) T.z_int (by decide +kernel) (pa_cons (pe_op op_fdivW (pv 4) pe_int) pa_nil)) (pv 1)))))))), ?_⟩
    have cd : CDivW a t := wide_div h0 h1 (by decide) (by decide)
    apply q_when
    case h => walk_at "et"
    · intro hb H1 e1
      have hp := e1 _ _ hp
      apply q_asg
      case h => walk_at "ev"
      intro H2 e2
      have hp := e2 _ _ hp
      refine q_setL (j := 0) hp (v := .int (a / t)) (by walk_at "ev") (ev_var rfl) ev_c (by show 0 < 3; decide) fun H3 e3 => ?_
      refine ⟨_, rfl, q _ _ (Int.emod_nonneg _ (by omega)) (Int.emod_lt_of_pos _ h0) ?_ ⟨_, _, _, upd_same⟩⟩
      exact (Exd.of (e1.trans (e2.trans e3))).trans Exd.upd
    · intro hb H1 e1
      have hp := e1 _ _ hp
      refine q_setL (j := 2) hp (v := .int (c + 1)) (by walk_at "ev") (ev_var rfl) ev_c (by show 2 < 3; decide) fun H3 e3 => ?_
      have hq : (upd H3 p (.lst ([.int a, .int b, .int c].set 2 (.int (c + 1))))) p = some (.lst [.int a, .int b, .int (c + 1)]) := upd_same
      have ex := (Exd.of (e1.trans e3)).trans (Exd.upd (p := p) (o := .lst ([.int a, .int b, .int c].set 2 (.int (c + 1)))))
      generalize upd H3 p (.lst ([.int a, .int b, .int c].set 2 (.int (c + 1)))) = H4 at hq ex
      apply q_asg
      case h => walk_at "ev"
      intro H5 e5
      have hq := e5 _ _ hq
      generalize ho : (b + 67867979 * (c + 1)) % 2305843009213693723 = one
      have ho1 : 0 ≤ one := by rw [← ho]; exact Int.emod_nonneg _ (by omega)
      have ho2 : one < 2305843009213693723 := by rw [← ho]; exact Int.emod_lt_of_pos _ (by omega)
      have cm : CMul one one := .inl (by constructor <;> omega)
      apply q_asg
      case h => walk_at "ev"
      intro H6 e6
      have hq := e6 _ _ hq
      apply s_ret
      case h => walk_at "ev"
      intro H7 e7
      exact q _ _ (Int.emod_nonneg _ (by omega)) (Int.emod_lt_of_pos _ h0) (ex.trans (Exd.of (e5.trans (e6.trans e7)))) ⟨_, _, _, e7 _ _ hq⟩
def spDice (K : PySem.W.Frag) : Sp := fun vs H Q _ => ∃ (a : Addr) (ns : List Int) (sp : Nat), vs = [.ref a, .int sp] ∧ SqL K H a (ns.map V.int) ∧ ∀ p H', H p = none → Ex H H' → Dice p H' → Q (.ref p) H'
theorem ok_dice (T : Txt K mg w) : FnOk P w K mg base CX0 1 T.a_law_dice T.fd_law_dice ["script", "spot"] (spDice K) := by
  refine T.F_law_dice.ok sc_law_dice (fun vs H Q E h => ?_) (fun cdv A outer s H vs Q E hr h => ?_)
  · obtain ⟨_, _, _, rfl, _⟩ := h; rfl
  · obtain ⟨a, ns, sp, rfl, hS, q⟩ := h
    refine ⟨_, (pss_cons (ps_set (i := 2) sc_law_dice.nd rfl (.inl rfl) (pe_ifExp (pt_cmpR op_lt (pv 1) (pe_callB c_len (by rfl) T.z_len PySem.boot_len (pa_cons (pv 0) pa_nil)) (nomark _)) (pe_callTy c_int (by rfl) T.z_int (by decide +kernel) (pa_cons (pe_ix ix_list (pv 0) (pv 1) (fun _ _ => rfl)) pa_nil)) (pe_op op_add (pe_op op_mul pe_int (pv 1)) pe_int)))
  (pss_cons (ps_set (i := 3) sc_law_dice.nd rfl (.inl rfl) (pe_op op_mod (pe_callB (c_max rfl) (by rfl) T.z_max (by decide +kernel) (pa_cons pe_int (pa_cons (pe_op op_sub (pe_callB c_abs (by rfl) T.z_abs (by decide +kernel) (pa_cons (pv 2) pa_nil)) (pe_op op_pow pe_int pe_int)) pa_nil))) (pe_op op_mulW (pe_op op_pow pe_int pe_int) (pe_op op_pow pe_int pe_int))))
  (pss_one (ps_ret (pe_lst (pa_cons (pv 3) (pa_cons (pe_op op_add (pe_op op_add (pe_op op_add (pe_op op_mul (pe_op op_mod (pe_callB c_abs (by rfl) T.z_abs (by decide +kernel) (pa_cons (pv 2) pa_nil)) pe_int) pe_int) (pe_op op_mul pe_int (pv 1))) (pe_op op_mul pe_int (pe_callTy c_intB (by rfl) T.z_int (by decide +kernel) (pa_cons (pe_cmpR op_lt (pv 2) pe_int (nomark _)) pa_nil)))) pe_int) (pa_cons pe_int pa_nil)))))))), ?_⟩
    refine q_asgI ?_ fun cell H1 e1 => ?_
    · by_cases hs : sp < ns.length
      · have hx : (ns.map V.int)[sp]? = some (.int ns[sp]) := by rw [List.getElem?_map, List.getElem?_eq_getElem hs]; rfl
        have hi : atI (ns.map V.int) (sp : Int) = some (.int ns[sp]) := atI_nat hx
        refine ⟨ns[sp], ev_if (b := true) ?_ (fun _ => by walk_at "ev") (fun h => by cases h)⟩
        apply et_is
        walk_at "et"
        rw [List.length_map]
        exact decide_eq_true (by omega)
      · refine ⟨_, ev_if (b := false) ?_ (fun h => by cases h) (fun _ => by walk_at "ev")⟩
        apply et_is
        walk_at "et"
        rw [List.length_map]
        exact decide_eq_false (by omega)
    refine q_asgI ⟨_, ev_op (y := .int 1000000000000000000000000000000000000000000000000000000000000000000000000000000000000000000000000000000000000000000000) (by walk_at "ev") (ev_is (ev_op (by walk_at "pow") (by walk_at "pow") (rv_I (by unfold CMulW; decide +kernel))) (by decide +kernel)) (rv_I (by decide))⟩ fun left H2 e2 => ?_
    have hm : ∀ n : Int, CMul (n % 1152921504606846817) 83 := fun n => .inr (by omega)
    have hm2 := hm (if cell < 0 then -cell else cell)
    refine s_retL (el_lst (by walk_at "ea") (by show 3 ≤ 100000; decide)) fun p H3 hp e3 h3 => ?_
    exact q p H3 (fresh_back (e1.trans e2) hp) ((e1.trans e2).trans e3) ⟨_, _, _, h3⟩
def kPick (K : PySem.W.Frag) (vs : List V) (H : Hp) (p : Addr) (R : V → Prop) : Prop := ∃ (a : Addr) (xs : List V), vs = [.ref p, .ref a] ∧ a ≠ p ∧ SqL K H a xs ∧ 0 < xs.length ∧ xs.length < 1000000 ∧ R = fun v => v ∈ xs
theorem ok_pick (T : Txt K mg w) : FnOk P w K mg base CX0 2 T.a_law_pick T.fd_law_pick ["dice", "items"] (Draws (kPick K)) := by
  have G_law_roll := ok_roll (P := P) (w := w) (base := base) T
  refine T.F_law_pick.ok sc_law_pick (fun vs H Q E h => ?_) (fun cdv A outer s H vs Q E hr h => ?_)
  · obtain ⟨p, _, ⟨_, _, rfl, _⟩, _⟩ := h; rfl
  · obtain ⟨p, _, ⟨a, xs, rfl, hne, hS, hl, hl2, rfl⟩, hd, q⟩ := h
    refine ⟨_, (pss_one (ps_ret (pe_ix ix_list (pv 1) (pe_call G_law_roll (hr.mono (by decide)) (by rfl) T.g_law_roll T.F_law_roll.kp T.b_law_roll .nil pass0 (pa_cons (pv 0) (pa_cons (pe_callB c_len (by rfl) T.z_len PySem.boot_len (pa_cons (pv 1) pa_nil)) pa_nil))) (fun _ _ => rfl)))), ?_⟩
    refine ⟨.ref a, rfl, ?_⟩
    refine goA (vs := [.ref p, .int xs.length]) (by walk_at "ea") fun H1 e1 => ?_
    refine ⟨p, _, ⟨(xs.length : Int), rfl, by omega, by rw [Int.natAbs_natCast]; exact Nat.lt_trans hl2 (by decide), rfl⟩, hd.ex e1, ?_⟩
    rintro v H2 ⟨r, rfl, hr0, hr1⟩ e2 d2
    obtain ⟨n, rfl⟩ := Int.eq_ofNat_of_zero_le hr0
    have hn : n < xs.length := by omega
    refine ⟨a, xs, n, xs[n], rfl, rfl, e2.l hne (ex_l e1 hS), atI_nat (List.getElem?_eq_getElem hn), ?_⟩
    exact q _ H2 (List.getElem_mem hn) ((Exd.of e1).trans e2) d2
end
end Kz
set_option Elab.async false
set_option linter.all false
set_option maxRecDepth 100000
set_option maxHeartbeats 4000000
set_option exponentiation.threshold 500
namespace Kz
open PySem PySem.Spec PyProof.Rows L2 Evl Vr
local macro_rules | `(tactic| walk_at "sc") => `(tactic| first | (with_reducible assumption) | (with_reducible exact sc_mul (by omega)) | (with_reducible exact sc_mulr (by omega)) | (with_reducible exact sc_div (by omega) (by decide)) | (show (0 : Int) < _; omega) | (show _ ≠ (0 : Int); omega) | (with_reducible rfl) | decide)
local macro_rules | `(tactic| walk_at "sq") => `(tactic| first | assumption | exact sq_of (by assumption) | exact st_of (by assumption))
local macro_rules | `(tactic| walk_at "pl") => `(tactic| first | assumption | exact pl_int | exact pl_bl | exact pl_str | exact pl_non | exact pl_lst (by assumption) | exact pl_tup (by assumption) | exact pl_dK (by assumption))
local macro_rules | `(tactic| walk_at "rv") => `(tactic| first
  | with_reducible exact rv_I0
  | with_reducible exact ru_neg
  | ((with_reducible apply rv_I); walk_at "sc")
  | ((with_reducible apply rv_ixL); walk_at "sq"; first | rfl | assumption)
  | ((with_reducible apply rv_ixT); walk_at "sq"; first | rfl | assumption)
  | ((with_reducible apply rv_eq); rfl) | ((with_reducible apply rv_ne); rfl))
local macro_rules | `(tactic| walk_at "rc") => `(tactic| first
  | with_reducible exact rc_I1 | with_reducible exact rc_B1 | with_reducible exact rc_I2 | ((with_reducible apply rc_repr); walk_at "sc") | ((with_reducible apply rc_lenL); walk_at "sq")
  | ((with_reducible apply rc_isiInt); walk_at "pl") | ((with_reducible apply rc_isiBool); walk_at "pl"))
local macro_rules | `(tactic| walk_at "ea") => `(tactic| first
  | with_reducible exact ea_nil | ((with_reducible apply ea_cons); walk_at "ev"; walk_at "ea"))
local macro_rules | `(tactic| walk_at "pow") => `(tactic| first
  | with_reducible exact ev_pow (a := 10) (b := 9) (c := 1000000000) (by decide +kernel) (by decide +kernel)
  | with_reducible exact ev_pow (a := 10) (b := 10) (c := 10000000000) (by decide +kernel) (by decide +kernel)
  | with_reducible exact ev_pow (a := 10) (b := 12) (c := 1000000000000) (by decide +kernel) (by decide +kernel)
  | with_reducible exact ev_pow (a := 10) (b := 17) (c := 100000000000000000) (by decide +kernel) (by decide +kernel)
  | with_reducible exact ev_pow (a := 10) (b := 20) (c := 100000000000000000000) (by decide +kernel) (by decide +kernel)
  | with_reducible exact ev_pow (a := 10) (b := 29) (c := 100000000000000000000000000000) (by decide +kernel) (by decide +kernel)
  | with_reducible exact ev_pow (a := 10) (b := 30) (c := 1000000000000000000000000000000) (by decide +kernel) (by decide +kernel)
  | with_reducible exact ev_pow (a := 10) (b := 40) (c := 10000000000000000000000000000000000000000) (by decide +kernel) (by decide +kernel)
  | with_reducible exact ev_pow (a := 10) (b := 57) (c := 1000000000000000000000000000000000000000000000000000000000) (by decide +kernel) (by decide +kernel)
  | with_reducible exact ev_pow (a := 10) (b := 58) (c := 10000000000000000000000000000000000000000000000000000000000) (by decide +kernel) (by decide +kernel)
  | with_reducible exact ev_pow (a := 10) (b := 59) (c := 100000000000000000000000000000000000000000000000000000000000) (by decide +kernel) (by decide +kernel)
  | with_reducible exact ev_pow (a := 10) (b := 60) (c := 1000000000000000000000000000000000000000000000000000000000000) (by decide +kernel) (by decide +kernel))
local macro_rules | `(tactic| walk_at "call") => `(tactic| (intro H9 e9; first | exact ⟨_, rfl, rfl⟩ | exact ⟨_, _, rfl, rfl⟩ | exact ⟨_, _, _, rfl, rfl⟩ | exact ⟨_, rfl, by walk_at "pl", rfl⟩ | (refine ⟨_, _, _, rfl, ?_, rfl⟩; first | exact Plain.ex e9 (by assumption) | walk_at "pl") | (refine ⟨_, rfl, ?_, rfl⟩; first | exact Plain.ex e9 (by assumption) | walk_at "pl")))
local macro_rules | `(tactic| walk_at "ev") => `(tactic| first
  | with_reducible exact ev_c
  | exact ev_var rfl
  | walk_at "pow"
  | ((with_reducible apply ev_op); walk_at "ev"; walk_at "ev"; walk_at "rv")
  | ((with_reducible apply ev_un); walk_at "ev"; walk_at "rv")
  | ((with_reducible apply ev_cb); walk_at "ea"; walk_at "rc")
  | ((with_reducible apply ev_callP); walk_at "ea"; walk_at "call")
  | ((with_reducible apply ev_chain); walk_at "ev"; walk_at "ev"; walk_at "rv"; walk_at "ev"; walk_at "rv")
  | ((with_reducible apply ev_andV); walk_at "ev"; intro _; walk_at "ev")
  | ((with_reducible apply ev_orV); walk_at "ev"; intro _; walk_at "ev")
  | ((with_reducible apply ev_ite); walk_at "et"; intro _; walk_at "ev"; intro _; walk_at "ev")
  | ((with_reducible apply ev_notV); walk_at "ev"))
local macro_rules | `(tactic| walk_at "et") => `(tactic| first
  | ((with_reducible apply et_test); walk_at "ev")
  | ((with_reducible apply et_B); walk_at "ev")
  | ((with_reducible apply et_and); walk_at "et"; intro _; walk_at "et")
  | ((with_reducible apply et_or); walk_at "et"; intro _; walk_at "et")
  | ((with_reducible apply et_not); walk_at "et"))
open En Wo
def num (n : Int) : Prop := -1000000000 ≤ n ∧ n ≤ 1000000000
def whole (n : Int) : Prop := 0 ≤ n ∧ n < 1000000000000000000000000000000000000000000000000000000000000
def nameOk (z : Str) : Prop := 1 ≤ z.length ∧ z.length ≤ 8 ∧ Txt.isascii z = true ∧ Txt.isalpha z = true ∧ Txt.islower z = true
/-- a thing -/
structure Tg where
  id : Int
  kd : Str
  ns : List Int
  deriving DecidableEq
def Tg.ok (t : Tg) : Prop := whole t.id ∧ nameOk t.kd ∧ 1 ≤ t.ns.length ∧ t.ns.length ≤ 8 ∧ ∀ n ∈ t.ns, num n
def NsAt (K : PySem.W.Frag) (H : Hp) (r : Addr) (ns : List Int) : Prop := SqT K H r (ns.map V.int)
def TgAt (K : PySem.W.Frag) (H : Hp) (r : Addr) (t : Tg) : Prop := ∃ rn, SqT K H r [.int t.id, .str t.kd, .ref rn] ∧ NsAt K H rn t.ns
/-- the tuples rs of the things ts -/
def RsAt (K : PySem.W.Frag) (H : Hp) (rs : List Addr) (ts : List Tg) : Prop := rs.length = ts.length ∧ ∀ (i : Nat) (r : Addr) (t : Tg), rs[i]? = some r → ts[i]? = some t → TgAt K H r t
def TsAt (K : PySem.W.Frag) (H : Hp) (a : Addr) (ts : List Tg) : Prop := ∃ rs, SqT K H a (rs.map V.ref) ∧ RsAt K H rs ts
def TsOk (ts : List Tg) : Prop := ts.length ≤ 12 ∧ ∀ t ∈ ts, t.ok
theorem TgAt.ex {K : PySem.W.Frag} {H H' : Hp} {r : Addr} {t : Tg} (e : Ex H H') (h : TgAt K H r t) : TgAt K H' r t := by
  obtain ⟨rn, h1, h2⟩ := h
  exact ⟨rn, ex_t e h1, ex_t e h2⟩
theorem RsAt.ex {K : PySem.W.Frag} {H H' : Hp} {rs : List Addr} {ts : List Tg} (e : Ex H H') (h : RsAt K H rs ts) : RsAt K H' rs ts := ⟨h.1, fun i r t a b => (h.2 i r t a b).ex e⟩
theorem TsAt.ex {K : PySem.W.Frag} {H H' : Hp} {a : Addr} {ts : List Tg} (e : Ex H H') (h : TsAt K H a ts) : TsAt K H' a ts := by
  obtain ⟨rs, h1, h2⟩ := h
  exact ⟨rs, ex_t e h1, h2.ex e⟩
/-- the i-th of the tuples -/
theorem RsAt.at {K : PySem.W.Frag} {H : Hp} {rs : List Addr} {ts : List Tg} (h : RsAt K H rs ts) {i : Nat} {x : V} (hx : (rs.map V.ref)[i]? = some x) : ∃ r t, x = .ref r ∧ rs[i]? = some r ∧ ts[i]? = some t ∧ TgAt K H r t := by
  rw [List.getElem?_map] at hx
  cases h1 : rs[i]? with
  | none => rw [h1] at hx; cases hx
  | some r =>
    rw [h1] at hx
    have hi : i < ts.length := by have := (List.getElem?_eq_some_iff.mp h1).1; have := h.1; omega
    exact ⟨r, ts[i], (Option.some.inj hx).symm, rfl, List.getElem?_eq_getElem hi, h.2 i r _ h1 (List.getElem?_eq_getElem hi)⟩
/-- ids that ascend, all of them below the next one -/
def asc : List Int → Int → Prop
  | [], _ => True
  | [i], n => i < n
  | i :: j :: r, n => i < j ∧ asc (j :: r) n
theorem whole_is {n : Int} (h : whole n) : isIntV (.int n) = true := by
  obtain ⟨h0, h1⟩ := h
  unfold isIntV
  simp only [Bool.and_eq_true, decide_eq_true_eq]
  omega
section
variable {H : Hp} {K : PySem.W.Frag} {z : Str}
theorem isi_str : RC (rIsi K) [.str z, .ty "str"] H (.bl true) := fun H1 e Q q => ⟨.str z, .ty "str", .type "str", .type "str", true, rfl, .ty _, .base (.str z), kit_ty (r := true) (by decide +kernel), q H1 (Ex.refl H1)⟩
end
section
variable {P : Program} {w : World} {K : PySem.W.Frag} {mg : Str → Option Value} {base : Heap}
def kWhole (vs : List V) (_ : Hp) (z : V) : Prop := ∃ n : Int, vs = [.int n] ∧ whole n ∧ z = .bl true
theorem ok_is_whole (T : Txt K mg w) : FnOk P w K mg base CX0 2 T.a_is_whole T.fd_is_whole ["value"] (Pure kWhole) := by
  have G_is_integer := ok_is_integer (P := P) (w := w) (base := base) T
  refine T.F_is_whole.ok sc_is_whole (fun vs H Q E h => ?_) (fun cdv A outer s H vs Q E hr h => ?_)
  · obtain ⟨_, ⟨_, rfl, _⟩, _⟩ := h; rfl
  · obtain ⟨_, ⟨n, rfl, hn, rfl⟩, q⟩ := h
    refine ⟨_, (pss_one (ps_ret (pe_and (pe_call G_is_integer (hr.mono (by decide)) (by rfl) T.g_is_integer T.F_is_integer.kp T.b_is_integer .nil pass0 (pa_cons (pv 0) pa_nil)) (pe_one (pe_cmpR op_ge (pv 0) pe_int (nomark _)))))), ?_⟩
    exact s_ret (v := .bl true) (ev_is (ev_andV (a := true) (b := true) (ev_callP (vs := [.int n]) (by walk_at "ea") fun H1 e1 => ⟨.int n, rfl, pl_int, by rw [whole_is hn]⟩) fun _ => ev_is (ev_op (ev_var rfl) ev_c rv_I0) (by obtain ⟨h0, _⟩ := hn; rw [decide_eq_true (by omega)])) rfl) q
theorem ok_is_luck (T : Txt K mg w) : FnOk P w K mg base CX0 3 T.a_is_luck T.fd_is_luck ["value"] (Pure fun vs _ z => ∃ n : Int, vs = [.int n] ∧ 0 ≤ n ∧ n < 999999937 ∧ z = .bl true) := by
  have G_is_within := ok_is_within (P := P) (w := w) (base := base) T
  refine T.F_is_luck.ok sc_is_luck (fun vs H Q E h => ?_) (fun cdv A outer s H vs Q E hr h => ?_)
  · obtain ⟨_, ⟨_, rfl, _⟩, _⟩ := h; rfl
  · obtain ⟨_, ⟨n, rfl, h0, h1, rfl⟩, q⟩ := h
    refine ⟨_, (pss_one (ps_ret (pe_call G_is_within (hr.mono (by decide)) (by rfl) T.g_is_within T.F_is_within.kp T.b_is_within .nil pass0 (pa_cons (pv 0) (pa_cons pe_int (pa_cons (pe_op op_sub (pe_glob (v := .int (999999937)) rfl T.g_MODULUS ⟨_, rfl⟩) pe_int) pa_nil)))))), ?_⟩
    exact s_ret (v := .bl true) (ev_callP (vs := [.int n, .int 0, .int (999999937 - 1)]) (by walk_at "ea") fun H1 e1 => ⟨.int n, _, _, rfl, pl_int, by rw [within_ok (by omega) (by omega) (by omega)]⟩) q
theorem ok_is_number (T : Txt K mg w) : FnOk P w K mg base CX0 3 T.a_is_number T.fd_is_number ["value"] (Pure fun vs _ z => ∃ n : Int, vs = [.int n] ∧ num n ∧ z = .bl true) := by
  have G_is_within := ok_is_within (P := P) (w := w) (base := base) T
  refine T.F_is_number.ok sc_is_number (fun vs H Q E h => ?_) (fun cdv A outer s H vs Q E hr h => ?_)
  · obtain ⟨_, ⟨_, rfl, _⟩, _⟩ := h; rfl
  · obtain ⟨_, ⟨n, rfl, hn, rfl⟩, q⟩ := h
    refine ⟨_, (pss_one (ps_ret (pe_call G_is_within (hr.mono (by decide)) (by rfl) T.g_is_within T.F_is_within.kp T.b_is_within .nil pass0 (pa_cons (pv 0) (pa_cons (pe_un un_neg (pe_glob (v := .int (1000000000)) rfl T.g_MOST ⟨_, rfl⟩)) (pa_cons (pe_glob (v := .int (1000000000)) rfl T.g_MOST ⟨_, rfl⟩) pa_nil)))))), ?_⟩
    exact s_ret (v := .bl true) (ev_callP (vs := [.int n, .int (-1000000000), .int 1000000000]) (by walk_at "ea") fun H1 e1 => ⟨.int n, _, _, rfl, pl_int, by rw [within_ok hn (by omega) (by omega)]⟩) q
theorem ok_is_name (T : Txt K mg w) : FnOk P w K mg base CX0 1 T.a_is_name T.fd_is_name ["value"] (Pure fun vs _ z => ∃ s : Str, vs = [.str s] ∧ nameOk s ∧ z = .bl true) := by
  refine T.F_is_name.ok sc_is_name (fun vs H Q E h => ?_) (fun cdv A outer s H vs Q E hr h => ?_)
  · obtain ⟨_, ⟨_, rfl, _⟩, _⟩ := h; rfl
  · obtain ⟨_, ⟨z, rfl, ⟨h1, h2, h3, h4, h5⟩, rfl⟩, q⟩ := h
    refine ⟨_, (pss_cons (ps_if (PW.pt (pw_or (pt_not (pt_val (pe_callB call_isi (by rfl) T.z_isinstance (by decide +kernel) (pa_cons (pv 0) (pa_cons (pe_bltn (v := .ty "str") (by rfl) T.z_str (by decide +kernel) rfl) pa_nil))))) (pw_or1 (pt_not (pt_chain op_le op_le pe_int (pe_callB call_len_str (by rfl) T.z_len PySem.boot_len (pa_cons (pv 0) pa_nil)) pe_int))))) (pss_one (ps_ret pe_bl)) pss_nil)
  (pss_one (ps_ret (pe_and (pe_m0 PySem.F.slot_str_isascii PySem.F.type_str_isascii mt_isascii (pv 0)) (pe_and (pe_m0 PySem.F.slot_str_isalpha PySem.F.type_str_isalpha mt_isalpha (pv 0)) (pe_one (pe_m0 PySem.F.slot_str_islower PySem.F.type_str_islower mt_islower (pv 0)))))))), ?_⟩
    refine q_when (b := false) (et_or (a := false) (b := false) (et_is (et_not (et_B (ev_cb (vs := [.str z, .ty "str"]) (by walk_at "ea") isi_str))) rfl) fun _ => et_is (et_not (et_test (ev_chain (a := true) (b := true) ev_c (ev_cb (vs := [.str z]) (by walk_at "ea") (rc_lenS (by omega))) (fun H1 e Q q => by
        refine rv_I0 (i := 1) (j := (z.length : Int)) (g := fun i j => .bl (decide (i ≤ j))) H1 e Q fun H2 e2 => ?_
        rw [decide_eq_true (by omega)]
        exact q H2 e2) ev_c (fun H1 e Q q => by
        refine rv_I0 (i := (z.length : Int)) (j := 8) (g := fun i j => .bl (decide (i ≤ j))) H1 e Q fun H2 e2 => ?_
        rw [decide_eq_true (by omega)]
        exact q H2 e2)))) rfl) (fun h => by cases h) fun _ H1 e1 => ?_
    exact s_ret (v := .bl true) (ev_is (ev_andV (a := true) (b := true) (ev_is (ev_strM (ev_var rfl)) (by rw [h3])) fun _ => ev_is (ev_andV (a := true) (b := true) (ev_is (ev_strM (ev_var rfl)) (by rw [h4])) fun _ => ev_is (ev_strM (ev_var rfl)) (by rw [h5])) rfl) rfl) fun H2 e2 => q H2 (e1.trans e2)
/-- at a reference the numbers of a thing -/
def kNumbers (K : PySem.W.Frag) (vs : List V) (H : Hp) (z : V) : Prop := ∃ (r : Addr) (ns : List Int), vs = [.ref r] ∧ NsAt K H r ns ∧ 1 ≤ ns.length ∧ ns.length ≤ 8 ∧ (∀ n ∈ ns, num n) ∧ z = .bl true
theorem ok_are_numbers (T : Txt K mg w) : FnOk P w K mg base CX0 4 T.a_are_numbers T.fd_are_numbers ["value"] (Pure (kNumbers K)) := by
  have G_is_number := ok_is_number (P := P) (w := w) (base := base) T
  refine T.F_are_numbers.ok sc_are_numbers (fun vs H Q E h => ?_) (fun cdv A outer s H vs Q E hr h => ?_)
  · obtain ⟨_, ⟨_, _, rfl, _⟩, _⟩ := h; rfl
  · obtain ⟨_, ⟨r, ns, rfl, hN, h1, h2, hn, rfl⟩, q⟩ := h
    refine ⟨_, (pss_cons (ps_if (PW.pt (pw_or (pt_not (pt_val (pe_callB call_isi (by rfl) T.z_isinstance (by decide +kernel) (pa_cons (pv 0) (pa_cons (pe_bltn (v := .ty "tuple") (by rfl) T.z_tuple (by decide +kernel) rfl) pa_nil))))) (pw_or1 (pt_not (pt_chain op_le op_le pe_int (pe_callB c_len (by rfl) T.z_len PySem.boot_len (pa_cons (pv 0) pa_nil)) (pe_glob (v := .int (8)) rfl T.g_MAX_FIELDS ⟨_, rfl⟩)))))) (pss_one (ps_ret pe_bl)) pss_nil)
  (pss_one (ps_ret (pe_callB (cr_all rfl) (by rfl) T.z_all (by decide +kernel) (pa_cons (pe_lc (own := [("number", 1)]) (g := gName 1) (by rfl) sc_are_numbers.nd (pi_tup (pv 0)) (blkOk_by (own := [("number", 1)]) (N := ["value", "number"]) (sc := defScope s_are_numbers) (by decide +kernel)) (fun _ _ _ _ _ => pg_name (i := 1) sc_are_numbers.nd rfl (by first | exact Or.inl rfl | exact Or.inr rfl)) (fun _ _ _ _ _ => pts_nil) (fun _ _ _ _ _ => (pe_call G_is_number (hr.mono (by decide)) (by rfl) T.g_is_number T.F_is_number.kp T.b_is_number .nil pass0 (pa_cons (pv 1) pa_nil)))) pa_nil))))), ?_⟩
    have hl : (ns.map V.int).length = ns.length := List.length_map ..
    refine q_when (b := false) (et_or (a := false) (b := false) (et_is (et_not (et_B (ev_cb (vs := [.ref r, .ty "tuple"]) (by walk_at "ea") (rc_isiTup hN)))) rfl) fun _ => et_is (et_not (et_test (ev_chain (a := true) (b := true) ev_c (ev_cb (vs := [.ref r]) (by walk_at "ea") (rc_lenT hN)) (fun H1 e Q q => by
        refine rv_I0 (i := 1) (g := fun i j => .bl (decide (i ≤ j))) H1 e Q fun H2 e2 => ?_
        rw [decide_eq_true (by omega)]
        exact q H2 e2) ev_c (fun H1 e Q q => by
        refine rv_I0 (j := 8) (g := fun i j => .bl (decide (i ≤ j))) H1 e Q fun H2 e2 => ?_
        rw [decide_eq_true (by omega)]
        exact q H2 e2)))) rfl) (fun h => by cases h) fun _ H1 e1 => ?_
    refine s_ret (v := .bl true) (ev_is (ev_allN (bs := ns.map fun _ => true) ?_) (by simp)) fun H2 e2 => q H2 (e1.trans e2)
    have e : given (ns.map V.int).length (fun _ => true) (fun i => V.bl true) = (ns.map fun _ => true).map V.bl := by
      rw [hl, given_yes_map ns 0 fun _ => V.bl true, List.map_map]
      rfl
    rw [← e]
    refine el_lcT (fun _ => true) (fun i => V.bl true) (ev_var rfl) (ex_t e1 hN) (by rw [hl]; omega) (fun _ => rfl) (fun i x H2 e2 hx => et_yes) fun i x H2 e2 hx _ => ?_
    rw [List.getElem?_map] at hx
    cases h : ns[i]? with
    | none => rw [h] at hx; cases hx
    | some n =>
      rw [h] at hx
      obtain rfl : x = .int n := (Option.some.inj hx).symm
      exact ev_callP (vs := [.int n]) (by walk_at "ea") fun H3 e3 => ⟨n, rfl, hn n (List.mem_of_getElem? h), rfl⟩
def kThing (K : PySem.W.Frag) (vs : List V) (H : Hp) (z : V) : Prop := ∃ (r : Addr) (t : Tg), vs = [.ref r] ∧ TgAt K H r t ∧ t.ok ∧ z = .bl true
theorem ok_is_thing (T : Txt K mg w) : FnOk P w K mg base CX0 5 T.a_is_thing T.fd_is_thing ["value"] (Pure (kThing K)) := by
  have G_is_whole := ok_is_whole (P := P) (w := w) (base := base) T
  have G_is_name := ok_is_name (P := P) (w := w) (base := base) T
  have G_are_numbers := ok_are_numbers (P := P) (w := w) (base := base) T
  refine T.F_is_thing.ok sc_is_thing (fun vs H Q E h => ?_) (fun cdv A outer s H vs Q E hr h => ?_)
  · obtain ⟨_, ⟨_, _, rfl, _⟩, _⟩ := h; rfl
  · obtain ⟨_, ⟨r, t, rfl, ⟨rn, hT, hN⟩, ⟨k1, k2, k3, k4, k5⟩, rfl⟩, q⟩ := h
    refine ⟨_, (pss_cons (ps_if (PW.pt (pw_or (pt_not (pt_val (pe_callB call_isi (by rfl) T.z_isinstance (by decide +kernel) (pa_cons (pv 0) (pa_cons (pe_bltn (v := .ty "tuple") (by rfl) T.z_tuple (by decide +kernel) rfl) pa_nil))))) (pw_or1 (pt_cmpR op_ne (pe_callB c_len (by rfl) T.z_len PySem.boot_len (pa_cons (pv 0) pa_nil)) pe_int (nomark _))))) (pss_one (ps_ret pe_bl)) pss_nil)
  (pss_one (ps_ret (pe_and (pe_call G_is_whole (hr.mono (by decide)) (by rfl) T.g_is_whole T.F_is_whole.kp T.b_is_whole .nil pass0 (pa_cons (pe_ix ix_tup (pv 0) pe_int (fun _ _ => rfl)) pa_nil)) (pe_and (pe_call G_is_name (hr.mono (by decide)) (by rfl) T.g_is_name T.F_is_name.kp T.b_is_name .nil pass0 (pa_cons (pe_ix ix_tup (pv 0) pe_int (fun _ _ => rfl)) pa_nil)) (pe_one (pe_call G_are_numbers (hr.mono (by decide)) (by rfl) T.g_are_numbers T.F_are_numbers.kp T.b_are_numbers .nil pass0 (pa_cons (pe_ix ix_tup (pv 0) pe_int (fun _ _ => rfl)) pa_nil)))))))), ?_⟩
    have i0 : atI [V.int t.id, .str t.kd, .ref rn] 0 = some (.int t.id) := rfl
    have i1 : atI [V.int t.id, .str t.kd, .ref rn] 1 = some (.str t.kd) := rfl
    have i2 : atI [V.int t.id, .str t.kd, .ref rn] 2 = some (.ref rn) := rfl
    refine q_when (b := false) (et_or (a := false) (b := false) (et_is (et_not (et_B (ev_cb (vs := [.ref r, .ty "tuple"]) (by walk_at "ea") (rc_isiTup hT)))) rfl) fun _ => et_is (et_test (ev_op (ev_cb (vs := [.ref r]) (by walk_at "ea") (rc_lenT hT)) ev_c (rv_ne rfl))) (show (!decide (V.int ((3 : Nat) : Int) = V.int 3)) = false by decide)) (fun h => by cases h) fun _ H1 e1 => ?_
    have hT := ex_t e1 hT
    exact s_ret (v := .bl true) (ev_is (ev_andV (a := true) (b := true) (ev_callP (vs := [.int t.id]) (by walk_at "ea") fun H2 e2 => ⟨_, rfl, k1, rfl⟩) fun _ => ev_is (ev_andV (a := true) (b := true) (ev_callP (vs := [.str t.kd]) (by walk_at "ea") fun H2 e2 => ⟨_, rfl, k2, rfl⟩) fun _ => ev_callP (vs := [.ref rn]) (by walk_at "ea") fun H2 e2 => ⟨rn, t.ns, rfl, ex_t (e1.trans e2) hN, k3, k4, k5, rfl⟩) rfl) rfl) fun H2 e2 => q H2 (e1.trans e2)
def kThings (K : PySem.W.Frag) (vs : List V) (H : Hp) (z : V) : Prop := ∃ (a : Addr) (ts : List Tg), vs = [.ref a] ∧ TsAt K H a ts ∧ TsOk ts ∧ z = .bl true
theorem ok_are_things (T : Txt K mg w) : FnOk P w K mg base CX0 6 T.a_are_things T.fd_are_things ["value"] (Pure (kThings K)) := by
  have G_is_thing := ok_is_thing (P := P) (w := w) (base := base) T
  refine T.F_are_things.ok sc_are_things (fun vs H Q E h => ?_) (fun cdv A outer s H vs Q E hr h => ?_)
  · obtain ⟨_, ⟨_, _, rfl, _⟩, _⟩ := h; rfl
  · obtain ⟨_, ⟨a, ts, rfl, ⟨rs, hT, hR⟩, ⟨k1, k2⟩, rfl⟩, q⟩ := h
    refine ⟨_, (pss_cons (ps_if (PW.pt (pw_or (pt_not (pt_val (pe_callB call_isi (by rfl) T.z_isinstance (by decide +kernel) (pa_cons (pv 0) (pa_cons (pe_bltn (v := .ty "tuple") (by rfl) T.z_tuple (by decide +kernel) rfl) pa_nil))))) (pw_or1 (pt_cmpR op_gt (pe_callB c_len (by rfl) T.z_len PySem.boot_len (pa_cons (pv 0) pa_nil)) (pe_glob (v := .int (12)) rfl T.g_MAX_THINGS ⟨_, rfl⟩) (nomark _))))) (pss_one (ps_ret pe_bl)) pss_nil)
  (pss_one (ps_ret (pe_callB (cr_all rfl) (by rfl) T.z_all (by decide +kernel) (pa_cons (pe_lc (own := [("thing", 1)]) (g := gName 1) (by rfl) sc_are_things.nd (pi_tup (pv 0)) (blkOk_by (own := [("thing", 1)]) (N := ["value", "thing"]) (sc := defScope s_are_things) (by decide +kernel)) (fun _ _ _ _ _ => pg_name (i := 1) sc_are_things.nd rfl (by first | exact Or.inl rfl | exact Or.inr rfl)) (fun _ _ _ _ _ => pts_nil) (fun _ _ _ _ _ => (pe_call G_is_thing (hr.mono (by decide)) (by rfl) T.g_is_thing T.F_is_thing.kp T.b_is_thing .nil pass0 (pa_cons (pv 1) pa_nil)))) pa_nil))))), ?_⟩
    have hl : (rs.map V.ref).length = ts.length := by rw [List.length_map, hR.1]
    refine q_when (b := false) (et_or (a := false) (b := false) (et_is (et_not (et_B (ev_cb (vs := [.ref a, .ty "tuple"]) (by walk_at "ea") (rc_isiTup hT)))) rfl) fun _ => et_is (et_test (ev_op (ev_cb (vs := [.ref a]) (by walk_at "ea") (rc_lenT hT)) ev_c rv_I0)) (decide_eq_false (by omega))) (fun h => by cases h) fun _ H1 e1 => ?_
    refine s_ret (v := .bl true) (ev_is (ev_allN (bs := ts.map fun _ => true) ?_) (by simp)) fun H2 e2 => q H2 (e1.trans e2)
    have e : given (rs.map V.ref).length (fun _ => true) (fun i => V.bl true) = (ts.map fun _ => true).map V.bl := by
      rw [hl, given_yes_map ts ⟨0, "", []⟩ fun _ => V.bl true, List.map_map]
      rfl
    rw [← e]
    refine el_lcT (fun _ => true) (fun i => V.bl true) (ev_var rfl) (ex_t e1 hT) (by omega) (fun _ => rfl) (fun i x H2 e2 hx => et_yes) fun i x H2 e2 hx _ => ?_
    obtain ⟨r, t, rfl, _, ht, hA⟩ := hR.at hx
    exact ev_callP (vs := [.ref r]) (by walk_at "ea") fun H3 e3 => ⟨r, t, rfl, hA.ex ((e1.trans e2).trans e3), k2 t (List.mem_of_getElem? ht), rfl⟩
end
end Kz
set_option Elab.async false
set_option linter.all false
set_option maxRecDepth 100000
set_option maxHeartbeats 4000000
set_option exponentiation.threshold 500
namespace Kz
open PySem PySem.Spec PyProof.Rows L2 Evl Vr
local macro_rules | `(tactic| walk_at "sc") => `(tactic| first | (with_reducible assumption) | (with_reducible exact sc_mul (by omega)) | (with_reducible exact sc_mulr (by omega)) | (with_reducible exact sc_div (by omega) (by decide)) | (show (0 : Int) < _; omega) | (show _ ≠ (0 : Int); omega) | (with_reducible rfl) | decide)
local macro_rules | `(tactic| walk_at "sq") => `(tactic| first | assumption | exact sq_of (by assumption) | exact st_of (by assumption))
local macro_rules | `(tactic| walk_at "pl") => `(tactic| first | assumption | exact pl_int | exact pl_bl | exact pl_str | exact pl_non | exact pl_lst (by assumption) | exact pl_tup (by assumption) | exact pl_dK (by assumption))
local macro_rules | `(tactic| walk_at "rv") => `(tactic| first
  | with_reducible exact rv_I0
  | with_reducible exact ru_neg
  | ((with_reducible apply rv_I); walk_at "sc")
  | ((with_reducible apply rv_ixL); walk_at "sq"; first | rfl | assumption)
  | ((with_reducible apply rv_ixT); walk_at "sq"; first | rfl | assumption)
  | ((with_reducible apply rv_eq); rfl) | ((with_reducible apply rv_ne); rfl))
local macro_rules | `(tactic| walk_at "rc") => `(tactic| first
  | with_reducible exact rc_I1 | with_reducible exact rc_B1 | with_reducible exact rc_I2 | ((with_reducible apply rc_repr); walk_at "sc") | ((with_reducible apply rc_lenL); walk_at "sq")
  | ((with_reducible apply rc_isiInt); walk_at "pl") | ((with_reducible apply rc_isiBool); walk_at "pl"))
local macro_rules | `(tactic| walk_at "ea") => `(tactic| first
  | with_reducible exact ea_nil | ((with_reducible apply ea_cons); walk_at "ev"; walk_at "ea"))
local macro_rules | `(tactic| walk_at "pow") => `(tactic| first
  | with_reducible exact ev_pow (a := 10) (b := 9) (c := 1000000000) (by decide +kernel) (by decide +kernel)
  | with_reducible exact ev_pow (a := 10) (b := 10) (c := 10000000000) (by decide +kernel) (by decide +kernel)
  | with_reducible exact ev_pow (a := 10) (b := 12) (c := 1000000000000) (by decide +kernel) (by decide +kernel)
  | with_reducible exact ev_pow (a := 10) (b := 17) (c := 100000000000000000) (by decide +kernel) (by decide +kernel)
  | with_reducible exact ev_pow (a := 10) (b := 20) (c := 100000000000000000000) (by decide +kernel) (by decide +kernel)
  | with_reducible exact ev_pow (a := 10) (b := 29) (c := 100000000000000000000000000000) (by decide +kernel) (by decide +kernel)
  | with_reducible exact ev_pow (a := 10) (b := 30) (c := 1000000000000000000000000000000) (by decide +kernel) (by decide +kernel)
  | with_reducible exact ev_pow (a := 10) (b := 40) (c := 10000000000000000000000000000000000000000) (by decide +kernel) (by decide +kernel)
  | with_reducible exact ev_pow (a := 10) (b := 57) (c := 1000000000000000000000000000000000000000000000000000000000) (by decide +kernel) (by decide +kernel)
  | with_reducible exact ev_pow (a := 10) (b := 58) (c := 10000000000000000000000000000000000000000000000000000000000) (by decide +kernel) (by decide +kernel)
  | with_reducible exact ev_pow (a := 10) (b := 59) (c := 100000000000000000000000000000000000000000000000000000000000) (by decide +kernel) (by decide +kernel)
  | with_reducible exact ev_pow (a := 10) (b := 60) (c := 1000000000000000000000000000000000000000000000000000000000000) (by decide +kernel) (by decide +kernel))
local macro_rules | `(tactic| walk_at "call") => `(tactic| (intro H9 e9; first | exact ⟨_, rfl, rfl⟩ | exact ⟨_, _, rfl, rfl⟩ | exact ⟨_, _, _, rfl, rfl⟩ | exact ⟨_, rfl, by walk_at "pl", rfl⟩ | (refine ⟨_, _, _, rfl, ?_, rfl⟩; first | exact Plain.ex e9 (by assumption) | walk_at "pl") | (refine ⟨_, rfl, ?_, rfl⟩; first | exact Plain.ex e9 (by assumption) | walk_at "pl")))
local macro_rules | `(tactic| walk_at "ev") => `(tactic| first
  | with_reducible exact ev_c
  | exact ev_var rfl
  | walk_at "pow"
  | ((with_reducible apply ev_op); walk_at "ev"; walk_at "ev"; walk_at "rv")
  | ((with_reducible apply ev_un); walk_at "ev"; walk_at "rv")
  | ((with_reducible apply ev_cb); walk_at "ea"; walk_at "rc")
  | ((with_reducible apply ev_callP); walk_at "ea"; walk_at "call")
  | ((with_reducible apply ev_chain); walk_at "ev"; walk_at "ev"; walk_at "rv"; walk_at "ev"; walk_at "rv")
  | ((with_reducible apply ev_andV); walk_at "ev"; intro _; walk_at "ev")
  | ((with_reducible apply ev_orV); walk_at "ev"; intro _; walk_at "ev")
  | ((with_reducible apply ev_ite); walk_at "et"; intro _; walk_at "ev"; intro _; walk_at "ev")
  | ((with_reducible apply ev_notV); walk_at "ev"))
local macro_rules | `(tactic| walk_at "et") => `(tactic| first
  | ((with_reducible apply et_test); walk_at "ev")
  | ((with_reducible apply et_B); walk_at "ev")
  | ((with_reducible apply et_and); walk_at "et"; intro _; walk_at "et")
  | ((with_reducible apply et_or); walk_at "et"; intro _; walk_at "et")
  | ((with_reducible apply et_not); walk_at "et"))
open En Wo
def Tg.ids (ts : List Tg) : List Int := ts.map Tg.id
/-- ids that ascend, all of them below the next one -/
def Asc (ts : List Tg) (n : Int) : Prop := (Tg.ids ts ++ [n]).Pairwise (· < ·)
theorem tg_len (ts : List Tg) : (Tg.ids ts).length = ts.length := List.length_map ..
section
variable {σ : L2.St} {H : Hp} {t : TT} {te tl : TE} {K : PySem.W.Frag}
/-- [e for x in things if t], the things told by their references -/
theorem el_lcTs {a : Addr} {rs : List Addr} {ts : List Tg} {j : Nat} {vs : List Nat} (f : Tg → Bool) (v : Addr → Tg → V) (g : Tg → V) (h : Ev tl σ H (.ref a)) (hT : SqT K H a (rs.map V.ref)) (hR : RsAt K H rs ts) (hz : ts.length ≤ 40000) (hw : ∀ x, wipe ((wipe σ vs).set j (some x)) vs = wipe σ vs)
    (ht : ∀ (r : Addr) (t' : Tg) H1, Ex H H1 → TgAt K H1 r t' → t' ∈ ts → EvT t ((wipe σ vs).set j (some (.ref r))) H1 (f t')) (he : ∀ (r : Addr) (t' : Tg) H1, Ex H H1 → TgAt K H1 r t' → t' ∈ ts → f t' = true → Ev te ((wipe σ vs).set j (some (.ref r))) H1 (g t')) :
    EvL (tLc (iTup K tl) (gName j) t te vs) σ H ((ts.filter f).map g) := by
  have e : given (rs.map V.ref).length (fun i => f (ts.getD i ⟨0, "", []⟩)) (fun i => g (ts.getD i ⟨0, "", []⟩)) = (ts.filter f).map g := by
    rw [List.length_map, hR.1, given_filter ts ⟨0, "", []⟩ f g]
  rw [← e]
  refine el_lcT _ _ h hT (by rw [List.length_map, hR.1]; omega) hw (fun i x H1 e1 hx => ?_) fun i x H1 e1 hx hf => ?_
  · obtain ⟨r, t', rfl, _, h2, hA⟩ := hR.at hx
    have hd : ts.getD i ⟨0, "", []⟩ = t' := by rw [List.getD_eq_getElem?_getD, h2]; rfl
    rw [hd]
    exact ht r t' H1 e1 (hA.ex e1) (List.mem_of_getElem? h2)
  · obtain ⟨r, t', rfl, _, h2, hA⟩ := hR.at hx
    have hd : ts.getD i ⟨0, "", []⟩ = t' := by rw [List.getD_eq_getElem?_getD, h2]; rfl
    rw [hd] at hf ⊢
    exact he r t' H1 e1 (hA.ex e1) (List.mem_of_getElem? h2) hf
theorem ev_tg0 {te : TE} {r : Addr} {t' : Tg} (h : Ev te σ H (.ref r)) (hA : TgAt K H r t') : Ev (tOp (rIxT K) te (tC (.int 0))) σ H (.int t'.id) := by
  obtain ⟨rn, h1, _⟩ := hA
  exact ev_op h ev_c (rv_ixT h1 rfl)
theorem ev_tg1 {te : TE} {r : Addr} {t' : Tg} (h : Ev te σ H (.ref r)) (hA : TgAt K H r t') : Ev (tOp (rIxT K) te (tC (.int 1))) σ H (.str t'.kd) := by
  obtain ⟨rn, h1, _⟩ := hA
  exact ev_op h ev_c (rv_ixT h1 rfl)
end
section
variable {P : Program} {w : World} {K : PySem.W.Frag} {mg : Str → Option Value} {base : Heap}
def kSeq (K : PySem.W.Frag) (vs : List V) (H : Hp) (z : V) : Prop := ∃ (a : Addr) (ts : List Tg) (n : Int), vs = [.ref a, .int n] ∧ TsAt K H a ts ∧ ts.length ≤ 12 ∧ Asc ts n ∧ z = .bl true
theorem ok_are_in_sequence (T : Txt K mg w) : FnOk P w K mg base CX0 1 T.a_are_in_sequence T.fd_are_in_sequence ["things", "next_id"] (Pure (kSeq K)) := by
  refine T.F_are_in_sequence.ok sc_are_in_sequence (fun vs H Q E h => ?_) (fun cdv A outer s H vs Q E hr h => ?_)
  · obtain ⟨_, ⟨_, _, _, rfl, _⟩, _⟩ := h; rfl
  · obtain ⟨_, ⟨a, ts, n, rfl, ⟨rs, hT, hR⟩, hl, hA, rfl⟩, q⟩ := h
    refine ⟨_, (pss_cons (ps_set (i := 2) sc_are_in_sequence.nd rfl (.inl rfl) (pe_op op_cat (pe_lc (own := [("thing", 3)]) (g := gName 3) (by rfl) sc_are_in_sequence.nd (pi_tup (pv 0)) (blkOk_by (own := [("thing", 3)]) (N := ["things", "next_id", "ids", "thing", "low", "high"]) (sc := defScope s_are_in_sequence) (by decide +kernel)) (fun _ _ _ _ _ => pg_name (i := 3) sc_are_in_sequence.nd rfl (by first | exact Or.inl rfl | exact Or.inr rfl)) (fun _ _ _ _ _ => pts_nil) (fun _ _ _ _ _ => (pe_ix (ix_tupK (K := K) rfl) (pv 3) pe_int (fun _ _ => rfl)))) (pe_lst (pa_cons (pv 1) pa_nil))))
  (pss_one (ps_ret (pe_callB (cr_all rfl) (by rfl) T.z_all (by decide +kernel) (pa_cons (pe_lc (own := [("low", 4), ("high", 5)]) (g := gTup _ 2 (gCons (gName 4) (gCons (gName 5) gNil))) (by rfl) sc_are_in_sequence.nd (pi_zip rfl T.z_zip (pa_cons (pv 2) (pa_cons (pe_slice sl_list (pv 2) (po_some pe_int) po_none) pa_nil))) (blkOk_by (own := [("low", 4), ("high", 5)]) (N := ["things", "next_id", "ids", "thing", "low", "high"]) (sc := defScope s_are_in_sequence) (by decide +kernel)) (fun _ _ _ _ _ => pg_tup rfl (pgs_cons (pg_name (i := 4) sc_are_in_sequence.nd rfl (by first | exact Or.inl rfl | exact Or.inr rfl)) (pgs_cons (pg_name (i := 5) sc_are_in_sequence.nd rfl (by first | exact Or.inl rfl | exact Or.inr rfl)) pgs_nil))) (fun _ _ _ _ _ => pts_nil) (fun _ _ _ _ _ => (pe_cmpR op_lt (pv 4) (pv 5) (nomark _)))) pa_nil))))), ?_⟩
    refine q_asgL (xs := (Tg.ids ts ++ [n]).map V.int) (by
      have e : (Tg.ids ts ++ [n]).map V.int = (ts.filter fun _ => true).map (fun t => V.int t.id) ++ [.int n] := by
        rw [List.filter_eq_self.mpr (fun _ _ => rfl), List.map_append]
        unfold Tg.ids
        rw [List.map_map]
        rfl
      rw [e]
      exact el_cat (el_lcTs (fun _ => true) (fun _ t => V.int t.id) (fun t => V.int t.id) (ev_var rfl) hT hR (by omega) (fun _ => rfl) (fun r t H1 e1 _ _ => et_yes) fun r t H1 e1 hA _ _ => ev_tg0 (ev_var rfl) hA) (el_lst (by walk_at "ea") (by show 1 ≤ 100000; decide)) (by
        rw [List.filter_eq_self.mpr (fun _ _ => rfl), List.length_map]
        show _ + 1 ≤ _
        omega)) fun l H1 hl1 e1 h1 => ?_
    have hL := sq_of (K := K) h1
    have len : (Tg.ids ts ++ [n]).length = ts.length + 1 := by rw [List.length_append, tg_len]; rfl
    generalize hI : Tg.ids ts ++ [n] = ids at *
    unfold Asc at hA
    rw [hI] at hA
    refine s_ret (v := .bl true) (ev_is (ev_allN (bs := (List.range (min (ids.map V.int).length ((ids.map V.int).drop 1).length)).map fun _ => true) ?_) (by simp)) fun H2 e2 => q H2 (e1.trans e2)
    have e : given (min (ids.map V.int).length ((ids.map V.int).drop 1).length) (fun _ => true) (fun _ => V.bl true) = ((List.range (min (ids.map V.int).length ((ids.map V.int).drop 1).length)).map fun _ => true).map V.bl := by
      unfold given
      rw [List.filter_eq_self.mpr (fun _ _ => rfl), List.map_map]
      rfl
    rw [← e]
    refine el_lcZip (fun _ => true) (fun _ => V.bl true) ?_ (by rw [List.length_map]; omega) (fun _ _ => rfl) (fun i x y H2 e2 hx hy => et_yes) fun i x y H2 e2 hx hy _ => ?_
    · have hsl := el_sl (K := K) (te := tVar 2) (σ := [some (.ref a), some (.int n), some (.ref l), none, none, none]) (ev_var (i := 2) rfl) (eo_some (ev_c (v := .int 1))) eo_none hL
      rw [cut1] at hsl
      exact fun H2 e2 Q2 q2 => (ap_cons (ev_var rfl) (ap_consL hsl ap_nil)) H2 e2 Q2 fun vs H3 e3 ⟨ws, h1', p, ws2, h2', h3', h4'⟩ => q2 vs H3 e3 ⟨l, p, by rw [h1', h2', h4'], ex_l (e2.trans e3) hL, sq_of h3'⟩
    · rw [List.getElem?_map] at hx
      rw [List.getElem?_drop, List.getElem?_map] at hy
      cases h2 : ids[i]? with
      | none => rw [h2] at hx; cases hx
      | some u =>
        cases h3 : ids[1 + i]? with
        | none => rw [h3] at hy; cases hy
        | some u2 =>
          rw [h2] at hx
          rw [h3] at hy
          obtain rfl : x = .int u := (Option.some.inj hx).symm
          obtain rfl : y = .int u2 := (Option.some.inj hy).symm
          obtain ⟨h4, h5⟩ := List.getElem?_eq_some_iff.mp h2
          obtain ⟨h6, h7⟩ := List.getElem?_eq_some_iff.mp h3
          have h8 := List.pairwise_iff_getElem.mp hA i (1 + i) h4 h6 (by omega)
          rw [h5, h7] at h8
          exact ev_is (ev_op (ev_var rfl) (ev_var rfl) rv_I0) (by rw [decide_eq_true h8])
/-! ### a world -/
structure Wd where
  t : Int
  n : Int
  l : Int
  ts : List Tg
  deriving DecidableEq
def Wd.ok (W : Wd) : Prop := whole W.t ∧ whole W.n ∧ (0 ≤ W.l ∧ W.l < 999999937) ∧ TsOk W.ts ∧ Asc W.ts W.n
abbrev wfs (W : Wd) (aT aO aD : Addr) : List (Str × V) := [("tick", .int W.t), ("next_id", .int W.n), ("luck", .int W.l), ("things", .ref aT), ("order", .ref aO), ("table", .ref aD)]
/-- the pairs of the table -/
def tab : List Addr → List Tg → List (Key × V)
  | r :: rs, t :: ts => (.inl t.id, .ref r) :: tab rs ts
  | _, _ => []
structure WAt (K : PySem.W.Frag) (C : Addr) (H : Hp) (p : Addr) (W : Wd) (rs : List Addr) (aT aO aD : Addr) : Prop where
  ob : ∃ dx, H p = some (.ins C dx (wfs W aT aO aD))
  th : SqT K H aT (rs.map V.ref)
  ra : RsAt K H rs W.ts
  od : SqT K H aO ((Tg.ids W.ts).map V.int)
  tb : H aD = some (.dK (tab rs W.ts))
/-- a world stands at p -/
def WdAt (K : PySem.W.Frag) (C : Addr) (H : Hp) (p : Addr) (W : Wd) : Prop := ∃ rs aT aO aD, WAt K C H p W rs aT aO aD
theorem WAt.ex {C p aT aO aD : Addr} {H H' : Hp} {W : Wd} {rs : List Addr} (e : Ex H H') (h : WAt K C H p W rs aT aO aD) : WAt K C H' p W rs aT aO aD := by
  obtain ⟨⟨dx, h1⟩, h2, h3, h4, h5⟩ := h
  exact ⟨⟨dx, e _ _ h1⟩, ex_t e h2, h3.ex e, ex_t e h4, e _ _ h5⟩
theorem WdAt.ex {C p : Addr} {H H' : Hp} {W : Wd} (e : Ex H H') (h : WdAt K C H p W) : WdAt K C H' p W := by
  obtain ⟨rs, aT, aO, aD, h⟩ := h
  exact ⟨rs, aT, aO, aD, h.ex e⟩
end
end Kz
set_option Elab.async false
set_option linter.all false
set_option maxRecDepth 100000
set_option maxHeartbeats 4000000
set_option exponentiation.threshold 500
namespace Kz
open PySem PySem.Spec PyProof.Rows L2 Evl Vr
local macro_rules | `(tactic| walk_at "sc") => `(tactic| first | (with_reducible assumption) | (with_reducible exact sc_mul (by omega)) | (with_reducible exact sc_mulr (by omega)) | (with_reducible exact sc_div (by omega) (by decide)) | (show (0 : Int) < _; omega) | (show _ ≠ (0 : Int); omega) | (with_reducible rfl) | decide)
local macro_rules | `(tactic| walk_at "sq") => `(tactic| first | assumption | exact sq_of (by assumption) | exact st_of (by assumption))
local macro_rules | `(tactic| walk_at "pl") => `(tactic| first | assumption | exact pl_int | exact pl_bl | exact pl_str | exact pl_non | exact pl_lst (by assumption) | exact pl_tup (by assumption) | exact pl_dK (by assumption))
local macro_rules | `(tactic| walk_at "rv") => `(tactic| first
  | with_reducible exact rv_I0
  | with_reducible exact ru_neg
  | ((with_reducible apply rv_I); walk_at "sc")
  | ((with_reducible apply rv_ixL); walk_at "sq"; first | rfl | assumption)
  | ((with_reducible apply rv_ixT); walk_at "sq"; first | rfl | assumption)
  | ((with_reducible apply rv_eq); rfl) | ((with_reducible apply rv_ne); rfl))
local macro_rules | `(tactic| walk_at "rc") => `(tactic| first
  | with_reducible exact rc_I1 | with_reducible exact rc_B1 | with_reducible exact rc_I2 | ((with_reducible apply rc_repr); walk_at "sc") | ((with_reducible apply rc_lenL); walk_at "sq")
  | ((with_reducible apply rc_isiInt); walk_at "pl") | ((with_reducible apply rc_isiBool); walk_at "pl"))
local macro_rules | `(tactic| walk_at "ea") => `(tactic| first
  | with_reducible exact ea_nil | ((with_reducible apply ea_cons); walk_at "ev"; walk_at "ea"))
local macro_rules | `(tactic| walk_at "pow") => `(tactic| first
  | with_reducible exact ev_pow (a := 10) (b := 9) (c := 1000000000) (by decide +kernel) (by decide +kernel)
  | with_reducible exact ev_pow (a := 10) (b := 10) (c := 10000000000) (by decide +kernel) (by decide +kernel)
  | with_reducible exact ev_pow (a := 10) (b := 12) (c := 1000000000000) (by decide +kernel) (by decide +kernel)
  | with_reducible exact ev_pow (a := 10) (b := 17) (c := 100000000000000000) (by decide +kernel) (by decide +kernel)
  | with_reducible exact ev_pow (a := 10) (b := 20) (c := 100000000000000000000) (by decide +kernel) (by decide +kernel)
  | with_reducible exact ev_pow (a := 10) (b := 29) (c := 100000000000000000000000000000) (by decide +kernel) (by decide +kernel)
  | with_reducible exact ev_pow (a := 10) (b := 30) (c := 1000000000000000000000000000000) (by decide +kernel) (by decide +kernel)
  | with_reducible exact ev_pow (a := 10) (b := 40) (c := 10000000000000000000000000000000000000000) (by decide +kernel) (by decide +kernel)
  | with_reducible exact ev_pow (a := 10) (b := 57) (c := 1000000000000000000000000000000000000000000000000000000000) (by decide +kernel) (by decide +kernel)
  | with_reducible exact ev_pow (a := 10) (b := 58) (c := 10000000000000000000000000000000000000000000000000000000000) (by decide +kernel) (by decide +kernel)
  | with_reducible exact ev_pow (a := 10) (b := 59) (c := 100000000000000000000000000000000000000000000000000000000000) (by decide +kernel) (by decide +kernel)
  | with_reducible exact ev_pow (a := 10) (b := 60) (c := 1000000000000000000000000000000000000000000000000000000000000) (by decide +kernel) (by decide +kernel))
local macro_rules | `(tactic| walk_at "call") => `(tactic| (intro H9 e9; first | exact ⟨_, rfl, rfl⟩ | exact ⟨_, _, rfl, rfl⟩ | exact ⟨_, _, _, rfl, rfl⟩ | exact ⟨_, rfl, by walk_at "pl", rfl⟩ | (refine ⟨_, _, _, rfl, ?_, rfl⟩; first | exact Plain.ex e9 (by assumption) | walk_at "pl") | (refine ⟨_, rfl, ?_, rfl⟩; first | exact Plain.ex e9 (by assumption) | walk_at "pl")))
local macro_rules | `(tactic| walk_at "ev") => `(tactic| first
  | with_reducible exact ev_c
  | exact ev_var rfl
  | walk_at "pow"
  | ((with_reducible apply ev_op); walk_at "ev"; walk_at "ev"; walk_at "rv")
  | ((with_reducible apply ev_un); walk_at "ev"; walk_at "rv")
  | ((with_reducible apply ev_cb); walk_at "ea"; walk_at "rc")
  | ((with_reducible apply ev_callP); walk_at "ea"; walk_at "call")
  | ((with_reducible apply ev_chain); walk_at "ev"; walk_at "ev"; walk_at "rv"; walk_at "ev"; walk_at "rv")
  | ((with_reducible apply ev_andV); walk_at "ev"; intro _; walk_at "ev")
  | ((with_reducible apply ev_orV); walk_at "ev"; intro _; walk_at "ev")
  | ((with_reducible apply ev_ite); walk_at "et"; intro _; walk_at "ev"; intro _; walk_at "ev")
  | ((with_reducible apply ev_notV); walk_at "ev"))
local macro_rules | `(tactic| walk_at "et") => `(tactic| first
  | ((with_reducible apply et_test); walk_at "ev")
  | ((with_reducible apply et_B); walk_at "ev")
  | ((with_reducible apply et_and); walk_at "et"; intro _; walk_at "et")
  | ((with_reducible apply et_or); walk_at "et"; intro _; walk_at "et")
  | ((with_reducible apply et_not); walk_at "et"))
open En Wo
theorem len_putF (f : Str) (v : V) : ∀ fs : List (Str × V), (putF f v fs).length ≤ fs.length + 1
  | [] => Nat.le_refl _
  | (g, x) :: r => by
    have := len_putF f v r
    show (if g = f then (g, v) :: r else (g, x) :: putF f v r).length ≤ _
    split
    · simp
    · simp only [List.length_cons]; omega
def FsOk (fs : List (Str × V)) : Prop := fs = [] ∨ ∃ W a b c, fs = wfs W a b c
theorem FsOk.len {fs : List (Str × V)} (h : FsOk fs) : fs.length ≤ 6 := by
  rcases h with rfl | ⟨W, a, b, c, rfl⟩
  · exact Nat.zero_le _
  · exact Nat.le_refl _
theorem fs_fin {fs : List (Str × V)} (h : FsOk fs) (W : Wd) (a o d : Addr) : putF "table" (.ref d) (putF "order" (.ref o) (putF "things" (.ref a) (putF "luck" (.int W.l) (putF "next_id" (.int W.n) (putF "tick" (.int W.t) fs))))) = wfs W a o d := by
  rcases h with rfl | ⟨W0, a0, b0, c0, rfl⟩
  · rfl
  · rfl
theorem RsAt.ti {K : PySem.W.Frag} {C p dx : Addr} {fs : List (Str × V)} {H H' : Hp} {rs : List Addr} {ts : List Tg} (e : Exd p H H') (hp : H p = some (.ins C dx fs)) (h : RsAt K H rs ts) : RsAt K H' rs ts := ⟨h.1, fun i r t a b => by
  obtain ⟨rn, h1, h2⟩ := h.2 i r t a b
  exact ⟨rn, e.ti hp h1, e.ti hp h2⟩⟩
theorem tab_len : ∀ (rs : List Addr) (ts : List Tg), rs.length = ts.length → (tab rs ts).length = ts.length
  | [], [], _ => rfl
  | r :: rs, t :: ts, h => by
    show (tab rs ts).length + 1 = ts.length + 1
    rw [tab_len rs ts (by simpa using h)]
  | [], _ :: _, h => by cases h
  | _ :: _, [], h => by cases h
theorem tab_app : ∀ (rs : List Addr) (ts : List Tg) (r : Addr) (t : Tg), rs.length = ts.length → tab (rs ++ [r]) (ts ++ [t]) = tab rs ts ++ [(.inl t.id, .ref r)]
  | [], [], _, _, _ => rfl
  | r :: rs, t :: ts, r', t', h => by
    show _ :: tab (rs ++ [r']) (ts ++ [t']) = _ :: (tab rs ts ++ [_])
    rw [tab_app rs ts r' t' (by simpa using h)]
  | [], _ :: _, _, _, h => by cases h
  | _ :: _, [], _, _, h => by cases h
theorem tab_no : ∀ (rs : List Addr) (ts : List Tg) (i : Int), (∀ t ∈ ts, t.id ≠ i) → valV (tab rs ts) (.inl i : Key) = none
  | [], _, _, _ => rfl
  | _ :: _, [], _, _ => rfl
  | r :: rs, t :: ts, i, h => by
    show valV ((Sum.inl t.id, V.ref r) :: tab rs ts) (.inl i : Key) = none
    rw [valV_neg (fun z => h t (List.mem_cons_self ..) (Sum.inl.inj z))]
    exact tab_no rs ts i fun t' ht => h t' (List.mem_cons_of_mem _ ht)
theorem tab_at : ∀ (rs : List Addr) (ts : List Tg) (j : Nat) (r : Addr) (t : Tg), (Tg.ids ts).Nodup → rs[j]? = some r → ts[j]? = some t → valV (tab rs ts) (.inl t.id : Key) = some (.ref r)
  | [], _, _, _, _, _, h, _ => by cases h
  | _ :: _, [], _, _, _, _, _, h => by cases h
  | r0 :: rs, t0 :: ts, 0, r, t, _, h1, h2 => by
    cases h1
    cases h2
    exact valV_pos (p := (Sum.inl t0.id, V.ref r0)) rfl
  | r0 :: rs, t0 :: ts, j + 1, r, t, hn, h1, h2 => by
    have hn' : t0.id ∉ Tg.ids ts ∧ (Tg.ids ts).Nodup := List.nodup_cons.mp hn
    have ht : t ∈ ts := List.mem_of_getElem? (by simpa using h2 : ts[j]? = some t)
    show valV ((Sum.inl t0.id, V.ref r0) :: tab rs ts) (.inl t.id : Key) = _
    rw [valV_neg (fun z => hn'.1 (by rw [Sum.inl.inj z]; exact List.mem_map_of_mem ht))]
    exact tab_at rs ts j r t hn'.2 (by simpa using h1) (by simpa using h2)
theorem Asc.nodup {ts : List Tg} {n : Int} (h : Asc ts n) : (Tg.ids ts).Nodup := by
  have h1 := (List.pairwise_append.mp h).1
  exact h1.imp fun h => Int.ne_of_lt h
theorem take_succ {α : Type} {l : List α} {i : Nat} {x : α} (h : l[i]? = some x) : l.take (i + 1) = l.take i ++ [x] := by
  obtain ⟨h1, h2⟩ := List.getElem?_eq_some_iff.mp h
  rw [← List.take_append_getElem h1, h2]
section
variable {P : Program} {w : World} {K : PySem.W.Frag} {mg : Str → Option Value} {base : Heap}
def spFill (K : PySem.W.Frag) (C : Addr) : Sp := fun vs H Q _ => ∃ (p aT dx : Addr) (W : Wd) (rs : List Addr) (fs : List (Str × V)), vs = [.ref p, .int W.t, .int W.n, .int W.l, .ref aT] ∧ H p = some (.ins C dx fs) ∧ FsOk fs ∧ SqT K H aT (rs.map V.ref) ∧ RsAt K H rs W.ts ∧ W.ts.length ≤ 12 ∧ Asc W.ts W.n ∧
  ∀ H' aO aD, Exd p H H' → WAt K C H' p W rs aT aO aD → Q .non H'
theorem ok_fill (T : Txt K mg w) : FnOk P w K mg base CX0 1 T.a_World__fill T.fd_World__fill ["self", "tick", "next_id", "luck", "things"] (spFill K T.C_World) := by
  refine T.F_World__fill.ok sc_World__fill (fun vs H Q E h => ?_) (fun cdv A outer s H vs Q E hr h => ?_)
  · obtain ⟨_, _, _, _, _, _, rfl, _⟩ := h; rfl
  · obtain ⟨p, aT, dx, W, rs, fs, rfl, hp, hf, hT, hR, hl, hA, q⟩ := h
    refine ⟨_, (pss_cons (ps_fld (pv 0) (pv 1) rfl)
  (pss_cons (ps_fld (pv 0) (pv 2) rfl)
  (pss_cons (ps_fld (pv 0) (pv 3) rfl)
  (pss_cons (ps_fld (pv 0) (pv 4) rfl)
  (pss_cons (ps_fld (pv 0) (pe_callTy c_tupL (by rfl) T.z_tuple (by decide +kernel) (pa_cons (pe_lc (own := [("thing", 5)]) (g := gName 5) (by rfl) sc_World__fill.nd (pi_tup (pv 4)) (blkOk_by (own := [("thing", 5)]) (N := ["self", "tick", "next_id", "luck", "things", "thing"]) (sc := defScope s_World__fill) (by decide +kernel)) (fun _ _ _ _ _ => pg_name (i := 5) sc_World__fill.nd rfl (by first | exact Or.inl rfl | exact Or.inr rfl)) (fun _ _ _ _ _ => pts_nil) (fun _ _ _ _ _ => (pe_ix (ix_tupK (K := K) rfl) (pv 5) pe_int (fun _ _ => rfl)))) pa_nil)) rfl)
  (pss_one (ps_fld (pv 0) (pe_dc (own := [("thing", 5)]) (g := gName 5) (by rfl) sc_World__fill.nd (pi_tup (pv 4)) (blkOk_by (own := [("thing", 5)]) (N := ["self", "tick", "next_id", "luck", "things", "thing"]) (sc := defScope s_World__fill) (by decide +kernel)) (fun _ _ _ _ _ => pg_name (i := 5) sc_World__fill.nd rfl (by first | exact Or.inl rfl | exact Or.inr rfl)) (fun _ _ _ _ _ => pts_nil) (fun _ _ _ _ _ => (pe_ix (ix_tupK (K := K) rfl) (pv 5) pe_int (fun _ _ => rfl))) (fun _ _ _ _ _ => (pv 5))) rfl))))))), ?_⟩
    have l0 := hf.len
    have cl := T.cl_World
    refine q_fld (ev_var rfl) (ev_var rfl) hp cl T.n_World_tick (by omega) fun H1 e1 => ?_
    have x1 := (Exd.of (p := p) e1).trans (Exd.upd (p := p) (o := .ins T.C_World dx (putF "tick" (.int W.t) fs)))
    have l1 := len_putF "tick" (.int W.t) fs
    generalize hg1 : putF "tick" (.int W.t) fs = f1 at *
    refine q_fld (ev_var rfl) (ev_var rfl) upd_same cl T.n_World_next_id (by omega) fun H2 e2 => ?_
    have x2 := (x1.trans (Exd.of e2)).trans (Exd.upd (p := p) (o := .ins T.C_World dx (putF "next_id" (.int W.n) f1)))
    have l2 := len_putF "next_id" (.int W.n) f1
    generalize hg2 : putF "next_id" (.int W.n) f1 = f2 at *
    refine q_fld (ev_var rfl) (ev_var rfl) upd_same cl T.n_World_luck (by omega) fun H3 e3 => ?_
    have x3 := (x2.trans (Exd.of e3)).trans (Exd.upd (p := p) (o := .ins T.C_World dx (putF "luck" (.int W.l) f2)))
    have l3 := len_putF "luck" (.int W.l) f2
    generalize hg3 : putF "luck" (.int W.l) f2 = f3 at *
    refine q_fld (ev_var rfl) (ev_var rfl) upd_same cl T.n_World_things (by omega) fun H4 e4 => ?_
    have x4 := (x3.trans (Exd.of e4)).trans (Exd.upd (p := p) (o := .ins T.C_World dx (putF "things" (.ref aT) f3)))
    have l4 := len_putF "things" (.ref aT) f3
    generalize hg4 : putF "things" (.ref aT) f3 = f4 at *
    have hT4 := x4.ti hp hT
    have hR4 := hR.ti x4 hp
    refine q_fldU (xs := (Tg.ids W.ts).map V.int) (eu_tupL (by
      have e : (Tg.ids W.ts).map V.int = (W.ts.filter fun _ => true).map (fun t => V.int t.id) := by
        rw [List.filter_eq_self.mpr (fun _ _ => rfl)]
        unfold Tg.ids
        rw [List.map_map]
        rfl
      rw [e]
      exact el_lcTs (fun _ => true) (fun _ t => V.int t.id) (fun t => V.int t.id) (ev_var rfl) hT4 hR4 (by omega) (fun _ => rfl) (fun r t H1 e1 _ _ => et_yes) fun r t H1 e1 hA _ _ => ev_tg0 (ev_var rfl) hA)) (fun _ => ev_var rfl) upd_same cl T.n_World_order (by omega) fun aO H5 _ e5 hO => ?_
    have x5 := (x4.trans (Exd.of e5)).trans (Exd.upd (p := p) (o := .ins T.C_World dx (putF "order" (.ref aO) f4)))
    have l5 := len_putF "order" (.ref aO) f4
    have hpO : aO ≠ p := fun z => by
      have := e5 _ _ (upd_same (H := H4) (a := p) (o := .ins T.C_World dx f4))
      rw [← z, hO] at this
      cases this
    have hO5 : (upd H5 p (.ins T.C_World dx (putF "order" (.ref aO) f4))) aO = some (.tup ((Tg.ids W.ts).map V.int)) := by rw [upd_ne hpO]; exact hO
    generalize hg5 : putF "order" (.ref aO) f4 = f5 at *
    have hT5 := x5.ti hp hT
    have hR5 := hR.ti x5 hp
    have hlen : (rs.map V.ref).length = W.ts.length := by rw [List.length_map, hR.1]
    refine s_fldK (kvs := tab rs W.ts) ?_ (fun _ => ev_var rfl) upd_same cl T.n_World_table (by omega) fun aD H6 _ e6 hD => ?_
    · have e : tab rs W.ts = (fun i => tab (rs.take i) (W.ts.take i)) (rs.map V.ref).length := by
        show _ = tab (rs.take (rs.map V.ref).length) (W.ts.take (rs.map V.ref).length)
        rw [hlen, List.take_of_length_le (by rw [hR.1]; exact Nat.le_refl _), List.take_of_length_le (Nat.le_refl _)]
      rw [e]
      refine ek_dcT (fun i => tab (rs.take i) (W.ts.take i)) rfl (ev_var rfl) hT5 (fun i hi => ?_) (fun _ => rfl) fun i x H7 e7 hx => ?_
      · rw [tab_len _ _ (by rw [List.length_take, List.length_take, hR.1]), List.length_take]
        omega
      · obtain ⟨r, t, rfl, h1, h2, hA7⟩ := hR5.at hx
        refine ⟨.inl t.id, .ref r, ev_tg0 (ev_var rfl) (hA7.ex e7), fun H8 _ => ev_var rfl, ?_⟩
        have e1 := take_succ h1
        have e2 := take_succ h2
        have nd := hA.nodup
        rw [putK_new, e1, e2, tab_app _ _ _ _ (by rw [List.length_take, List.length_take, hR.1])]
        refine tab_no _ _ _ fun t' ht' z => ?_
        have nd' : (Tg.ids (W.ts.take (i + 1))).Nodup := by
          have : (Tg.ids (W.ts.take (i + 1))).Sublist (Tg.ids W.ts) := (List.take_sublist _ _).map _
          exact this.nodup nd
        rw [e2] at nd'
        unfold Tg.ids at nd'
        rw [List.map_append] at nd'
        exact (List.nodup_append.mp nd').2.2 _ (List.mem_map_of_mem ht') _ (List.mem_singleton.mpr rfl) z
    · have x6 := (x5.trans (Exd.of e6)).trans (Exd.upd (p := p) (o := .ins T.C_World dx (putF "table" (.ref aD) f5)))
      have hpD : aD ≠ p := fun z => by
        have := e6 _ _ (upd_same (H := H5) (a := p) (o := .ins T.C_World dx f5))
        rw [← z, hD] at this
        cases this
      refine q _ aO aD x6 ⟨⟨dx, ?_⟩, x6.ti hp hT, hR.ti x6 hp, st_of ?_, by rw [upd_ne hpD]; exact hD⟩
      · rw [upd_same, ← hg5, ← hg4, ← hg3, ← hg2, ← hg1, fs_fin hf]
      · rw [upd_ne hpO]
        exact e6 _ _ hO5
end
end Kz
set_option Elab.async false
set_option linter.all false
set_option maxRecDepth 100000
set_option maxHeartbeats 4000000
set_option exponentiation.threshold 500
namespace Kz
open PySem PySem.Spec PyProof.Rows L2 Evl Vr
local macro_rules | `(tactic| walk_at "sc") => `(tactic| first | (with_reducible assumption) | (with_reducible exact sc_mul (by omega)) | (with_reducible exact sc_mulr (by omega)) | (with_reducible exact sc_div (by omega) (by decide)) | (show (0 : Int) < _; omega) | (show _ ≠ (0 : Int); omega) | (with_reducible rfl) | decide)
local macro_rules | `(tactic| walk_at "sq") => `(tactic| first | assumption | exact sq_of (by assumption) | exact st_of (by assumption))
local macro_rules | `(tactic| walk_at "pl") => `(tactic| first | assumption | exact pl_int | exact pl_bl | exact pl_str | exact pl_non | exact pl_lst (by assumption) | exact pl_tup (by assumption) | exact pl_dK (by assumption))
local macro_rules | `(tactic| walk_at "rv") => `(tactic| first
  | with_reducible exact rv_I0
  | with_reducible exact ru_neg
  | ((with_reducible apply rv_I); walk_at "sc")
  | ((with_reducible apply rv_ixL); walk_at "sq"; first | rfl | assumption)
  | ((with_reducible apply rv_ixT); walk_at "sq"; first | rfl | assumption)
  | ((with_reducible apply rv_eq); rfl) | ((with_reducible apply rv_ne); rfl))
local macro_rules | `(tactic| walk_at "rc") => `(tactic| first
  | with_reducible exact rc_I1 | with_reducible exact rc_B1 | with_reducible exact rc_I2 | ((with_reducible apply rc_repr); walk_at "sc") | ((with_reducible apply rc_lenL); walk_at "sq")
  | ((with_reducible apply rc_isiInt); walk_at "pl") | ((with_reducible apply rc_isiBool); walk_at "pl"))
local macro_rules | `(tactic| walk_at "ea") => `(tactic| first
  | with_reducible exact ea_nil | ((with_reducible apply ea_cons); walk_at "ev"; walk_at "ea"))
local macro_rules | `(tactic| walk_at "pow") => `(tactic| first
  | with_reducible exact ev_pow (a := 10) (b := 9) (c := 1000000000) (by decide +kernel) (by decide +kernel)
  | with_reducible exact ev_pow (a := 10) (b := 10) (c := 10000000000) (by decide +kernel) (by decide +kernel)
  | with_reducible exact ev_pow (a := 10) (b := 12) (c := 1000000000000) (by decide +kernel) (by decide +kernel)
  | with_reducible exact ev_pow (a := 10) (b := 17) (c := 100000000000000000) (by decide +kernel) (by decide +kernel)
  | with_reducible exact ev_pow (a := 10) (b := 20) (c := 100000000000000000000) (by decide +kernel) (by decide +kernel)
  | with_reducible exact ev_pow (a := 10) (b := 29) (c := 100000000000000000000000000000) (by decide +kernel) (by decide +kernel)
  | with_reducible exact ev_pow (a := 10) (b := 30) (c := 1000000000000000000000000000000) (by decide +kernel) (by decide +kernel)
  | with_reducible exact ev_pow (a := 10) (b := 40) (c := 10000000000000000000000000000000000000000) (by decide +kernel) (by decide +kernel)
  | with_reducible exact ev_pow (a := 10) (b := 57) (c := 1000000000000000000000000000000000000000000000000000000000) (by decide +kernel) (by decide +kernel)
  | with_reducible exact ev_pow (a := 10) (b := 58) (c := 10000000000000000000000000000000000000000000000000000000000) (by decide +kernel) (by decide +kernel)
  | with_reducible exact ev_pow (a := 10) (b := 59) (c := 100000000000000000000000000000000000000000000000000000000000) (by decide +kernel) (by decide +kernel)
  | with_reducible exact ev_pow (a := 10) (b := 60) (c := 1000000000000000000000000000000000000000000000000000000000000) (by decide +kernel) (by decide +kernel))
local macro_rules | `(tactic| walk_at "call") => `(tactic| (intro H9 e9; first | exact ⟨_, rfl, rfl⟩ | exact ⟨_, _, rfl, rfl⟩ | exact ⟨_, _, _, rfl, rfl⟩ | exact ⟨_, rfl, by walk_at "pl", rfl⟩ | (refine ⟨_, _, _, rfl, ?_, rfl⟩; first | exact Plain.ex e9 (by assumption) | walk_at "pl") | (refine ⟨_, rfl, ?_, rfl⟩; first | exact Plain.ex e9 (by assumption) | walk_at "pl")))
local macro_rules | `(tactic| walk_at "ev") => `(tactic| first
  | with_reducible exact ev_c
  | exact ev_var rfl
  | walk_at "pow"
  | ((with_reducible apply ev_op); walk_at "ev"; walk_at "ev"; walk_at "rv")
  | ((with_reducible apply ev_un); walk_at "ev"; walk_at "rv")
  | ((with_reducible apply ev_cb); walk_at "ea"; walk_at "rc")
  | ((with_reducible apply ev_callP); walk_at "ea"; walk_at "call")
  | ((with_reducible apply ev_chain); walk_at "ev"; walk_at "ev"; walk_at "rv"; walk_at "ev"; walk_at "rv")
  | ((with_reducible apply ev_andV); walk_at "ev"; intro _; walk_at "ev")
  | ((with_reducible apply ev_orV); walk_at "ev"; intro _; walk_at "ev")
  | ((with_reducible apply ev_ite); walk_at "et"; intro _; walk_at "ev"; intro _; walk_at "ev")
  | ((with_reducible apply ev_notV); walk_at "ev"))
local macro_rules | `(tactic| walk_at "et") => `(tactic| first
  | ((with_reducible apply et_test); walk_at "ev")
  | ((with_reducible apply et_B); walk_at "ev")
  | ((with_reducible apply et_and); walk_at "et"; intro _; walk_at "et")
  | ((with_reducible apply et_or); walk_at "et"; intro _; walk_at "et")
  | ((with_reducible apply et_not); walk_at "et"))
open En Wo
def W0 : Wd := ⟨0, 0, 0, []⟩
/-- a new world -/
def EvW (K : PySem.W.Frag) (C : Addr) (te : TE) (σ : L2.St) (H : Hp) (W : Wd) : Prop := ∀ H1, Ex H H1 → ∀ Q : VK, (∀ p H2, H1 p = none → Ex H1 H2 → WdAt K C H2 p W → Q (.ref p) H2) → te σ H1 Q
/-- promises of defs that answer with a new world -/
def Wnew (K : PySem.W.Frag) (C : Addr) (ok : List V → Hp → Wd → Prop) : Sp := fun vs H Q _ => ∃ W, ok vs H W ∧ ∀ p H', H p = none → Ex H H' → WdAt K C H' p W → Q (.ref p) H'
def spInit (K : PySem.W.Frag) (C : Addr) : Sp := fun vs H Q _ => ∃ (p aT dx : Addr) (W : Wd) (rs : List Addr), vs = [.ref p, .int W.t, .int W.n, .int W.l, .ref aT] ∧ H p = some (.ins C dx []) ∧ W.ok ∧ SqT K H aT (rs.map V.ref) ∧ RsAt K H rs W.ts ∧
  ∀ H' aO aD, Exd p H H' → WAt K C H' p W rs aT aO aD → Q .non H'
section
variable {σ : L2.St} {H : Hp} {te : TE} {ts : TA} {D : Ends} {K : PySem.W.Frag} {C : Addr} {tz : TS} {W : Wd} {E : XK}
theorem ew_make (h : EvAP ts σ H (fun vs H' => ∃ aT, vs = [.int W.t, .int W.n, .int W.l, .ref aT] ∧ TsAt K H' aT W.ts)) (ok : W.ok) : EvW K C (tMake C (spInit K C) [] E ts) σ H W := fun H1 e Q q => h H1 e _ fun vs H2 e2 ⟨aT, hv, rs, hT, hR⟩ x dx hx hdx hne => by
  have hn : (upd H2 dx (.own x)) x = none := by rw [upd_ne (Ne.symm hne)]; exact hx
  have eN : Ex H2 (upd (upd H2 dx (.own x)) x (.ins C dx [])) := (Ex.new hdx).trans (Ex.new hn)
  rw [List.append_nil, hv]
  exact ⟨x, aT, dx, W, rs, rfl, upd_same, ok, ex_t eN hT, hR.ex eN, fun H' aO aD xd hW => ⟨rfl, q x H' (fresh_back e2 hx) (xd.out (e2.trans eN) (fresh_back e2 hx)) ⟨rs, aT, aO, aD, hW⟩⟩⟩
theorem ew_call {ok : List V → Hp → Wd → Prop} {P : List V → Hp → Prop} (h : EvAP ts σ H P) (ho : ∀ vs H1, Ex H H1 → P vs H1 → ok vs H1 W) : EvW K C (tCall (Wnew K C ok) [] E ts) σ H W := fun H1 e Q q => h H1 e _ fun vs H2 e2 hp => by
  show Wnew K C ok (vs ++ []) H2 Q E
  rw [List.append_nil]
  exact ⟨W, ho vs H2 (e.trans e2) hp, fun p H3 hp e3 h3 => q p H3 (fresh_back e2 hp) (e2.trans e3) h3⟩
theorem ap_of {vs : List V} (h : EvA ts σ H vs) : EvAP ts σ H (fun us _ => us = vs) := fun H1 e Q q => h H1 e Q fun H2 e2 => q vs H2 e2 rfl
theorem q_asgW {i : Nat} (h : EvW K C te σ H W) (k : ∀ p H1, H p = none → Ex H H1 → WdAt K C H1 p W → tz D (σ.set i (some (.ref p))) H1) : tSeq (tAsg te (gName i)) tz D σ H := h H (Ex.refl H) _ fun p H1 hp e hW => k p H1 hp e hW
theorem s_retW (h : EvW K C te σ H W) (k : ∀ p H1, H p = none → Ex H H1 → WdAt K C H1 p W → D.rt (.ref p) H1) : tRet te D σ H := h H (Ex.refl H) _ fun p H1 hp e hW => k p H1 hp e hW
end
theorem w0_ok : W0.ok := ⟨⟨by decide, by decide⟩, ⟨by decide, by decide⟩, ⟨by decide, by decide⟩, ⟨by decide, fun _ h => by cases h⟩, List.pairwise_singleton ..⟩
def inW (W : Wd) : V → Bool
  | .int i => decide (i ∈ Tg.ids W.ts)
  | _ => false
theorem tab_some : ∀ (rs : List Addr) (ts : List Tg) (i : Int), rs.length = ts.length → (valV (tab rs ts) (.inl i : Key)).isSome = decide (i ∈ Tg.ids ts)
  | [], [], _, _ => rfl
  | [], _ :: _, _, h => by cases h
  | _ :: _, [], _, h => by cases h
  | r :: rs, t :: ts, i, h => by
    show (valV ((Sum.inl t.id, V.ref r) :: tab rs ts) (.inl i : Key)).isSome = decide (i ∈ t.id :: Tg.ids ts)
    by_cases e : t.id = i
    · rw [valV_pos (by rw [← e])]
      simp [e]
    · rw [valV_neg (fun z => e (Sum.inl.inj z)), tab_some rs ts i (by simpa using h)]
      simp [Ne.symm e]
section
variable {P : Program} {w : World} {K : PySem.W.Frag} {mg : Str → Option Value} {base : Heap}
theorem ok_init (T : Txt K mg w) : FnOk P w K mg base CX0 7 T.a_World___init__ T.fd_World___init__ ["self", "tick", "next_id", "luck", "things"] (spInit K T.C_World) := by
  have G_is_whole := ok_is_whole (P := P) (w := w) (base := base) T
  have G_is_luck := ok_is_luck (P := P) (w := w) (base := base) T
  have G_are_things := ok_are_things (P := P) (w := w) (base := base) T
  have G_are_in_sequence := ok_are_in_sequence (P := P) (w := w) (base := base) T
  have G_World__fill := ok_fill (P := P) (w := w) (base := base) T
  refine T.F_World___init__.ok sc_World___init__ (fun vs H Q E h => ?_) (fun cdv A outer s H vs Q E hr h => ?_)
  · obtain ⟨_, _, _, _, _, rfl, _⟩ := h; rfl
  · obtain ⟨p, aT, dx, W, rs, rfl, hp, ⟨k1, k2, ⟨k3, k4⟩, k5, k6⟩, hT, hR, q⟩ := h
    refine ⟨_, (pss_cons (ps_if (pt_not (PW.pt (pw_and (pt_val (pe_call G_is_whole (hr.mono (by decide)) (by rfl) T.g_is_whole T.F_is_whole.kp T.b_is_whole .nil pass0 (pa_cons (pv 1) pa_nil))) (pw_and (pt_val (pe_call G_is_whole (hr.mono (by decide)) (by rfl) T.g_is_whole T.F_is_whole.kp T.b_is_whole .nil pass0 (pa_cons (pv 2) pa_nil))) (pw_and (pt_val (pe_call G_is_luck (hr.mono (by decide)) (by rfl) T.g_is_luck T.F_is_luck.kp T.b_is_luck .nil pass0 (pa_cons (pv 3) pa_nil))) (pw_and1 (pt_val (pe_call G_are_things (hr.mono (by decide)) (by rfl) T.g_are_things T.F_are_things.kp T.b_are_things .nil pass0 (pa_cons (pv 4) pa_nil))))))))) (pss_one ps_never) pss_nil)
  (pss_cons (ps_if (pt_not (pt_val (pe_call G_are_in_sequence (hr.mono (by decide)) (by rfl) T.g_are_in_sequence T.F_are_in_sequence.kp T.b_are_in_sequence .nil pass0 (pa_cons (pv 4) (pa_cons (pv 2) pa_nil))))) (pss_one ps_never) pss_nil)
  (pss_one (ps_expr (pe_meth (pv 0) T.cl_World T.m_World__fill G_World__fill (hr.mono (by decide)) T.b_World__fill .nil pass0 (pa_cons (pv 1) (pa_cons (pv 2) (pa_cons (pv 3) (pa_cons (pv 4) pa_nil))))))))), ?_⟩
    refine q_when (b := false) (et_is (et_not (et_and (a := true) (b := true) (et_B (ev_callP (vs := [.int W.t]) (by walk_at "ea") fun H1 e1 => ⟨_, rfl, k1, rfl⟩)) fun _ => et_is (et_and (a := true) (b := true) (et_B (ev_callP (vs := [.int W.n]) (by walk_at "ea") fun H1 e1 => ⟨_, rfl, k2, rfl⟩)) fun _ => et_is (et_and (a := true) (b := true) (et_B (ev_callP (vs := [.int W.l]) (by walk_at "ea") fun H1 e1 => ⟨_, rfl, k3, k4, rfl⟩)) fun _ => et_B (ev_callP (vs := [.ref aT]) (by walk_at "ea") fun H1 e1 => ⟨aT, W.ts, rfl, ⟨rs, ex_t e1 hT, hR.ex e1⟩, k5, rfl⟩)) rfl) rfl)) rfl) (fun h => by cases h) fun _ H1 e1 => ?_
    refine q_when (b := false) (et_is (et_not (et_B (b := true) (ev_callP (vs := [.ref aT, .int W.n]) (by walk_at "ea") fun H2 e2 => ⟨aT, W.ts, W.n, rfl, ⟨rs, ex_t (e1.trans e2) hT, hR.ex (e1.trans e2)⟩, k5.1, k6, rfl⟩))) rfl) (fun h => by cases h) fun _ H2 e2 => ?_
    have e2 := e1.trans e2
    exact s_dropM (ev_var rfl) (e2 _ _ hp) rfl (fun H3 e3 => by walk_at "ea") fun H3 e3 => ⟨p, aT, dx, W, rs, [], rfl, (e2.trans e3) _ _ hp, .inl rfl, ex_t (e2.trans e3) hT, hR.ex (e2.trans e3), k5.1, k6, fun H4 aO aD x4 h4 => q H4 aO aD ((Exd.of (e2.trans e3)).trans x4) h4⟩
def kWorldOf (K : PySem.W.Frag) (vs : List V) (H : Hp) (W : Wd) : Prop := ∃ aT, vs = [.int W.t, .int W.n, .int W.l, .ref aT] ∧ TsAt K H aT W.ts ∧ W.ts.length ≤ 12 ∧ Asc W.ts W.n
theorem ok_world_of (T : Txt K mg w) : FnOk P w K mg base CX0 9 T.a_world_of T.fd_world_of ["tick", "next_id", "luck", "things"] (Wnew K T.C_World (kWorldOf K)) := by
  have G_World___init__ := ok_init (P := P) (w := w) (base := base) T
  have G_World__fill := ok_fill (P := P) (w := w) (base := base) T
  refine T.F_world_of.ok sc_world_of (fun vs H Q E h => ?_) (fun cdv A outer s H vs Q E hr h => ?_)
  · obtain ⟨_, ⟨_, rfl, _⟩, _⟩ := h; rfl
  · obtain ⟨W, ⟨aT, rfl, ⟨rs, hT, hR⟩, hl, hA⟩, q⟩ := h
    refine ⟨_, (pss_cons (ps_set (i := 4) sc_world_of.nd rfl (.inl rfl) (pe_make T.mk_World G_World___init__ (hr.mono (by decide)) (by rfl) T.g_World T.b_World___init__ .nil pass0 (pa_cons pe_int (pa_cons pe_int (pa_cons pe_int (pa_cons (pe_tup pa_nil) pa_nil))))))
  (pss_cons (ps_expr (pe_meth (pv 4) T.cl_World T.m_World__fill G_World__fill (hr.mono (by decide)) T.b_World__fill .nil pass0 (pa_cons (pv 0) (pa_cons (pv 1) (pa_cons (pv 2) (pa_cons (pv 3) pa_nil))))))
  (pss_one (ps_ret (pv 4))))), ?_⟩
    refine q_asgW (W := W0) (ew_make ((ap_cons ev_c (ap_cons ev_c (ap_cons ev_c (ap_consU (eu_tup ea_nil (by decide)) ap_nil)))).mono fun vs H1 ⟨_, h1, _, h2, _, h3, t, _, h4, ht, h5⟩ => ⟨t, by rw [h1, h2, h3, h4, h5]; rfl, [], st_of ht, rfl, fun i r t' h _ => by cases h⟩) w0_ok) fun p H1 hp e1 hW => ?_
    obtain ⟨_, _, _, _, ⟨dx, hob⟩, _, _, _, _⟩ := hW
    refine q_dropM (ev_var rfl) hob rfl (fun H3 e3 => by walk_at "ea") fun H3 e3 => ⟨p, aT, dx, W, rs, _, rfl, e3 _ _ hob, .inr ⟨W0, _, _, _, rfl⟩, ex_t (e1.trans e3) hT, hR.ex (e1.trans e3), hl, hA, fun H4 aO aD x4 h4 => ?_⟩
    exact s_ret (ev_var rfl) fun H5 e5 => q p H5 hp ((x4.out (e1.trans e3) hp).trans e5) ⟨rs, aT, aO, aD, h4.ex e5⟩
/-! ### the looks at a world -/
def kIn (K : PySem.W.Frag) (C : Addr) (vs : List V) (H : Hp) (z : V) : Prop := ∃ (p : Addr) (x : V) (W : Wd), vs = [.ref p, x] ∧ WdAt K C H p W ∧ Plain K H x ∧ z = .bl (inW W x)
theorem ok_contains (T : Txt K mg w) : FnOk P w K mg base CX0 1 T.a_World___contains__ T.fd_World___contains__ ["self", "value"] (Pure (kIn K T.C_World)) := by
  refine T.F_World___contains__.ok sc_World___contains__ (fun vs H Q E h => ?_) (fun cdv A outer s H vs Q E hr h => ?_)
  · obtain ⟨_, ⟨_, _, _, rfl, _⟩, _⟩ := h; rfl
  · obtain ⟨_, ⟨p, x, W, rfl, ⟨rs, aT, aO, aD, ⟨dx, hob⟩, hT, hR, hO, hD⟩, hx, rfl⟩, q⟩ := h
    refine ⟨_, (pss_one (ps_ret (pe_and (pe_callB call_isi (by rfl) T.z_isinstance (by decide +kernel) (pa_cons (pv 1) (pa_cons (pe_bltn (v := .ty "int") (by rfl) T.z_int (by decide +kernel) rfl) pa_nil))) (pe_and (pe_not (pe_callB call_isi (by rfl) T.z_isinstance (by decide +kernel) (pa_cons (pv 1) (pa_cons (pe_bltn (v := .ty "bool") (by rfl) T.z_bool (by decide +kernel) rfl) pa_nil)))) (pe_one (pe_cmp (pc_din (hu_of hr) (pv 1) (pe_fld (pv 0) rfl)) rfl)))))), ?_⟩
    refine s_ret (v := .bl (inW W x)) ?_ q
    have i1 : ∀ {H1 σ}, Ex H H1 → σ[1]? = some (some x) → Ev (tCB (rIsi K) (tCons (tVar 1) (tCons (tC (.ty "int")) tNil))) σ H1 (.bl (isIB x)) := fun e h => ev_cb (ea_cons (ev_var h) (ea_cons ev_c ea_nil)) (rc_isiInt (hx.ex e))
    have i2 : ∀ {H1 σ}, Ex H H1 → σ[1]? = some (some x) → Ev (tCB (rIsi K) (tCons (tVar 1) (tCons (tC (.ty "bool")) tNil))) σ H1 (.bl (isB x)) := fun e h => ev_cb (ea_cons (ev_var h) (ea_cons ev_c ea_nil)) (rc_isiBool (hx.ex e))
    cases x with
    | int i =>
      exact ev_is (ev_andV (a := true) (b := decide (i ∈ Tg.ids W.ts)) (i1 (Ex.refl H) rfl) fun _ => ev_is (ev_andV (a := true) (b := decide (i ∈ Tg.ids W.ts)) (ev_is (ev_notV (i2 (Ex.refl H) rfl)) rfl) fun _ => ev_is (ev_din (k := .inl i) (ev_var rfl) (ev_fld (ev_var rfl) hob T.cl_World T.n_World_table rfl) hD) (by rw [tab_some _ _ _ hR.1])) (by simp)) (by simp [inW])
    | bl b => exact ev_is (ev_andV (a := true) (b := false) (i1 (Ex.refl H) rfl) fun _ => ev_is (ev_andV (a := false) (b := false) (ev_is (ev_notV (i2 (Ex.refl H) rfl)) rfl) (fun h => by cases h)) rfl) rfl
    | non => exact ev_is (ev_andV (a := false) (b := false) (i1 (Ex.refl H) rfl) (fun h => by cases h)) rfl
    | str _ => exact ev_is (ev_andV (a := false) (b := false) (i1 (Ex.refl H) rfl) (fun h => by cases h)) rfl
    | byt _ => exact ev_is (ev_andV (a := false) (b := false) (i1 (Ex.refl H) rfl) (fun h => by cases h)) rfl
    | flt _ => exact ev_is (ev_andV (a := false) (b := false) (i1 (Ex.refl H) rfl) (fun h => by cases h)) rfl
    | ref _ => exact ev_is (ev_andV (a := false) (b := false) (i1 (Ex.refl H) rfl) (fun h => by cases h)) rfl
    | ty _ => exact ev_is (ev_andV (a := false) (b := false) (i1 (Ex.refl H) rfl) (fun h => by cases h)) rfl
def kLen (K : PySem.W.Frag) (C : Addr) (vs : List V) (H : Hp) (z : V) : Prop := ∃ (p : Addr) (W : Wd), vs = [.ref p] ∧ WdAt K C H p W ∧ z = .int W.ts.length
theorem ok_len (T : Txt K mg w) : FnOk P w K mg base CX0 1 T.a_World___len__ T.fd_World___len__ ["self"] (Pure (kLen K T.C_World)) := by
  refine T.F_World___len__.ok sc_World___len__ (fun vs H Q E h => ?_) (fun cdv A outer s H vs Q E hr h => ?_)
  · obtain ⟨_, ⟨_, _, rfl, _⟩, _⟩ := h; rfl
  · obtain ⟨_, ⟨p, W, rfl, ⟨rs, aT, aO, aD, ⟨dx, hob⟩, hT, hR, hO, hD⟩, rfl⟩, q⟩ := h
    refine ⟨_, (pss_one (ps_ret (pe_callB c_len (by rfl) T.z_len PySem.boot_len (pa_cons (pe_fld (pv 0) rfl) pa_nil)))), ?_⟩
    refine s_ret (v := .int W.ts.length) (ev_is (ev_cb (vs := [.ref aT]) (ea_cons (ev_fld (ev_var rfl) hob T.cl_World T.n_World_things rfl) ea_nil) (rc_lenT hT)) (by rw [List.length_map, hR.1])) q
end
end Kz
set_option Elab.async false
set_option linter.all false
set_option maxRecDepth 100000
set_option maxHeartbeats 4000000
set_option exponentiation.threshold 500
namespace Kz
open PySem PySem.Spec PyProof.Rows L2 Evl Vr
local macro_rules | `(tactic| walk_at "sc") => `(tactic| first | (with_reducible assumption) | (with_reducible exact sc_mul (by omega)) | (with_reducible exact sc_mulr (by omega)) | (with_reducible exact sc_div (by omega) (by decide)) | (show (0 : Int) < _; omega) | (show _ ≠ (0 : Int); omega) | (with_reducible rfl) | decide)
local macro_rules | `(tactic| walk_at "sq") => `(tactic| first | assumption | exact sq_of (by assumption) | exact st_of (by assumption))
local macro_rules | `(tactic| walk_at "pl") => `(tactic| first | assumption | exact pl_int | exact pl_bl | exact pl_str | exact pl_non | exact pl_lst (by assumption) | exact pl_tup (by assumption) | exact pl_dK (by assumption))
local macro_rules | `(tactic| walk_at "rv") => `(tactic| first
  | with_reducible exact rv_I0
  | with_reducible exact ru_neg
  | ((with_reducible apply rv_I); walk_at "sc")
  | ((with_reducible apply rv_ixL); walk_at "sq"; first | rfl | assumption)
  | ((with_reducible apply rv_ixT); walk_at "sq"; first | rfl | assumption)
  | ((with_reducible apply rv_eq); rfl) | ((with_reducible apply rv_ne); rfl))
local macro_rules | `(tactic| walk_at "rc") => `(tactic| first
  | with_reducible exact rc_I1 | with_reducible exact rc_B1 | with_reducible exact rc_I2 | ((with_reducible apply rc_repr); walk_at "sc") | ((with_reducible apply rc_lenL); walk_at "sq")
  | ((with_reducible apply rc_isiInt); walk_at "pl") | ((with_reducible apply rc_isiBool); walk_at "pl"))
local macro_rules | `(tactic| walk_at "ea") => `(tactic| first
  | with_reducible exact ea_nil | ((with_reducible apply ea_cons); walk_at "ev"; walk_at "ea"))
local macro_rules | `(tactic| walk_at "pow") => `(tactic| first
  | with_reducible exact ev_pow (a := 10) (b := 9) (c := 1000000000) (by decide +kernel) (by decide +kernel)
  | with_reducible exact ev_pow (a := 10) (b := 10) (c := 10000000000) (by decide +kernel) (by decide +kernel)
  | with_reducible exact ev_pow (a := 10) (b := 12) (c := 1000000000000) (by decide +kernel) (by decide +kernel)
  | with_reducible exact ev_pow (a := 10) (b := 17) (c := 100000000000000000) (by decide +kernel) (by decide +kernel)
  | with_reducible exact ev_pow (a := 10) (b := 20) (c := 100000000000000000000) (by decide +kernel) (by decide +kernel)
  | with_reducible exact ev_pow (a := 10) (b := 29) (c := 100000000000000000000000000000) (by decide +kernel) (by decide +kernel)
  | with_reducible exact ev_pow (a := 10) (b := 30) (c := 1000000000000000000000000000000) (by decide +kernel) (by decide +kernel)
  | with_reducible exact ev_pow (a := 10) (b := 40) (c := 10000000000000000000000000000000000000000) (by decide +kernel) (by decide +kernel)
  | with_reducible exact ev_pow (a := 10) (b := 57) (c := 1000000000000000000000000000000000000000000000000000000000) (by decide +kernel) (by decide +kernel)
  | with_reducible exact ev_pow (a := 10) (b := 58) (c := 10000000000000000000000000000000000000000000000000000000000) (by decide +kernel) (by decide +kernel)
  | with_reducible exact ev_pow (a := 10) (b := 59) (c := 100000000000000000000000000000000000000000000000000000000000) (by decide +kernel) (by decide +kernel)
  | with_reducible exact ev_pow (a := 10) (b := 60) (c := 1000000000000000000000000000000000000000000000000000000000000) (by decide +kernel) (by decide +kernel))
local macro_rules | `(tactic| walk_at "call") => `(tactic| (intro H9 e9; first | exact ⟨_, rfl, rfl⟩ | exact ⟨_, _, rfl, rfl⟩ | exact ⟨_, _, _, rfl, rfl⟩ | exact ⟨_, rfl, by walk_at "pl", rfl⟩ | (refine ⟨_, _, _, rfl, ?_, rfl⟩; first | exact Plain.ex e9 (by assumption) | walk_at "pl") | (refine ⟨_, rfl, ?_, rfl⟩; first | exact Plain.ex e9 (by assumption) | walk_at "pl")))
local macro_rules | `(tactic| walk_at "ev") => `(tactic| first
  | with_reducible exact ev_c
  | exact ev_var rfl
  | walk_at "pow"
  | ((with_reducible apply ev_op); walk_at "ev"; walk_at "ev"; walk_at "rv")
  | ((with_reducible apply ev_un); walk_at "ev"; walk_at "rv")
  | ((with_reducible apply ev_cb); walk_at "ea"; walk_at "rc")
  | ((with_reducible apply ev_callP); walk_at "ea"; walk_at "call")
  | ((with_reducible apply ev_chain); walk_at "ev"; walk_at "ev"; walk_at "rv"; walk_at "ev"; walk_at "rv")
  | ((with_reducible apply ev_andV); walk_at "ev"; intro _; walk_at "ev")
  | ((with_reducible apply ev_orV); walk_at "ev"; intro _; walk_at "ev")
  | ((with_reducible apply ev_ite); walk_at "et"; intro _; walk_at "ev"; intro _; walk_at "ev")
  | ((with_reducible apply ev_notV); walk_at "ev"))
local macro_rules | `(tactic| walk_at "et") => `(tactic| first
  | ((with_reducible apply et_test); walk_at "ev")
  | ((with_reducible apply et_B); walk_at "ev")
  | ((with_reducible apply et_and); walk_at "et"; intro _; walk_at "et")
  | ((with_reducible apply et_or); walk_at "et"; intro _; walk_at "et")
  | ((with_reducible apply et_not); walk_at "et"))
open En Wo
section
variable {P : Program} {w : World} {K : PySem.W.Frag} {mg : Str → Option Value} {base : Heap}
/-- what isinstance says of a world -/
theorem rc_isiW (T : Txt K mg w) {H : Hp} {p dx : Addr} {fs : List (Str × V)} (h : H p = some (.ins T.C_World dx fs)) : RC (rIsi K) [.ref p, .ref T.C_World] H (.bl true) := fun H1 e Q q =>
  ⟨.ref p, .ref T.C_World, .ref T.C_World, .ref T.C_World, true, rfl, .own _, .base (.ins (e _ _ h) T.cl_World T.ha_World T.hn_World T.ht_World T.hm_World), by unfold PySem.W.kitOne; simp, q H1 (Ex.refl H1)⟩
theorem in_world (T : Txt K mg w) {H : Hp} {p : Addr} {W : Wd} {i : Int} {E : XK} (h : WdAt K T.C_World H p W) (hi : i ∈ Tg.ids W.ts) : RV (rNiO T.C_World (Pure (kIn K T.C_World)) E) (.int i) (.ref p) H (.bl false) := by
  obtain ⟨rs, aT, aO, aD, ⟨dx, hob⟩, hT, hR, hO, hD⟩ := h
  have h1 := rv_niO (E := E) (x := .int i) (b := true) (ok := kIn K T.C_World) hob fun H1 e => ⟨p, .int i, W, rfl, ⟨rs, aT, aO, aD, ⟨dx, e _ _ hob⟩, ex_t e hT, hR.ex e, ex_t e hO, e _ _ hD⟩, pl_int, by simp [inW, hi]⟩
  exact h1
/-- the thing at the place j -/
structure ThAt (K : PySem.W.Frag) (C : Addr) (H : Hp) (p : Addr) (W : Wd) (t : Tg) (rn : Addr) : Prop where
  ex : ∃ (rs : List Addr) (aT aO aD : Addr) (j : Nat) (r : Addr), WAt K C H p W rs aT aO aD ∧ rs[j]? = some r ∧ W.ts[j]? = some t ∧ SqT K H r [.int t.id, .str t.kd, .ref rn] ∧ NsAt K H rn t.ns
theorem ThAt.mono {C p rn : Addr} {H H' : Hp} {W : Wd} {t : Tg} (e : Ex H H') (h : ThAt K C H p W t rn) : ThAt K C H' p W t rn := by
  obtain ⟨rs, aT, aO, aD, j, r, h1, h2, h3, h4, h5⟩ := h
  exact ⟨rs, aT, aO, aD, j, r, h1.ex e, h2, h3, ex_t e h4, ex_t e h5⟩
theorem WdAt.thing {C p : Addr} {H : Hp} {W : Wd} {t : Tg} (h : WdAt K C H p W) (ht : t ∈ W.ts) : ∃ rn, ThAt K C H p W t rn := by
  obtain ⟨rs, aT, aO, aD, hW⟩ := h
  obtain ⟨j, hj⟩ := List.getElem?_of_mem ht
  have hjl : j < rs.length := by have := (List.getElem?_eq_some_iff.mp hj).1; have := hW.ra.1; omega
  obtain ⟨rn, h1, h2⟩ := hW.ra.2 j rs[j] t (List.getElem?_eq_getElem hjl) hj
  exact ⟨rn, rs, aT, aO, aD, j, rs[j], hW, List.getElem?_eq_getElem hjl, hj, h1, h2⟩
theorem ThAt.mem {C p rn : Addr} {H : Hp} {W : Wd} {t : Tg} (h : ThAt K C H p W t rn) : t ∈ W.ts ∧ t.id ∈ Tg.ids W.ts := by
  obtain ⟨rs, aT, aO, aD, j, r, h1, h2, h3, h4, h5⟩ := h
  exact ⟨List.mem_of_getElem? h3, List.mem_map_of_mem (List.mem_of_getElem? h3)⟩
def kKind (K : PySem.W.Frag) (C : Addr) (vs : List V) (H : Hp) (z : V) : Prop := ∃ (p : Addr) (W : Wd) (t : Tg) (rn : Addr), vs = [.ref p, .int t.id] ∧ ThAt K C H p W t rn ∧ (Tg.ids W.ts).Nodup ∧ z = .str t.kd
theorem ok_kind_of (T : Txt K mg w) : FnOk P w K mg base CX0 2 T.a_World_kind_of T.fd_World_kind_of ["self", "thing"] (Pure (kKind K T.C_World)) := by
  have G_World___contains__ := ok_contains (P := P) (w := w) (base := base) T
  refine T.F_World_kind_of.ok sc_World_kind_of (fun vs H Q E h => ?_) (fun cdv A outer s H vs Q E hr h => ?_)
  · obtain ⟨_, ⟨_, _, _, _, rfl, _⟩, _⟩ := h; rfl
  · obtain ⟨_, ⟨p, W, t, rn, rfl, hA, nd, rfl⟩, q⟩ := h
    refine ⟨_, (pss_cons (ps_if (pt_cmpR (op_niO G_World___contains__ (hr.mono (by decide)) T.m_World___contains__ T.b_World___contains__ pass0) (pv 1) (pv 0) (by rfl)) (pss_one ps_never) pss_nil)
  (pss_one (ps_ret (pe_ix ix_tup (pe_dget (hu_of hr) (pe_fld (pv 0) rfl) (pv 1) (fun _ _ => rfl)) pe_int (fun _ _ => rfl))))), ?_⟩
    have hm := hA.mem.2
    obtain ⟨rs, aT, aO, aD, j, r, hW, h2, h3, h4, h5⟩ := hA
    refine q_when (b := false) (et_test (ev_op (ev_var rfl) (ev_var rfl) (in_world T ⟨rs, aT, aO, aD, hW⟩ hm))) (fun h => by cases h) (fun _ H1 e1 => ?_)
    obtain ⟨⟨dx, hob⟩, _, _, _, hD⟩ := hW.ex e1
    exact s_ret (v := .str t.kd) (ev_op (ev_dget (k := .inl t.id) (ev_fld (ev_var rfl) hob T.cl_World T.n_World_table rfl) (ev_var rfl) hD (tab_at _ _ j r t nd h2 h3)) ev_c (rv_ixT (ex_t e1 h4) rfl)) fun H2 e2 => q H2 (e1.trans e2)
def kNums (K : PySem.W.Frag) (C : Addr) (vs : List V) (H : Hp) (z : V) : Prop := ∃ (p : Addr) (W : Wd) (t : Tg) (rn : Addr), vs = [.ref p, .int t.id] ∧ ThAt K C H p W t rn ∧ (Tg.ids W.ts).Nodup ∧ z = .ref rn
theorem ok_numbers_of (T : Txt K mg w) : FnOk P w K mg base CX0 2 T.a_World_numbers T.fd_World_numbers ["self", "thing"] (Pure (kNums K T.C_World)) := by
  have G_World___contains__ := ok_contains (P := P) (w := w) (base := base) T
  refine T.F_World_numbers.ok sc_World_numbers (fun vs H Q E h => ?_) (fun cdv A outer s H vs Q E hr h => ?_)
  · obtain ⟨_, ⟨_, _, _, _, rfl, _⟩, _⟩ := h; rfl
  · obtain ⟨_, ⟨p, W, t, rn, rfl, hA, nd, rfl⟩, q⟩ := h
    refine ⟨_, (pss_cons (ps_if (pt_cmpR (op_niO G_World___contains__ (hr.mono (by decide)) T.m_World___contains__ T.b_World___contains__ pass0) (pv 1) (pv 0) (by rfl)) (pss_one ps_never) pss_nil)
  (pss_one (ps_ret (pe_ix ix_tup (pe_dget (hu_of hr) (pe_fld (pv 0) rfl) (pv 1) (fun _ _ => rfl)) pe_int (fun _ _ => rfl))))), ?_⟩
    have hm := hA.mem.2
    obtain ⟨rs, aT, aO, aD, j, r, hW, h2, h3, h4, h5⟩ := hA
    refine q_when (b := false) (et_test (ev_op (ev_var rfl) (ev_var rfl) (in_world T ⟨rs, aT, aO, aD, hW⟩ hm))) (fun h => by cases h) (fun _ H1 e1 => ?_)
    obtain ⟨⟨dx, hob⟩, _, _, _, hD⟩ := hW.ex e1
    exact s_ret (v := .ref rn) (ev_op (ev_dget (k := .inl t.id) (ev_fld (ev_var rfl) hob T.cl_World T.n_World_table rfl) (ev_var rfl) hD (tab_at _ _ j r t nd h2 h3)) ev_c (rv_ixT (ex_t e1 h4) rfl)) fun H2 e2 => q H2 (e1.trans e2)
end
end Kz
set_option Elab.async false
set_option linter.all false
set_option maxRecDepth 100000
set_option maxHeartbeats 4000000
set_option exponentiation.threshold 500
namespace Kz
open PySem PySem.Spec PyProof.Rows L2 Evl Vr
local macro_rules | `(tactic| walk_at "sc") => `(tactic| first | (with_reducible assumption) | (with_reducible exact sc_mul (by omega)) | (with_reducible exact sc_mulr (by omega)) | (with_reducible exact sc_div (by omega) (by decide)) | (show (0 : Int) < _; omega) | (show _ ≠ (0 : Int); omega) | (with_reducible rfl) | decide)
local macro_rules | `(tactic| walk_at "sq") => `(tactic| first | assumption | exact sq_of (by assumption) | exact st_of (by assumption))
local macro_rules | `(tactic| walk_at "pl") => `(tactic| first | assumption | exact pl_int | exact pl_bl | exact pl_str | exact pl_non | exact pl_lst (by assumption) | exact pl_tup (by assumption) | exact pl_dK (by assumption))
local macro_rules | `(tactic| walk_at "rv") => `(tactic| first
  | with_reducible exact rv_I0
  | with_reducible exact ru_neg
  | ((with_reducible apply rv_I); walk_at "sc")
  | ((with_reducible apply rv_ixL); walk_at "sq"; first | rfl | assumption)
  | ((with_reducible apply rv_ixT); walk_at "sq"; first | rfl | assumption)
  | ((with_reducible apply rv_eq); rfl) | ((with_reducible apply rv_ne); rfl))
local macro_rules | `(tactic| walk_at "rc") => `(tactic| first
  | with_reducible exact rc_I1 | with_reducible exact rc_B1 | with_reducible exact rc_I2 | ((with_reducible apply rc_repr); walk_at "sc") | ((with_reducible apply rc_lenL); walk_at "sq")
  | ((with_reducible apply rc_isiInt); walk_at "pl") | ((with_reducible apply rc_isiBool); walk_at "pl"))
local macro_rules | `(tactic| walk_at "ea") => `(tactic| first
  | with_reducible exact ea_nil | ((with_reducible apply ea_cons); walk_at "ev"; walk_at "ea"))
local macro_rules | `(tactic| walk_at "pow") => `(tactic| first
  | with_reducible exact ev_pow (a := 10) (b := 9) (c := 1000000000) (by decide +kernel) (by decide +kernel)
  | with_reducible exact ev_pow (a := 10) (b := 10) (c := 10000000000) (by decide +kernel) (by decide +kernel)
  | with_reducible exact ev_pow (a := 10) (b := 12) (c := 1000000000000) (by decide +kernel) (by decide +kernel)
  | with_reducible exact ev_pow (a := 10) (b := 17) (c := 100000000000000000) (by decide +kernel) (by decide +kernel)
  | with_reducible exact ev_pow (a := 10) (b := 20) (c := 100000000000000000000) (by decide +kernel) (by decide +kernel)
  | with_reducible exact ev_pow (a := 10) (b := 29) (c := 100000000000000000000000000000) (by decide +kernel) (by decide +kernel)
  | with_reducible exact ev_pow (a := 10) (b := 30) (c := 1000000000000000000000000000000) (by decide +kernel) (by decide +kernel)
  | with_reducible exact ev_pow (a := 10) (b := 40) (c := 10000000000000000000000000000000000000000) (by decide +kernel) (by decide +kernel)
  | with_reducible exact ev_pow (a := 10) (b := 57) (c := 1000000000000000000000000000000000000000000000000000000000) (by decide +kernel) (by decide +kernel)
  | with_reducible exact ev_pow (a := 10) (b := 58) (c := 10000000000000000000000000000000000000000000000000000000000) (by decide +kernel) (by decide +kernel)
  | with_reducible exact ev_pow (a := 10) (b := 59) (c := 100000000000000000000000000000000000000000000000000000000000) (by decide +kernel) (by decide +kernel)
  | with_reducible exact ev_pow (a := 10) (b := 60) (c := 1000000000000000000000000000000000000000000000000000000000000) (by decide +kernel) (by decide +kernel))
local macro_rules | `(tactic| walk_at "call") => `(tactic| (intro H9 e9; first | exact ⟨_, rfl, rfl⟩ | exact ⟨_, _, rfl, rfl⟩ | exact ⟨_, _, _, rfl, rfl⟩ | exact ⟨_, rfl, by walk_at "pl", rfl⟩ | (refine ⟨_, _, _, rfl, ?_, rfl⟩; first | exact Plain.ex e9 (by assumption) | walk_at "pl") | (refine ⟨_, rfl, ?_, rfl⟩; first | exact Plain.ex e9 (by assumption) | walk_at "pl")))
local macro_rules | `(tactic| walk_at "ev") => `(tactic| first
  | with_reducible exact ev_c
  | exact ev_var rfl
  | walk_at "pow"
  | ((with_reducible apply ev_op); walk_at "ev"; walk_at "ev"; walk_at "rv")
  | ((with_reducible apply ev_un); walk_at "ev"; walk_at "rv")
  | ((with_reducible apply ev_cb); walk_at "ea"; walk_at "rc")
  | ((with_reducible apply ev_callP); walk_at "ea"; walk_at "call")
  | ((with_reducible apply ev_chain); walk_at "ev"; walk_at "ev"; walk_at "rv"; walk_at "ev"; walk_at "rv")
  | ((with_reducible apply ev_andV); walk_at "ev"; intro _; walk_at "ev")
  | ((with_reducible apply ev_orV); walk_at "ev"; intro _; walk_at "ev")
  | ((with_reducible apply ev_ite); walk_at "et"; intro _; walk_at "ev"; intro _; walk_at "ev")
  | ((with_reducible apply ev_notV); walk_at "ev"))
local macro_rules | `(tactic| walk_at "et") => `(tactic| first
  | ((with_reducible apply et_test); walk_at "ev")
  | ((with_reducible apply et_B); walk_at "ev")
  | ((with_reducible apply et_and); walk_at "et"; intro _; walk_at "et")
  | ((with_reducible apply et_or); walk_at "et"; intro _; walk_at "et")
  | ((with_reducible apply et_not); walk_at "et"))
open En Wo
section
variable {P : Program} {w : World} {K : PySem.W.Frag} {mg : Str → Option Value} {base : Heap}
/-- what __iter__ answers -/
def spIter (K : PySem.W.Frag) (C : Addr) : Nat → Sp := fun n vs H Q _ => ∃ (p aO : Addr) (W : Wd), vs = [.ref p] ∧ (∃ rs aT aD, WAt K C H p W rs aT aO aD) ∧ ∀ it H', H it = none → n ≤ it → Ex H H' → H' it = some (TiO aO it 0) → Q (.ref it) H'
theorem ok_iter (T : Txt K mg w) : FnA P w K mg base 1 T.a_World___iter__ T.fd_World___iter__ ["self"] (spIter K T.C_World) := by
  refine T.F_World___iter__.okA sc_World___iter__ (fun n vs H Q E h => ?_) (fun cdv A outer s H vs Q E hr h => ?_)
  · obtain ⟨_, _, _, rfl, _⟩ := h; rfl
  · obtain ⟨p, aO, W, rfl, ⟨rs, aT, aD, ⟨dx, hob⟩, hT, hR, hO, hD⟩, q⟩ := h
    refine ⟨_, (pss_one (ps_ret (pe_callB c_iterA (by rfl) T.z_iter (by decide +kernel) (pa_cons (pe_fld (pv 0) rfl) pa_nil)))), ?_⟩
    have h0 : EvA (tCons (tFld K (tVar 0) "order") tNil) [some (.ref p)] H [.ref aO] := ea_cons (ev_fld (ev_var rfl) hob T.cl_World T.n_World_order rfl) ea_nil
    exact h0 H (Ex.refl H) (fun vs H1 => rIterA K s.heap.objs.size vs H1 Q) fun H1 e1 => ⟨aO, _, rfl, ex_t e1 hO, fun it hit hn => q it _ (fresh_back e1 hit) hn (e1.trans (Ex.new hit)) upd_same⟩
end
end Kz
set_option Elab.async false
set_option linter.all false
set_option maxRecDepth 100000
set_option maxHeartbeats 4000000
set_option exponentiation.threshold 500
namespace Kz
open PySem PySem.Spec PyProof.Rows L2 Evl Vr
local macro_rules | `(tactic| walk_at "sc") => `(tactic| first | (with_reducible assumption) | (with_reducible exact sc_mul (by omega)) | (with_reducible exact sc_mulr (by omega)) | (with_reducible exact sc_div (by omega) (by decide)) | (show (0 : Int) < _; omega) | (show _ ≠ (0 : Int); omega) | (with_reducible rfl) | decide)
local macro_rules | `(tactic| walk_at "sq") => `(tactic| first | assumption | exact sq_of (by assumption) | exact st_of (by assumption))
local macro_rules | `(tactic| walk_at "pl") => `(tactic| first | assumption | exact pl_int | exact pl_bl | exact pl_str | exact pl_non | exact pl_lst (by assumption) | exact pl_tup (by assumption) | exact pl_dK (by assumption))
local macro_rules | `(tactic| walk_at "rv") => `(tactic| first
  | with_reducible exact rv_I0
  | with_reducible exact ru_neg
  | ((with_reducible apply rv_I); walk_at "sc")
  | ((with_reducible apply rv_ixL); walk_at "sq"; first | rfl | assumption)
  | ((with_reducible apply rv_ixT); walk_at "sq"; first | rfl | assumption)
  | ((with_reducible apply rv_eq); rfl) | ((with_reducible apply rv_ne); rfl))
local macro_rules | `(tactic| walk_at "rc") => `(tactic| first
  | with_reducible exact rc_I1 | with_reducible exact rc_B1 | with_reducible exact rc_I2 | ((with_reducible apply rc_repr); walk_at "sc") | ((with_reducible apply rc_lenL); walk_at "sq")
  | ((with_reducible apply rc_isiInt); walk_at "pl") | ((with_reducible apply rc_isiBool); walk_at "pl"))
local macro_rules | `(tactic| walk_at "ea") => `(tactic| first
  | with_reducible exact ea_nil | ((with_reducible apply ea_cons); walk_at "ev"; walk_at "ea"))
local macro_rules | `(tactic| walk_at "pow") => `(tactic| first
  | with_reducible exact ev_pow (a := 10) (b := 9) (c := 1000000000) (by decide +kernel) (by decide +kernel)
  | with_reducible exact ev_pow (a := 10) (b := 10) (c := 10000000000) (by decide +kernel) (by decide +kernel)
  | with_reducible exact ev_pow (a := 10) (b := 12) (c := 1000000000000) (by decide +kernel) (by decide +kernel)
  | with_reducible exact ev_pow (a := 10) (b := 17) (c := 100000000000000000) (by decide +kernel) (by decide +kernel)
  | with_reducible exact ev_pow (a := 10) (b := 20) (c := 100000000000000000000) (by decide +kernel) (by decide +kernel)
  | with_reducible exact ev_pow (a := 10) (b := 29) (c := 100000000000000000000000000000) (by decide +kernel) (by decide +kernel)
  | with_reducible exact ev_pow (a := 10) (b := 30) (c := 1000000000000000000000000000000) (by decide +kernel) (by decide +kernel)
  | with_reducible exact ev_pow (a := 10) (b := 40) (c := 10000000000000000000000000000000000000000) (by decide +kernel) (by decide +kernel)
  | with_reducible exact ev_pow (a := 10) (b := 57) (c := 1000000000000000000000000000000000000000000000000000000000) (by decide +kernel) (by decide +kernel)
  | with_reducible exact ev_pow (a := 10) (b := 58) (c := 10000000000000000000000000000000000000000000000000000000000) (by decide +kernel) (by decide +kernel)
  | with_reducible exact ev_pow (a := 10) (b := 59) (c := 100000000000000000000000000000000000000000000000000000000000) (by decide +kernel) (by decide +kernel)
  | with_reducible exact ev_pow (a := 10) (b := 60) (c := 1000000000000000000000000000000000000000000000000000000000000) (by decide +kernel) (by decide +kernel))
local macro_rules | `(tactic| walk_at "call") => `(tactic| (intro H9 e9; first | exact ⟨_, rfl, rfl⟩ | exact ⟨_, _, rfl, rfl⟩ | exact ⟨_, _, _, rfl, rfl⟩ | exact ⟨_, rfl, by walk_at "pl", rfl⟩ | (refine ⟨_, _, _, rfl, ?_, rfl⟩; first | exact Plain.ex e9 (by assumption) | walk_at "pl") | (refine ⟨_, rfl, ?_, rfl⟩; first | exact Plain.ex e9 (by assumption) | walk_at "pl")))
local macro_rules | `(tactic| walk_at "ev") => `(tactic| first
  | with_reducible exact ev_c
  | exact ev_var rfl
  | walk_at "pow"
  | ((with_reducible apply ev_op); walk_at "ev"; walk_at "ev"; walk_at "rv")
  | ((with_reducible apply ev_un); walk_at "ev"; walk_at "rv")
  | ((with_reducible apply ev_cb); walk_at "ea"; walk_at "rc")
  | ((with_reducible apply ev_callP); walk_at "ea"; walk_at "call")
  | ((with_reducible apply ev_chain); walk_at "ev"; walk_at "ev"; walk_at "rv"; walk_at "ev"; walk_at "rv")
  | ((with_reducible apply ev_andV); walk_at "ev"; intro _; walk_at "ev")
  | ((with_reducible apply ev_orV); walk_at "ev"; intro _; walk_at "ev")
  | ((with_reducible apply ev_ite); walk_at "et"; intro _; walk_at "ev"; intro _; walk_at "ev")
  | ((with_reducible apply ev_notV); walk_at "ev"))
local macro_rules | `(tactic| walk_at "et") => `(tactic| first
  | ((with_reducible apply et_test); walk_at "ev")
  | ((with_reducible apply et_B); walk_at "ev")
  | ((with_reducible apply et_and); walk_at "et"; intro _; walk_at "et")
  | ((with_reducible apply et_or); walk_at "et"; intro _; walk_at "et")
  | ((with_reducible apply et_not); walk_at "et"))
open En Wo
/-! ### data of any kind -/
mutual
inductive Da (K : PySem.W.Frag) (H : Hp) : V → PyData → Prop
  | non : Da K H .non .none
  | bl (b : Bool) : Da K H (.bl b) (.bool b)
  | int (i : Int) : Da K H (.int i) (.int i)
  | str (x : Str) : Da K H (.str x) (.str x)
  | lst {a : Addr} {xs : List V} {ds : List PyData} : H a = some (.lst xs) → DaAll K H xs ds → Da K H (.ref a) (.list ds)
  | tup {a : Addr} {xs : List V} {ds : List PyData} : SqT K H a xs → DaAll K H xs ds → Da K H (.ref a) (.tuple ds)
  | dic {a : Addr} : H a = some (.dK []) → Da K H (.ref a) (.dict [])
inductive DaAll (K : PySem.W.Frag) (H : Hp) : List V → List PyData → Prop
  | nil : DaAll K H [] []
  | cons {v : V} {vs : List V} {d : PyData} {ds : List PyData} : Da K H v d → DaAll K H vs ds → DaAll K H (v :: vs) (d :: ds)
end
mutual
/-- data without dicts -/
def nd : PyData → Bool
  | .dict _ => false
  | .list ds => nds ds
  | .tuple ds => nds ds
  | _ => true
def nds : List PyData → Bool
  | [] => true
  | d :: ds => nd d && nds ds
end
def isTupD : PyData → Bool
  | .tuple _ => true
  | _ => false
section
variable {K : PySem.W.Frag} {H H' : Hp}
mutual
theorem da_ex (e : Ex H H') : ∀ (d : PyData) (x : V), Da K H x d → Da K H' x d
  | .none, _, h => by cases h; exact .non
  | .bool b, _, h => by cases h; exact .bl b
  | .int i, _, h => by cases h; exact .int i
  | .str x, _, h => by cases h; exact .str x
  | .list ds, _, h => by cases h with | lst h1 h2 => exact .lst (e _ _ h1) (daa_ex e ds _ h2)
  | .tuple ds, _, h => by cases h with | tup h1 h2 => exact .tup (ex_t e h1) (daa_ex e ds _ h2)
  | .dict _, _, h => by cases h with | dic h1 => exact .dic (e _ _ h1)
theorem daa_ex (e : Ex H H') : ∀ (ds : List PyData) (xs : List V), DaAll K H xs ds → DaAll K H' xs ds
  | [], _, h => by cases h; exact .nil
  | d :: ds, _, h => by cases h with | cons h1 h2 => exact .cons (da_ex e d _ h1) (daa_ex e ds _ h2)
end
mutual
theorem da_dp : ∀ (d : PyData) (x : V), nd d = true → Da K H x d → Dp K H x d
  | .none, _, _, h => by cases h; exact .non
  | .bool b, _, _, h => by cases h; exact .bl b
  | .int i, _, _, h => by cases h; exact .int i
  | .str x, _, _, h => by cases h; exact .str x
  | .list ds, _, n, h => by cases h with | lst h1 h2 => exact .lst (sq_of h1) (daa_dp ds _ n h2)
  | .tuple ds, _, n, h => by cases h with | tup h1 h2 => exact .tup h1 (daa_dp ds _ n h2)
  | .dict _, _, n, h => by cases n
theorem daa_dp : ∀ (ds : List PyData) (xs : List V), nds ds = true → DaAll K H xs ds → DpAll K H xs ds
  | [], _, _, h => by cases h; exact .nil
  | d :: ds, _, n, h => by
    have n : (nd d && nds ds) = true := n
    rw [Bool.and_eq_true] at n
    cases h with | cons h1 h2 => exact .cons (da_dp d _ n.1 h1) (daa_dp ds _ n.2 h2)
end
variable {v : V} {d : PyData}
theorem tyx_tup {a : Addr} {xs : List V} (h : SqT K H a xs) : TyX K H (.ref a) (.type "tuple") := by
  rcases h with h | ⟨o, its, n, h1, h2, _⟩
  · rcases h with h | ⟨d, h⟩
    · exact .base (.tup h)
    · exact .fTuple h
  · exact .kTuple h1 h2
theorem Da.pl (h : Da K H v d) : Plain K H v := by
  cases h with
  | non => exact pl_non
  | bl b => exact pl_bl
  | int i => exact pl_int
  | str x => exact pl_str
  | lst h _ => exact pl_lst h
  | tup h _ => exact ⟨_, tyx_tup h⟩
  | dic h => exact pl_dK h
theorem Da.isTup (h : Da K H v d) : RC (rIsi K) [v, .ty "tuple"] H (.bl (isTupD d)) := fun H1 e Q q => by
  have h0 := da_ex e _ _ h
  clear h
  cases h0 with
  | non => exact ⟨_, .ty "tuple", _, .type "tuple", false, rfl, .ty _, .base .non, kit_ty (r := false) (by decide +kernel), q H1 (Ex.refl H1)⟩
  | bl b => exact ⟨_, .ty "tuple", _, .type "tuple", false, rfl, .ty _, .base (.bl b), kit_ty (r := false) (by decide +kernel), q H1 (Ex.refl H1)⟩
  | int i => exact ⟨_, .ty "tuple", _, .type "tuple", false, rfl, .ty _, .base (.int i), kit_ty (r := false) (by decide +kernel), q H1 (Ex.refl H1)⟩
  | str x => exact ⟨_, .ty "tuple", _, .type "tuple", false, rfl, .ty _, .base (.str x), kit_ty (r := false) (by decide +kernel), q H1 (Ex.refl H1)⟩
  | lst h _ => exact ⟨_, .ty "tuple", _, .type "tuple", false, rfl, .ty _, .base (.lst h), kit_ty (r := false) (by decide +kernel), q H1 (Ex.refl H1)⟩
  | tup h _ => exact ⟨_, .ty "tuple", _, .type "tuple", true, rfl, .ty _, tyx_tup h, kit_ty (r := true) (by decide +kernel), q H1 (Ex.refl H1)⟩
  | dic h => exact ⟨_, .ty "tuple", _, .type "tuple", false, rfl, .ty _, .base (.dK h), kit_ty (r := false) (by decide +kernel), q H1 (Ex.refl H1)⟩
theorem DaAll.len : ∀ {xs : List V} {ds : List PyData}, DaAll K H xs ds → xs.length = ds.length
  | [], _, h => by cases h; rfl
  | _ :: _, _, h => by cases h with | cons _ h2 => rw [List.length_cons, List.length_cons, h2.len]
theorem DaAll.at : ∀ {xs : List V} {ds : List PyData}, DaAll K H xs ds → ∀ {i : Nat} {x : V}, xs[i]? = some x → ∃ d, ds[i]? = some d ∧ Da K H x d
  | [], _, _, i, x, hx => by cases hx
  | _ :: _, _, h, i, x, hx => by
    cases h with
    | cons h1 h2 =>
      cases i with
      | zero => cases hx; exact ⟨_, rfl, h1⟩
      | succ i => exact h2.at hx
end
section
variable {K : PySem.W.Frag} {H : Hp}
theorem DaAll.unc {x : V} {xs : List V} {ds : List PyData} (h : DaAll K H (x :: xs) ds) : ∃ d ds', ds = d :: ds' ∧ Da K H x d ∧ DaAll K H xs ds' := by
  cases h with
  | cons h1 h2 => exact ⟨_, _, rfl, h1, h2⟩
theorem DaAll.unn {ds : List PyData} (h : DaAll K H [] ds) : ds = [] := by cases h; rfl
end
theorem nt {a : Bool} (h : (!a) = true) : a = false := by cases a <;> first | rfl | cases h
theorem nf {a : Bool} (h : (!a) = false) : a = true := by cases a <;> first | rfl | cases h
theorem list4 {α : Type} {xs : List α} (h : xs.length = 4) : ∃ a b c d, xs = [a, b, c, d] := by
  match xs, h with
  | [a, b, c, d], _ => exact ⟨a, b, c, d, rfl⟩
theorem list5 {α : Type} {xs : List α} (h : xs.length = 5) : ∃ a b c d e, xs = [a, b, c, d, e] := by
  match xs, h with
  | [a, b, c, d, e], _ => exact ⟨a, b, c, d, e, rfl⟩
theorem list6 {α : Type} {xs : List α} (h : xs.length = 6) : ∃ a b c d e f, xs = [a, b, c, d, e, f] := by
  match xs, h with
  | [a, b, c, d, e, f], _ => exact ⟨a, b, c, d, e, f, rfl⟩
theorem list3 {α : Type} {xs : List α} (h : xs.length = 3) : ∃ a b c, xs = [a, b, c] := by
  match xs, h with
  | [a, b, c], _ => exact ⟨a, b, c, rfl⟩
/-! ### what is judged, of data -/
def isWholeV (v : V) : Bool := match v with
  | .int n => isIntV (.int n) && decide (0 ≤ n)
  | _ => false
def wholeD : PyData → Bool
  | .int n => isWholeV (.int n)
  | _ => false
def withinD (lo hi : Int) : PyData → Bool
  | .int n => isWithin lo hi (.int n)
  | _ => false
def tupD : PyData → List PyData
  | .tuple l => l
  | _ => []
def intD : PyData → Int
  | .int m => m
  | _ => 0
def isStrD : PyData → Bool
  | .str _ => true
  | _ => false
section
variable {K : PySem.W.Frag} {H : Hp} {v : V} {d : PyData}
theorem Da.whole (h : Da K H v d) : isWholeV v = wholeD d := by cases h <;> rfl
theorem Da.within {lo hi : Int} (h : Da K H v d) : isWithin lo hi v = withinD lo hi d := by cases h <;> rfl
theorem Da.tupE (h : Da K H v d) (ht : isTupD d = true) : ∃ r xs, v = .ref r ∧ SqT K H r xs ∧ DaAll K H xs (tupD d) := by
  cases h with
  | tup h1 h2 => exact ⟨_, _, rfl, h1, h2⟩
  | _ => cases ht
theorem Da.isStr (h : Da K H v d) : RC (rIsi K) [v, .ty "str"] H (.bl (isStrD d)) := fun H1 e Q q => by
  have h0 := da_ex e _ _ h
  clear h
  cases h0 with
  | non => exact ⟨_, .ty "str", _, .type "str", false, rfl, .ty _, .base .non, kit_ty (r := false) (by decide +kernel), q H1 (Ex.refl H1)⟩
  | bl b => exact ⟨_, .ty "str", _, .type "str", false, rfl, .ty _, .base (.bl b), kit_ty (r := false) (by decide +kernel), q H1 (Ex.refl H1)⟩
  | int i => exact ⟨_, .ty "str", _, .type "str", false, rfl, .ty _, .base (.int i), kit_ty (r := false) (by decide +kernel), q H1 (Ex.refl H1)⟩
  | str x => exact ⟨_, .ty "str", _, .type "str", true, rfl, .ty _, .base (.str x), kit_ty (r := true) (by decide +kernel), q H1 (Ex.refl H1)⟩
  | lst h _ => exact ⟨_, .ty "str", _, .type "str", false, rfl, .ty _, .base (.lst h), kit_ty (r := false) (by decide +kernel), q H1 (Ex.refl H1)⟩
  | tup h _ => exact ⟨_, .ty "str", _, .type "str", false, rfl, .ty _, tyx_tup h, kit_ty (r := false) (by decide +kernel), q H1 (Ex.refl H1)⟩
  | dic h => exact ⟨_, .ty "str", _, .type "str", false, rfl, .ty _, .base (.dK h), kit_ty (r := false) (by decide +kernel), q H1 (Ex.refl H1)⟩
variable {σ : L2.St} {tl te : TE} {p : Addr}
/-- all([.. for x in tuple]) of data -/
theorem ev_allD {xs : List V} {ds : List PyData} {j : Nat} {vs : List Nat} (g : PyData → Bool) (h : Ev tl σ H (.ref p)) (hT : SqT K H p xs) (hd : DaAll K H xs ds) (hz : xs.length ≤ 40000) (hw : ∀ x, wipe ((wipe σ vs).set j (some x)) vs = wipe σ vs)
    (he : ∀ (i : Nat) (x : V) (d : PyData) H1, Ex H H1 → xs[i]? = some x → ds[i]? = some d → Da K H1 x d → Ev te ((wipe σ vs).set j (some x)) H1 (.bl (g d))) : Ev (tCB (rAll K) (tCons (tLc (iTup K tl) (gName j) tYes te vs) tNil)) σ H (.bl (ds.all g)) := by
  have hl := hd.len
  have key : EvL (tLc (iTup K tl) (gName j) tYes te vs) σ H ((ds.map g).map V.bl) := by
    have e : given xs.length (fun _ => true) (fun i => V.bl (g (ds.getD i .none))) = (ds.map g).map V.bl := by
      rw [hl, given_yes_map ds .none (fun d => V.bl (g d)), List.map_map]
      rfl
    rw [← e]
    refine el_lcT (fun _ => true) _ h hT hz hw (fun i x H1 e1 hx => et_yes) fun i x H1 e1 hx _ => ?_
    obtain ⟨d, hdi, hda⟩ := hd.at hx
    have : ds.getD i .none = d := by rw [List.getD_eq_getElem?_getD, hdi]; rfl
    rw [this]
    exact he i x d H1 e1 hx hdi (da_ex e1 _ _ hda)
  refine ev_is (ev_allN key) ?_
  rw [List.all_map]
  rfl
end
section
variable {σ : L2.St} {H : Hp} {te tl : TE} {K : PySem.W.Frag} {tz : TS} {D : Ends} {p : Addr}
theorem q_asg5T {i1 i2 i3 i4 i5 : Nat} {v1 v2 v3 v4 v5 : V} (h : Ev te σ H (.ref p)) (hT : SqT K H p [v1, v2, v3, v4, v5]) (k : ∀ H1, Ex H H1 → tz D (((((σ.set i1 (some v1)).set i2 (some v2)).set i3 (some v3)).set i4 (some v4)).set i5 (some v5)) H1) : tSeq (tAsg te (gTup K 5 (gCons (gName i1) (gCons (gName i2) (gCons (gName i3) (gCons (gName i4) (gCons (gName i5) gNil))))))) tz D σ H :=
  h H (Ex.refl H) _ fun H1 e1 => ⟨p, _, rfl, ex_t e1 hT, rfl, _, _, rfl, _, _, rfl, _, _, rfl, _, _, rfl, _, _, rfl, rfl, k H1 e1⟩
theorem q_asg6T {i1 i2 i3 i4 i5 i6 : Nat} {v1 v2 v3 v4 v5 v6 : V} (h : Ev te σ H (.ref p)) (hT : SqT K H p [v1, v2, v3, v4, v5, v6]) (k : ∀ H1, Ex H H1 → tz D ((((((σ.set i1 (some v1)).set i2 (some v2)).set i3 (some v3)).set i4 (some v4)).set i5 (some v5)).set i6 (some v6)) H1) : tSeq (tAsg te (gTup K 6 (gCons (gName i1) (gCons (gName i2) (gCons (gName i3) (gCons (gName i4) (gCons (gName i5) (gCons (gName i6) gNil)))))))) tz D σ H :=
  h H (Ex.refl H) _ fun H1 e1 => ⟨p, _, rfl, ex_t e1 hT, rfl, _, _, rfl, _, _, rfl, _, _, rfl, _, _, rfl, _, _, rfl, _, _, rfl, rfl, k H1 e1⟩
end
theorem dec_len {n k : Nat} : (!decide (V.int (n : Int) = V.int (k : Int))) = !decide (n = k) := by
  by_cases h : n = k
  · subst h; simp
  · rw [decide_eq_false h, decide_eq_false]
    exact fun y => h (Int.ofNat.inj (V.int.inj y))
/-- no text and no row in it is long -/
def smL : PyData → Bool
  | .str z => decide (z.length ≤ 1000)
  | _ => true
mutual
def sm : PyData → Bool
  | .str z => decide (z.length ≤ 1000)
  | .list ds => decide (ds.length ≤ 1000) && sms ds
  | .tuple ds => decide (ds.length ≤ 1000) && sms ds
  | _ => true
def sms : List PyData → Bool
  | [] => true
  | d :: ds => sm d && sms ds
end
theorem sms_mem : ∀ {ds : List PyData} {d : PyData}, sms ds = true → d ∈ ds → sm d = true
  | x :: ds, d, h, hd => by
    have h : (sm x && sms ds) = true := h
    rw [Bool.and_eq_true] at h
    rcases List.mem_cons.mp hd with rfl | hd
    · exact h.1
    · exact sms_mem h.2 hd
theorem sm_tup {ds : List PyData} (h : sm (.tuple ds) = true) : ds.length ≤ 1000 ∧ ∀ d ∈ ds, sm d = true := by
  have h : (decide (ds.length ≤ 1000) && sms ds) = true := h
  rw [Bool.and_eq_true, decide_eq_true_eq] at h
  exact ⟨h.1, fun d hd => sms_mem h.2 hd⟩
theorem sm_tupD {d : PyData} (h : sm d = true) : (tupD d).length ≤ 1000 ∧ ∀ x ∈ tupD d, sm x = true := by
  cases d with
  | tuple ds => exact sm_tup h
  | _ => exact ⟨Nat.zero_le _, fun x hx => by cases hx⟩
def nameD : PyData → Bool
  | .str z => (decide (1 ≤ z.length) && decide (z.length ≤ 8)) && (Txt.isascii z && (Txt.isalpha z && Txt.islower z))
  | _ => false
def numsD (d : PyData) : Bool := isTupD d && ((decide (1 ≤ (tupD d).length) && decide ((tupD d).length ≤ 8)) && (tupD d).all (withinD (-1000000000) 1000000000))
def atD (d : PyData) (i : Nat) : PyData := (tupD d).getD i .none
def thingD (d : PyData) : Bool := isTupD d && (decide ((tupD d).length = 3) && (wholeD (atD d 0) && (nameD (atD d 1) && numsD (atD d 2))))
def chgD (d : PyData) : Bool := isTupD d && (decide ((tupD d).length = 3) && (wholeD (atD d 0) && (withinD 0 7 (atD d 1) && withinD (-1000000000) 1000000000 (atD d 2))))
section
variable {P : Program} {w : World} {K : PySem.W.Frag} {mg : Str → Option Value} {base : Heap}
def kIsWholeV (K : PySem.W.Frag) (vs : List V) (H : Hp) (z : V) : Prop := ∃ x, vs = [x] ∧ Plain K H x ∧ z = .bl (isWholeV x)
theorem ok_is_wholeX (T : Txt K mg w) : FnOk P w K mg base CX0 2 T.a_is_whole T.fd_is_whole ["value"] (Pure (kIsWholeV K)) := by
  have G_is_integer := ok_is_integer (P := P) (w := w) (base := base) T
  refine T.F_is_whole.ok sc_is_whole (fun vs H Q E h => ?_) (fun cdv A outer s H vs Q E hr h => ?_)
  · obtain ⟨_, ⟨_, rfl, _⟩, _⟩ := h; rfl
  · obtain ⟨_, ⟨x, rfl, hp, rfl⟩, q⟩ := h
    refine ⟨_, (pss_one (ps_ret (pe_and (pe_call G_is_integer (hr.mono (by decide)) (by rfl) T.g_is_integer T.F_is_integer.kp T.b_is_integer .nil pass0 (pa_cons (pv 0) pa_nil)) (pe_one (pe_cmpR op_ge (pv 0) pe_int (nomark _)))))), ?_⟩
    refine s_ret (v := .bl (isWholeV x)) ?_ q
    cases x with
    | int n => apply ev_is; walk_at "ev"; rfl
    | bl b => exact ev_andV (a := false) (b := false) (by apply ev_is; walk_at "ev"; rfl) (fun h => by cases h)
    | non => exact ev_andV (a := false) (b := false) (by apply ev_is; walk_at "ev"; rfl) (fun h => by cases h)
    | str _ => exact ev_andV (a := false) (b := false) (by apply ev_is; walk_at "ev"; rfl) (fun h => by cases h)
    | byt _ => exact ev_andV (a := false) (b := false) (by apply ev_is; walk_at "ev"; rfl) (fun h => by cases h)
    | flt _ => exact ev_andV (a := false) (b := false) (by apply ev_is; walk_at "ev"; rfl) (fun h => by cases h)
    | ref _ => exact ev_andV (a := false) (b := false) (by apply ev_is; walk_at "ev"; rfl) (fun h => by cases h)
    | ty _ => exact ev_andV (a := false) (b := false) (by apply ev_is; walk_at "ev"; rfl) (fun h => by cases h)
def kWi (lo hi : Int) (K : PySem.W.Frag) (vs : List V) (H : Hp) (z : V) : Prop := ∃ x, vs = [x] ∧ Plain K H x ∧ z = .bl (isWithin lo hi x)
theorem ok_is_luckX (T : Txt K mg w) : FnOk P w K mg base CX0 3 T.a_is_luck T.fd_is_luck ["value"] (Pure (kWi 0 (999999937 - 1) K)) := by
  have G_is_within := ok_is_within (P := P) (w := w) (base := base) T
  refine T.F_is_luck.ok sc_is_luck (fun vs H Q E h => ?_) (fun cdv A outer s H vs Q E hr h => ?_)
  · obtain ⟨_, ⟨_, rfl, _⟩, _⟩ := h; rfl
  · obtain ⟨_, ⟨x, rfl, hp, rfl⟩, q⟩ := h
    refine ⟨_, (pss_one (ps_ret (pe_call G_is_within (hr.mono (by decide)) (by rfl) T.g_is_within T.F_is_within.kp T.b_is_within .nil pass0 (pa_cons (pv 0) (pa_cons pe_int (pa_cons (pe_op op_sub (pe_glob (v := .int (999999937)) rfl T.g_MODULUS ⟨_, rfl⟩) pe_int) pa_nil)))))), ?_⟩
    exact s_ret (ev_callP (vs := [x, .int 0, .int (999999937 - 1)]) (by walk_at "ea") fun H1 e1 => ⟨x, 0, _, rfl, hp.ex e1, rfl⟩) q
theorem ok_is_numberX (T : Txt K mg w) : FnOk P w K mg base CX0 3 T.a_is_number T.fd_is_number ["value"] (Pure (kWi (-1000000000) 1000000000 K)) := by
  have G_is_within := ok_is_within (P := P) (w := w) (base := base) T
  refine T.F_is_number.ok sc_is_number (fun vs H Q E h => ?_) (fun cdv A outer s H vs Q E hr h => ?_)
  · obtain ⟨_, ⟨_, rfl, _⟩, _⟩ := h; rfl
  · obtain ⟨_, ⟨x, rfl, hp, rfl⟩, q⟩ := h
    refine ⟨_, (pss_one (ps_ret (pe_call G_is_within (hr.mono (by decide)) (by rfl) T.g_is_within T.F_is_within.kp T.b_is_within .nil pass0 (pa_cons (pv 0) (pa_cons (pe_un un_neg (pe_glob (v := .int (1000000000)) rfl T.g_MOST ⟨_, rfl⟩)) (pa_cons (pe_glob (v := .int (1000000000)) rfl T.g_MOST ⟨_, rfl⟩) pa_nil)))))), ?_⟩
    exact s_ret (ev_callP (vs := [x, .int (-1000000000), .int 1000000000]) (by walk_at "ea") fun H1 e1 => ⟨x, _, _, rfl, hp.ex e1, rfl⟩) q
/-- a judge of data -/
def kJ (K : PySem.W.Frag) (f : PyData → Bool) (vs : List V) (H : Hp) (z : V) : Prop := ∃ (x : V) (d : PyData), vs = [x] ∧ Da K H x d ∧ sm d = true ∧ z = .bl (f d)
theorem kj_of {f : PyData → Bool} {x : V} {d : PyData} {H H1 : Hp} {b : Bool} (e : Ex H H1) (h : Da K H x d) (hs : sm d = true) (hb : f d = b) : kJ K f [x] H1 (.bl b) := ⟨x, d, rfl, da_ex e _ _ h, hs, by rw [hb]⟩
theorem ok_is_nameX (T : Txt K mg w) : FnOk P w K mg base CX0 1 T.a_is_name T.fd_is_name ["value"] (Pure (kJ K nameD)) := by
  refine T.F_is_name.ok sc_is_name (fun vs H Q E h => ?_) (fun cdv A outer s H vs Q E hr h => ?_)
  · obtain ⟨_, ⟨_, _, rfl, _⟩, _⟩ := h; rfl
  · obtain ⟨_, ⟨x, d, rfl, hd, hs, rfl⟩, q⟩ := h
    refine ⟨_, (pss_cons (ps_if (PW.pt (pw_or (pt_not (pt_val (pe_callB call_isi (by rfl) T.z_isinstance (by decide +kernel) (pa_cons (pv 0) (pa_cons (pe_bltn (v := .ty "str") (by rfl) T.z_str (by decide +kernel) rfl) pa_nil))))) (pw_or1 (pt_not (pt_chain op_le op_le pe_int (pe_callB call_len_str (by rfl) T.z_len PySem.boot_len (pa_cons (pv 0) pa_nil)) pe_int))))) (pss_one (ps_ret pe_bl)) pss_nil)
  (pss_one (ps_ret (pe_and (pe_m0 PySem.F.slot_str_isascii PySem.F.type_str_isascii mt_isascii (pv 0)) (pe_and (pe_m0 PySem.F.slot_str_isalpha PySem.F.type_str_isalpha mt_isalpha (pv 0)) (pe_one (pe_m0 PySem.F.slot_str_islower PySem.F.type_str_islower mt_islower (pv 0)))))))), ?_⟩
    cases hT : isStrD d with
    | false =>
      refine q_when (b := true) (et_is (et_or (a := true) (b := true) (et_is (et_not (et_B (ev_cb (vs := [x, .ty "str"]) (by walk_at "ea") hd.isStr))) (by rw [hT]; rfl)) (fun h => by cases h)) rfl) (fun _ H1 e1 => ?_) (fun h => by cases h)
      refine s_ret (v := .bl false) ev_c fun H2 e2 => ?_
      have z : nameD d = false := by cases d <;> first | rfl | cases hT
      rw [z] at q
      exact q H2 (e1.trans e2)
    | true =>
      cases hd with
      | str z =>
        have hs : z.length ≤ 1000 := of_decide_eq_true hs
        refine q_when (b := !(decide (1 ≤ z.length) && decide (z.length ≤ 8))) (et_is (et_or (a := false) (b := !(decide (1 ≤ z.length) && decide (z.length ≤ 8))) (et_is (et_not (et_B (ev_cb (vs := [.str z, .ty "str"]) (by walk_at "ea") isi_str))) rfl) fun _ => et_is (et_not (et_test (ev_chain ev_c (ev_cb (vs := [.str z]) (by walk_at "ea") (rc_lenS (by omega))) rv_I0 ev_c rv_I0))) (by
          refine congrArg (!·) (congr (congrArg _ ?_) ?_) <;> (rw [decide_eq_decide]; omega))) rfl) (fun hb H1 e1 => ?_) fun hb H1 e1 => ?_
        · refine s_ret (v := .bl false) ev_c fun H2 e2 => ?_
          have e : nameD (.str z) = false := by
            show ((decide (1 ≤ z.length) && decide (z.length ≤ 8)) && _) = false
            rw [nt hb]
            rfl
          rw [e] at q
          exact q H2 (e1.trans e2)
        · have e : nameD (.str z) = (Txt.isascii z && (Txt.isalpha z && Txt.islower z)) := by
            show ((decide (1 ≤ z.length) && decide (z.length ≤ 8)) && _) = _
            rw [nf hb]
            rfl
          rw [e] at q
          exact s_ret (ev_andV (ev_strM (ev_var rfl)) fun _ => ev_andV (ev_strM (ev_var rfl)) fun _ => ev_strM (ev_var rfl)) fun H2 e2 => q H2 (e1.trans e2)
      | _ => cases hT
theorem ok_are_numbersX (T : Txt K mg w) : FnOk P w K mg base CX0 4 T.a_are_numbers T.fd_are_numbers ["value"] (Pure (kJ K numsD)) := by
  have G_is_number := ok_is_numberX (P := P) (w := w) (base := base) T
  refine T.F_are_numbers.ok sc_are_numbers (fun vs H Q E h => ?_) (fun cdv A outer s H vs Q E hr h => ?_)
  · obtain ⟨_, ⟨_, _, rfl, _⟩, _⟩ := h; rfl
  · obtain ⟨_, ⟨v, d, rfl, hd, hs, rfl⟩, q⟩ := h
    refine ⟨_, (pss_cons (ps_if (PW.pt (pw_or (pt_not (pt_val (pe_callB call_isi (by rfl) T.z_isinstance (by decide +kernel) (pa_cons (pv 0) (pa_cons (pe_bltn (v := .ty "tuple") (by rfl) T.z_tuple (by decide +kernel) rfl) pa_nil))))) (pw_or1 (pt_not (pt_chain op_le op_le pe_int (pe_callB c_len (by rfl) T.z_len PySem.boot_len (pa_cons (pv 0) pa_nil)) (pe_glob (v := .int (8)) rfl T.g_MAX_FIELDS ⟨_, rfl⟩)))))) (pss_one (ps_ret pe_bl)) pss_nil)
  (pss_one (ps_ret (pe_callB (cr_all rfl) (by rfl) T.z_all (by decide +kernel) (pa_cons (pe_lc (own := [("number", 1)]) (g := gName 1) (by rfl) sc_are_numbers.nd (pi_tup (pv 0)) (blkOk_by (own := [("number", 1)]) (N := ["value", "number"]) (sc := defScope s_are_numbers) (by decide +kernel)) (fun _ _ _ _ _ => pg_name (i := 1) sc_are_numbers.nd rfl (by first | exact Or.inl rfl | exact Or.inr rfl)) (fun _ _ _ _ _ => pts_nil) (fun _ _ _ _ _ => (pe_call G_is_number (hr.mono (by decide)) (by rfl) T.g_is_number T.F_is_number.kp T.b_is_number .nil pass0 (pa_cons (pv 1) pa_nil)))) pa_nil))))), ?_⟩
    cases hT : isTupD d with
    | false =>
      refine q_when (b := true) (et_is (et_or (a := true) (b := true) (et_is (et_not (et_B (ev_cb (vs := [v, .ty "tuple"]) (by walk_at "ea") hd.isTup))) (by rw [hT]; rfl)) (fun h => by cases h)) rfl) (fun _ H1 e1 => ?_) (fun h => by cases h)
      refine s_ret (v := .bl false) ev_c fun H2 e2 => ?_
      have z : numsD d = false := by unfold numsD; rw [hT]; rfl
      rw [z] at q
      exact q H2 (e1.trans e2)
    | true =>
      obtain ⟨r, xs, rfl, hX, hD⟩ := hd.tupE hT
      have hlen := hD.len
      refine q_when (b := !(decide (1 ≤ (tupD d).length) && decide ((tupD d).length ≤ 8))) (et_is (et_or (a := false) (b := !(decide (1 ≤ (tupD d).length) && decide ((tupD d).length ≤ 8))) (et_is (et_not (et_B (ev_cb (vs := [.ref r, .ty "tuple"]) (by walk_at "ea") hd.isTup))) (by rw [hT]; rfl)) fun _ => et_is (et_not (et_test (ev_chain ev_c (ev_cb (vs := [.ref r]) (by walk_at "ea") (rc_lenT hX)) rv_I0 ev_c rv_I0))) (by
        rw [hlen]
        refine congrArg (!·) (congr (congrArg _ ?_) ?_) <;> (rw [decide_eq_decide]; omega))) rfl) (fun hb H1 e1 => ?_) fun hb H1 e1 => ?_
      · refine s_ret (v := .bl false) ev_c fun H2 e2 => ?_
        have z : numsD d = false := by unfold numsD; rw [hT, nt hb]; rfl
        rw [z] at q
        exact q H2 (e1.trans e2)
      · have hb := nf hb
        have hb2 := hb
        simp only [Bool.and_eq_true, decide_eq_true_eq] at hb2
        have e : numsD d = (tupD d).all (withinD (-1000000000) 1000000000) := by unfold numsD; rw [hT, hb]; rfl
        rw [e] at q
        refine s_ret (ev_allD (withinD (-1000000000) 1000000000) (ev_var rfl) (ex_t e1 hX) (daa_ex e1 _ _ hD) (by omega) (fun _ => rfl) fun i x d' H2 e2 hx hd' hda => ?_) fun H2 e2 => q H2 (e1.trans e2)
        exact ev_callP (vs := [x]) (by walk_at "ea") fun H3 e3 => ⟨x, rfl, (da_ex e3 _ _ hda).pl, by rw [hda.within]⟩
theorem DaAll.three {H : Hp} {xs : List V} {ds : List PyData} (h : DaAll K H xs ds) (hl : ds.length = 3) : ∃ x0 x1 x2 d0 d1 d2, xs = [x0, x1, x2] ∧ ds = [d0, d1, d2] ∧ Da K H x0 d0 ∧ Da K H x1 d1 ∧ Da K H x2 d2 := by
  obtain ⟨d0, d1, d2, rfl⟩ := list3 hl
  have hl2 := h.len
  obtain ⟨x0, x1, x2, rfl⟩ := list3 (hl2.trans rfl)
  obtain ⟨_, _, e0, h0, h⟩ := h.unc
  cases e0
  obtain ⟨_, _, e1, h1, h⟩ := h.unc
  cases e1
  obtain ⟨_, _, e2, h2, h⟩ := h.unc
  cases e2
  exact ⟨_, _, _, _, _, _, rfl, rfl, h0, h1, h2⟩
theorem ok_is_thingX (T : Txt K mg w) : FnOk P w K mg base CX0 5 T.a_is_thing T.fd_is_thing ["value"] (Pure (kJ K thingD)) := by
  have G_is_whole := ok_is_wholeX (P := P) (w := w) (base := base) T
  have G_is_name := ok_is_nameX (P := P) (w := w) (base := base) T
  have G_are_numbers := ok_are_numbersX (P := P) (w := w) (base := base) T
  refine T.F_is_thing.ok sc_is_thing (fun vs H Q E h => ?_) (fun cdv A outer s H vs Q E hr h => ?_)
  · obtain ⟨_, ⟨_, _, rfl, _⟩, _⟩ := h; rfl
  · obtain ⟨_, ⟨v, d, rfl, hd, hs, rfl⟩, q⟩ := h
    refine ⟨_, (pss_cons (ps_if (PW.pt (pw_or (pt_not (pt_val (pe_callB call_isi (by rfl) T.z_isinstance (by decide +kernel) (pa_cons (pv 0) (pa_cons (pe_bltn (v := .ty "tuple") (by rfl) T.z_tuple (by decide +kernel) rfl) pa_nil))))) (pw_or1 (pt_cmpR op_ne (pe_callB c_len (by rfl) T.z_len PySem.boot_len (pa_cons (pv 0) pa_nil)) pe_int (nomark _))))) (pss_one (ps_ret pe_bl)) pss_nil)
  (pss_one (ps_ret (pe_and (pe_call G_is_whole (hr.mono (by decide)) (by rfl) T.g_is_whole T.F_is_whole.kp T.b_is_whole .nil pass0 (pa_cons (pe_ix ix_tup (pv 0) pe_int (fun _ _ => rfl)) pa_nil)) (pe_and (pe_call G_is_name (hr.mono (by decide)) (by rfl) T.g_is_name T.F_is_name.kp T.b_is_name .nil pass0 (pa_cons (pe_ix ix_tup (pv 0) pe_int (fun _ _ => rfl)) pa_nil)) (pe_one (pe_call G_are_numbers (hr.mono (by decide)) (by rfl) T.g_are_numbers T.F_are_numbers.kp T.b_are_numbers .nil pass0 (pa_cons (pe_ix ix_tup (pv 0) pe_int (fun _ _ => rfl)) pa_nil)))))))), ?_⟩
    cases hT : isTupD d with
    | false =>
      refine q_when (b := true) (et_is (et_or (a := true) (b := true) (et_is (et_not (et_B (ev_cb (vs := [v, .ty "tuple"]) (by walk_at "ea") hd.isTup))) (by rw [hT]; rfl)) (fun h => by cases h)) rfl) (fun _ H1 e1 => ?_) (fun h => by cases h)
      refine s_ret (v := .bl false) ev_c fun H2 e2 => ?_
      have z : thingD d = false := by unfold thingD; rw [hT]; rfl
      rw [z] at q
      exact q H2 (e1.trans e2)
    | true =>
      obtain ⟨r, xs, rfl, hX, hD⟩ := hd.tupE hT
      obtain ⟨_, hsm⟩ := sm_tupD hs
      have hlen := hD.len
      refine q_when (b := !decide ((tupD d).length = 3)) (et_is (et_or (a := false) (b := !decide ((tupD d).length = 3)) (et_is (et_not (et_B (ev_cb (vs := [.ref r, .ty "tuple"]) (by walk_at "ea") hd.isTup))) (by rw [hT]; rfl)) fun _ => et_is (et_test (ev_op (ev_cb (vs := [.ref r]) (by walk_at "ea") (rc_lenT hX)) (ev_is ev_c (show V.int 3 = V.int ((3 : Nat) : Int) from rfl)) (rv_ne rfl))) (by rw [dec_len, hlen])) rfl) (fun hb H1 e1 => ?_) fun hb H1 e1 => ?_
      · refine s_ret (v := .bl false) ev_c fun H2 e2 => ?_
        have z : thingD d = false := by unfold thingD; rw [hT, nt hb]; rfl
        rw [z] at q
        exact q H2 (e1.trans e2)
      · have hb := nf hb
        have e : thingD d = (wholeD (atD d 0) && (nameD (atD d 1) && numsD (atD d 2))) := by unfold thingD; rw [hT, hb]; rfl
        rw [e] at q
        obtain ⟨x0, x1, x2, d0, d1, d2, rfl, he, h0, h1, h2⟩ := hD.three (of_decide_eq_true hb)
        have a0 : atD d 0 = d0 := by unfold atD; rw [he]; rfl
        have a1 : atD d 1 = d1 := by unfold atD; rw [he]; rfl
        have a2 : atD d 2 = d2 := by unfold atD; rw [he]; rfl
        rw [a0, a1, a2] at q
        have s1 : sm d1 = true := hsm _ (by rw [he]; simp)
        have s2 : sm d2 = true := hsm _ (by rw [he]; simp)
        have hX := ex_t e1 hX
        exact s_ret (ev_andV (ev_callP (ea_cons (ev_op (ev_var rfl) ev_c (rv_ixT hX (v := x0) rfl)) ea_nil) fun H2 e2 => ⟨x0, rfl, (da_ex (e1.trans e2) _ _ h0).pl, by rw [h0.whole]⟩) fun _ => ev_andV (ev_callP (ea_cons (ev_op (ev_var rfl) ev_c (rv_ixT hX (v := x1) rfl)) ea_nil) fun H2 e2 => kj_of (e1.trans e2) h1 s1 rfl) fun _ => ev_callP (ea_cons (ev_op (ev_var rfl) ev_c (rv_ixT hX (v := x2) rfl)) ea_nil) fun H2 e2 => kj_of (e1.trans e2) h2 s2 rfl) fun H2 e2 => q H2 (e1.trans e2)
theorem ok_is_change (T : Txt K mg w) : FnOk P w K mg base CX0 4 T.a_is_change T.fd_is_change ["value"] (Pure (kJ K chgD)) := by
  have G_is_whole := ok_is_wholeX (P := P) (w := w) (base := base) T
  have G_is_within := ok_is_within (P := P) (w := w) (base := base) T
  have G_is_number := ok_is_numberX (P := P) (w := w) (base := base) T
  refine T.F_is_change.ok sc_is_change (fun vs H Q E h => ?_) (fun cdv A outer s H vs Q E hr h => ?_)
  · obtain ⟨_, ⟨_, _, rfl, _⟩, _⟩ := h; rfl
  · obtain ⟨_, ⟨v, d, rfl, hd, hs, rfl⟩, q⟩ := h
    refine ⟨_, (pss_cons (ps_if (PW.pt (pw_or (pt_not (pt_val (pe_callB call_isi (by rfl) T.z_isinstance (by decide +kernel) (pa_cons (pv 0) (pa_cons (pe_bltn (v := .ty "tuple") (by rfl) T.z_tuple (by decide +kernel) rfl) pa_nil))))) (pw_or1 (pt_cmpR op_ne (pe_callB c_len (by rfl) T.z_len PySem.boot_len (pa_cons (pv 0) pa_nil)) pe_int (nomark _))))) (pss_one (ps_ret pe_bl)) pss_nil)
  (pss_one (ps_ret (pe_and (pe_call G_is_whole (hr.mono (by decide)) (by rfl) T.g_is_whole T.F_is_whole.kp T.b_is_whole .nil pass0 (pa_cons (pe_ix ix_tup (pv 0) pe_int (fun _ _ => rfl)) pa_nil)) (pe_and (pe_call G_is_within (hr.mono (by decide)) (by rfl) T.g_is_within T.F_is_within.kp T.b_is_within .nil pass0 (pa_cons (pe_ix ix_tup (pv 0) pe_int (fun _ _ => rfl)) (pa_cons pe_int (pa_cons (pe_op op_sub (pe_glob (v := .int (8)) rfl T.g_MAX_FIELDS ⟨_, rfl⟩) pe_int) pa_nil)))) (pe_one (pe_call G_is_number (hr.mono (by decide)) (by rfl) T.g_is_number T.F_is_number.kp T.b_is_number .nil pass0 (pa_cons (pe_ix ix_tup (pv 0) pe_int (fun _ _ => rfl)) pa_nil)))))))), ?_⟩
    cases hT : isTupD d with
    | false =>
      refine q_when (b := true) (et_is (et_or (a := true) (b := true) (et_is (et_not (et_B (ev_cb (vs := [v, .ty "tuple"]) (by walk_at "ea") hd.isTup))) (by rw [hT]; rfl)) (fun h => by cases h)) rfl) (fun _ H1 e1 => ?_) (fun h => by cases h)
      refine s_ret (v := .bl false) ev_c fun H2 e2 => ?_
      have z : chgD d = false := by unfold chgD; rw [hT]; rfl
      rw [z] at q
      exact q H2 (e1.trans e2)
    | true =>
      obtain ⟨r, xs, rfl, hX, hD⟩ := hd.tupE hT
      have hlen := hD.len
      refine q_when (b := !decide ((tupD d).length = 3)) (et_is (et_or (a := false) (b := !decide ((tupD d).length = 3)) (et_is (et_not (et_B (ev_cb (vs := [.ref r, .ty "tuple"]) (by walk_at "ea") hd.isTup))) (by rw [hT]; rfl)) fun _ => et_is (et_test (ev_op (ev_cb (vs := [.ref r]) (by walk_at "ea") (rc_lenT hX)) (ev_is ev_c (show V.int 3 = V.int ((3 : Nat) : Int) from rfl)) (rv_ne rfl))) (by rw [dec_len, hlen])) rfl) (fun hb H1 e1 => ?_) fun hb H1 e1 => ?_
      · refine s_ret (v := .bl false) ev_c fun H2 e2 => ?_
        have z : chgD d = false := by unfold chgD; rw [hT, nt hb]; rfl
        rw [z] at q
        exact q H2 (e1.trans e2)
      · have hb := nf hb
        have e : chgD d = (wholeD (atD d 0) && (withinD 0 7 (atD d 1) && withinD (-1000000000) 1000000000 (atD d 2))) := by unfold chgD; rw [hT, hb]; rfl
        rw [e] at q
        obtain ⟨x0, x1, x2, d0, d1, d2, rfl, he, h0, h1, h2⟩ := hD.three (of_decide_eq_true hb)
        have a0 : atD d 0 = d0 := by unfold atD; rw [he]; rfl
        have a1 : atD d 1 = d1 := by unfold atD; rw [he]; rfl
        have a2 : atD d 2 = d2 := by unfold atD; rw [he]; rfl
        rw [a0, a1, a2] at q
        have hX := ex_t e1 hX
        exact s_ret (ev_andV (ev_callP (ea_cons (ev_op (ev_var rfl) ev_c (rv_ixT hX (v := x0) rfl)) ea_nil) fun H2 e2 => ⟨x0, rfl, (da_ex (e1.trans e2) _ _ h0).pl, by rw [h0.whole]⟩) fun _ => ev_andV (ev_callP (vs := [x1, .int 0, .int (8 - 1)]) (ea_cons (ev_op (ev_var rfl) ev_c (rv_ixT hX (v := x1) rfl)) (by walk_at "ea")) fun H2 e2 => ⟨x1, 0, 8 - 1, rfl, (da_ex (e1.trans e2) _ _ h1).pl, by rw [h1.within]; rfl⟩) fun _ => ev_callP (ea_cons (ev_op (ev_var rfl) ev_c (rv_ixT hX (v := x2) rfl)) ea_nil) fun H2 e2 => ⟨x2, rfl, (da_ex (e1.trans e2) _ _ h2).pl, by rw [h2.within]⟩) fun H2 e2 => q H2 (e1.trans e2)
end
end Kz
set_option Elab.async false
set_option linter.all false
set_option maxRecDepth 100000
set_option maxHeartbeats 4000000
/-! {e for x in xs}, e an int -/
namespace Wo
open PySem PySem.Spec PyProof.Rows L2 Evl Vr En
section
variable {X : Cx} {pins : List (Addr × Obj)} {σ : L2.St} {H : Hp} {s : Shared}
theorem add_int_ok {E : Value → Shared → Prop} {N : Addr} {S : Int → Bool} {n : Nat} {k : Int} {tk : Tok} {Q : Value → Shared → Prop} (I : Inv X pins σ H s) (hN : H N = some (SetO X.w N S n)) (few : n + 1 < scanBound)
    (k2 : ∀ t, Inv X pins σ (upd H N (SetO X.w N (fun j => S j || decide (j = k)) (if S k = true then n else n + 1))) t → Q .none t) : wpAny (model X.prog X.w) X.A (call (.builtin "set.add") [.ref N, .int k tk]) Q E s :=
  setR_add (setO_get I hN) few fun g sb new => k2 _ (I.write (x := N) (e := N) (t' := s.toks + 1) (by rw [hN]; exact trivial) (.inl rfl) (fun b u hb hu => (sb.2 b hb).trans hu) (let ⟨o, _, _, _, ho, _⟩ := new; ⟨o, ho⟩) (setO_new new))
/-- N the new set -/
def tScI (w : PySem.World) (wi : TI) (g : TG) (te : TE) (vs : List Nat) : TE := fun σ H Q => wi σ H fun J H1 => ∀ N, H1 N = none → ∃ W : Nat → Nat → Hp → Prop, (∃ m, W 0 m (upd H1 N (SetO w N (fun _ => false) 0))) ∧ ∀ i m H, W i m H →
  (J.stop i H ∧ Q (.ref N) H) ∨ (J.go i H ∧ ∃ Nx : Hp → Prop, (∀ H', Nx H' → ∃ m', m' < m ∧ W (i + 1) m' H') ∧ ∀ x H', J.yld i H x H' → g x (wipe σ vs) H' fun σ2 H2 => wipe σ2 vs = wipe σ vs ∧
    te σ2 H2 fun y H4 => ∃ (c : Int) (S : Int → Bool) (n : Nat), y = .int c ∧ H4 N = some (SetO w N S n) ∧ n + 1 < scanBound ∧ Nx (upd H4 N (SetO w N (fun j => S j || decide (j = c)) (if S c = true then n else n + 1))))
theorem sci_loop {elt tg iter : Expr} {scope : Scope} {own : List (PySem.Str × Nat)} {pos : Pos} {g : TG} {te : TE} {b1 : Shared} {H1 : Hp} {it N : Addr} {fp : List Addr} {tn : Nat → Heap → Prop} {J : It} {W : Nat → Nat → Hp → Prop} {m0 : Nat} {Qn : Hp → Prop} {R : Result → Shared → Prop}
    (calm : X.calm = true) (nd : X.N.Nodup) (ok : BlkOk X.N X.env.scope scope own) (I1 : Inv X pins σ H1 b1) (T : Turn X.prog X.w X.K tg J fp it tn) (at1 : tn 0 b1.heap) (fz : ∀ b ∈ fp, FpOk X pins H1 b ∧ b < b1.heap.objs.size)
    (hg : ∀ (s : Shared) (H : Hp) (C : Addr) (cl : List (PySem.Str × Addr)) (fp : List Addr), PG (X.blk s H scope (compEnvC scope cl C X.env) fp) tg g)
    (he : ∀ (s : Shared) (H : Hp) (C : Addr) (cl : List (PySem.Str × Addr)) (fp : List Addr), PE (X.blk s H scope (compEnvC scope cl C X.env) fp) elt te) (w0 : W 0 m0 H1)
    (turn : ∀ i m H, W i m H → (J.stop i H ∧ Qn H) ∨ (J.go i H ∧ ∃ Nx : Hp → Prop, (∀ H', Nx H' → ∃ m', m' < m ∧ W (i + 1) m' H') ∧ ∀ x H', J.yld i H x H' → g x (wipe σ (own.map (·.2))) H' fun σ2 H2 => wipe σ2 (own.map (·.2)) = wipe σ (own.map (·.2)) ∧
      te σ2 H2 fun y H4 => ∃ (c : Int) (S : Int → Bool) (n : Nat), y = .int c ∧ H4 N = some (SetO X.w N S n) ∧ n + 1 < scanBound ∧ Nx (upd H4 N (SetO X.w N (fun j => S j || decide (j = c)) (if S c = true then n else n + 1)))))
    (fin : ∀ H' s' m, Inv X pins σ H' s' → Qn H' → s'.heap.Ns b1.heap.objs.size m → FpOk X pins H' b1.heap.objs.size → R (.ok .next) s') :
    codeAny (model X.prog X.w) X.A (.compStart (.SetComp elt [⟨tg, iter, [], 0⟩] scope pos) 0 (.ref it) (.ref N) (compEnvC scope (cellsFrom (b1.heap.objs.size + 1) scope.names (cloFrom X.env.cells scope.names [])) b1.heap.objs.size X.env)) R { b1 with heap := pushCells (b1.heap.push { cls := .type "dict", data := .dict #[] }) scope.names } := by
  have Ib := block_start I1 ok nd fz
  have none1 : ∀ b ∈ fp, H1 b = none := fun b hb => (fz b hb).1.1
  have atb : tn 0 ({ b1 with heap := pushCells (b1.heap.push { cls := .type "dict", data := .dict #[] }) scope.names } : Shared).heap := T.keep _ _ _ at1 fun b _ o e => pushCells_keeps _ _ _ _ (Heap.get?_push_of_some _ e)
  have G := hg b1 H1 b1.heap.objs.size (cellsFrom (b1.heap.objs.size + 1) scope.names (cloFrom X.env.cells scope.names [])) fp
  have V := he b1 H1 b1.heap.objs.size (cellsFrom (b1.heap.objs.size + 1) scope.names (cloFrom X.env.cells scope.names [])) fp
  have here : (compEnvC scope (cellsFrom (b1.heap.objs.size + 1) scope.names (cloFrom X.env.cells scope.names [])) b1.heap.objs.size X.env).locals = b1.heap.objs.size := rfl
  generalize compEnvC scope (cellsFrom (b1.heap.objs.size + 1) scope.names (cloFrom X.env.cells scope.names [])) b1.heap.objs.size X.env = ev at Ib G V here ⊢
  generalize ({ b1 with heap := pushCells (b1.heap.push { cls := .type "dict", data := .dict #[] }) scope.names } : Shared) = b2 at Ib atb ⊢
  have young : ∀ {τ : L2.St} {H' : Hp} {c : Shared}, Inv (X.blk b1 H1 scope ev fp) [] τ H' c → (∀ b ∈ fp, H' b = none) → ∀ b ∈ fp, FpOk (X.blk b1 H1 scope ev fp) [] H' b := fun {τ H' c} J n b hb =>
    ⟨n b hb, (J.ok.exf b hb).1, J.ok.exfs b hb, .inl hb, fun x k e => (J.ok.exf b hb).2 x k e, fun p hp => by cases hp⟩
  have loop : codeAny (model X.prog X.w) X.A (.compLoop (.SetComp elt [⟨tg, iter, [], 0⟩] scope pos) 0 (.ref it) (.ref N) ev) R b2 := by
    refine PpSet.compLoopS_any (fun n c => ∃ i H', Inv (X.blk b1 H1 scope ev fp) [] (wipe σ (own.map (·.2))) H' c ∧ tn i c.heap ∧ (∀ b ∈ fp, H' b = none) ∧ W i n H') ?_ m0 ⟨0, H1, Ib, atb, none1, w0⟩
    rintro n c0 ⟨i, Hc, Ic, ac, nc, wc⟩
    rcases turn i n Hc wc with ⟨stop, hq⟩ | ⟨go, Nx, hN, step⟩
    · refine thnF (T.done (X.blk b1 H1 scope ev fp) rfl rfl rfl calm i [] c0 _ Hc (fun _ _ => False) Ic (young Ic nc) ac stop) fun r c1 ⟨hr, J1⟩ => ?_
      subst hr
      have back : Inv X pins σ Hc c1 := I1.call' (ch := fp) J1.os J1.base J1.hok J1.bare fun b hb => have z := (fz b hb).1; ⟨z.2.2.2.1, z.2.1, z.2.2.2.2.1, z.2.2.2.2.2⟩
      obtain ⟨m, hm, _⟩ := J1.loc
      have hm : c1.heap.Ns ev.locals m := hm
      have hf : Hc ev.locals = none := J1.free
      rw [here] at hm hf
      exact fin Hc c1 m back hq hm (I1.fpOk (Nat.le_refl _) hf)
    · refine thnF (T.item (X.blk b1 H1 scope ev fp) rfl rfl rfl calm i [] c0 _ Hc (fun _ _ => False) Ic (young Ic nc) ac go) fun r c1 ⟨u, hr, z1⟩ => ?_
      subst hr
      refine thnF z1 fun _ c2 ⟨x, H2, J2, rx, hy, a2, n2⟩ => ?_
      refine thnF (G.run _ c2 _ H2 x u _ (J2.pinned (young J2 n2) (T.obj _ _ a2)) rx (step x H2 hy)) fun _ c3 ⟨τ, H3, J3, hw, q3⟩ => ?_
      refine wpAny_pure ?_
      rw [if_pos rfl]
      refine thnF (V.run _ c3 τ H3 _ J3 q3) fun v c4 ⟨y, H4, J4, ry, k, S, m, ey, h4, few, nx⟩ => ?_
      subst ey
      obtain ⟨tk, rfl⟩ := ry
      refine add_int_ok (X := X.blk b1 H1 scope ev fp) J4 h4 few fun c5 J5 => ?_
      obtain ⟨m', lt, w5⟩ := hN _ nx
      have pin : ∀ b ∈ fp, ∀ o, c2.heap.get? b = some o → c5.heap.get? b = some o ∧ (upd H4 N (SetO X.w N (fun j => S j || decide (j = k)) (if S k = true then m else m + 1))) b = none := fun b hb o e =>
        have z := J5.pin (b, o) (List.mem_append_right _ (List.mem_append_right _ (mem_pinsAt hb e)))
        ⟨z.1, z.2.1⟩
      have hl : (wipe σ (own.map (·.2))).length = τ.length := by rw [← hw, wipe_length]
      refine ⟨m', lt, i + 1, _, J5.unpinned.weak hl (fun j v e => ?_), T.keep _ _ _ a2 fun b hb o e => (pin b hb o e).1, fun b hb => ?_, w5⟩
      · rw [← hw] at e
        exact (wipe_some e).1
      · obtain ⟨o, e, _⟩ := T.obj _ _ a2 b hb
        exact (pin b hb o e).2
  exact PpSet.codeAny_compStart_set loop (T.self X.A 0 _ _ _ atb loop)
theorem pe_scI {elt tg iter : Expr} {scope : Scope} {own : List (PySem.Str × Nat)} {pos : Pos} {wi : TI} {g : TG} {te : TE} (calm : X.calm = true) (hN : X.N.Nodup) (hi : PI X tg iter wi) (ok : BlkOk X.N X.env.scope scope own)
    (hg : ∀ (s : Shared) (H : Hp) (C : Addr) (cl : List (PySem.Str × Addr)) (fp : List Addr), PG (X.blk s H scope (compEnvC scope cl C X.env) fp) tg g)
    (he : ∀ (s : Shared) (H : Hp) (C : Addr) (cl : List (PySem.Str × Addr)) (fp : List Addr), PE (X.blk s H scope (compEnvC scope cl C X.env) fp) elt te) (hs : ∀ x, foldedSetIterable iter X.env x = pure x := by intro _; rfl) :
    PE X (.SetComp elt [⟨tg, iter, [], 0⟩] scope pos) (tScI X.w wi g te (own.map (·.2))) := by
  refine ⟨fun pins s σ H Q I h => ?_⟩
  rw [PpSet.eval_SetComp]
  refine wpAny_comprehension_free (use := none) rfl hs (closure_ok fun y hy e => (ok.free y hy e).elim (fun k => I.ok.has _ (.inl k)) fun k => I.ok.has _ (.inr k)) ok.kind (fun y hy e => by rw [ok.uniq y hy, e])
    (thn (hi.run pins s σ H _ I h) fun _ _ z1 => thn z1 fun _ b0 z2 => ?_)
  obtain ⟨it, fp, tn, J, Hi, rfl, Ii, T, si, fi, q⟩ := z2
  refine PpSet.newSet_ok (newEnv_comp ?_)
  obtain ⟨W, ⟨m0, w0⟩, turn⟩ := q _ (Ii.hok.fresh (Nat.le_refl _))
  refine sci_loop (b1 := { b0 with heap := b0.heap.push { cls := .type "set", dict := none, data := .set #[] 0 (.fresh 0 0 (!X.w.params.followText "set-order")) } }) (N := b0.heap.objs.size) calm hN ok (Ii.laid (t' := b0.toks) (fun b o e => Heap.get?_push_of_some _ e) (Nat.le_refl _) (setO_new (setR_fresh X.w))) T
    (T.keep _ _ _ si fun b _ o e => Heap.get?_push_of_some _ e) (fun b hb => ?_) hg he w0 turn fun H' s' m I' hQ hm fp' => ?_
  · obtain ⟨_, e, _⟩ := T.obj _ _ si b hb
    have lt := Heap.lt_size e
    exact ⟨⟨by rw [upd_ne (Nat.ne_of_lt lt)]; exact (fi b hb).1, (fi b hb).2⟩, by rw [Heap.size_push]; exact Nat.lt_succ_of_lt lt⟩
  · obtain ⟨f0, f1, f2, f3, f4, f5⟩ := fp'
    exact ⟨m, hm, fun h'' sb => ⟨.ref b0.heap.objs.size, H', I'.turned (t' := s'.toks) (fun b o hb e => (sb.2 b hb).trans e) f0 f1 f3 f4 f5, rfl, hQ⟩⟩
end
/-! ### how many there are -/
def dd : List Int → List Int
  | [] => []
  | x :: l => if x ∈ l then dd l else x :: dd l
theorem dd_mem : ∀ (l : List Int) (x : Int), x ∈ dd l ↔ x ∈ l
  | [], _ => Iff.rfl
  | y :: l, x => by
    unfold dd
    split
    · rename_i h
      rw [dd_mem l x, List.mem_cons]
      exact ⟨.inr, fun z => z.elim (fun e => by rw [e]; exact h) id⟩
    · rw [List.mem_cons, List.mem_cons, dd_mem l x]
theorem dd_nodup : ∀ l : List Int, (dd l).Nodup
  | [] => List.nodup_nil
  | y :: l => by
    unfold dd
    split
    · exact dd_nodup l
    · rename_i h
      exact List.nodup_cons.mpr ⟨fun z => h ((dd_mem l y).mp z), dd_nodup l⟩
def cnt (l : List Int) : Nat := (dd l).length
theorem cnt_uniq {k l : List Int} (hn : k.Nodup) (hm : ∀ x, x ∈ k ↔ x ∈ l) : k.length = cnt l :=
  Nat.le_antisymm (hn.length_le_of_subset fun x hx => (dd_mem l x).mpr ((hm x).mp hx)) ((dd_nodup l).length_le_of_subset fun x hx => (hm x).mpr ((dd_mem l x).mp hx))
theorem cnt_nodup {l : List Int} (h : l.Nodup) : cnt l = l.length := (cnt_uniq h fun _ => Iff.rfl).symm
theorem cnt_snoc (l : List Int) (x : Int) : cnt (l ++ [x]) = if x ∈ l then cnt l else cnt l + 1 := by
  split
  · rename_i h
    refine (cnt_uniq (dd_nodup l) fun y => ?_).symm
    rw [dd_mem, List.mem_append, List.mem_singleton]
    exact ⟨.inl, fun z => z.elim id fun e => by rw [e]; exact h⟩
  · rename_i h
    have e : (dd l ++ [x]).length = cnt (l ++ [x]) := cnt_uniq (List.nodup_append.mpr ⟨dd_nodup l, by simp, fun a ha b hb => by
      rw [List.mem_singleton.mp hb]
      exact fun z => h ((dd_mem l x).mp (z ▸ ha))⟩) fun y => by rw [List.mem_append, List.mem_append, dd_mem]
    rw [← e, List.length_append]
    rfl
theorem cnt_le (l : List Int) : cnt l ≤ l.length := (dd_nodup l).length_le_of_subset fun x hx => (dd_mem l x).mp hx
/-- set(xs), xs a list of ints -/
def rSetC (K : PySem.W.Frag) (w : PySem.World) : List V → Hp → VK → Prop := fun xs H Q => ∃ (l : Addr) (ns : List Int), xs = [.ref l] ∧ SqL K H l (ns.map V.int) ∧ ns.length ≤ 4000 ∧ ∀ a, H a = none → Q (.ref a) (upd H a (SetO w a (fun j => decide (j ∈ ns)) (cnt ns)))
theorem c_setC {X : Cx} (hc : X.calm = true) : CallR X (.type "set") (rSetC X.K X.w) := by
  intro pins s σ H xs us Q I r ⟨l, ns, e, hq, hl, q⟩
  subst e
  rw [Vals.ref1 r]
  obtain ⟨its, rv, pl, hz⟩ := I.list hq
  refine Sl.made (I.ok.hd hc) pl.isList (by simpa using Sl.ints_of rv) (by unfold scanBound; omega) fun h2 tk c hs _ hk => ?_
  have hn : H s.heap.objs.size = none := I.hok.fresh (Nat.le_refl _)
  have hc3 : c = cnt ns := by
    obtain ⟨o, es, ep, t, _, _, _, _, nd, mem, _, _, sz, _⟩ := id hs
    have z := cnt_uniq nd fun x => ((mem x).symm.trans decide_eq_true_iff)
    rw [List.length_map, Array.length_toList] at z
    omega
  subst hc3
  exact ⟨.ref s.heap.objs.size, _, I.call (ch := []) (Un.laid hk (Nat.le_refl _) hn) (I.hok.laid hk (Nat.le_refl _) (setO_new hs)) I.bare (fun _ z => nomatch z), rfl, q _ hn⟩
section
variable {K : PySem.W.Frag} {w : PySem.World} {σ : L2.St} {H : Hp} {te tl : TE} {ns : List Int} {tz : TS} {D : Ends}
/-- a new set of ints -/
def EvS (w : PySem.World) (te : TE) (σ : L2.St) (H : Hp) (ns : List Int) : Prop := ∀ H1, Ex H H1 → ∀ Q : VK, (∀ a H2, H1 a = none → Ex H1 H2 → H2 a = some (SetO w a (fun j => decide (j ∈ ns)) (cnt ns)) → Q (.ref a) H2) → te σ H1 Q
theorem es_set (h : EvL te σ H (ns.map V.int)) (hl : ns.length ≤ 4000) : EvS w (tCB (rSetC K w) (tCons te tNil)) σ H ns := fun H1 e Q q => h H1 e _ fun p H2 _ e2 h2 => ⟨p, ns, rfl, sq_of h2, hl, fun a ha => q a _ (fresh_back e2 ha) (e2.trans (Ex.new ha)) upd_same⟩
theorem ev_lenS (h : EvS w te σ H ns) : Ev (tCB (rLenN w) (tCons te tNil)) σ H (.int (cnt ns)) := fun H1 e Q q => h H1 e _ fun a H2 _ e2 h2 => ⟨a, _, _, rfl, h2, q H2 e2⟩
theorem ev_lenSv {a : Addr} {S : Int → Bool} {n : Nat} (h : Ev te σ H (.ref a)) (ha : H a = some (SetO w a S n)) : Ev (tCB (rLenN w) (tCons te tNil)) σ H (.int n) := fun H1 e Q q => h H1 e _ fun H2 e2 => ⟨a, _, _, rfl, (e.trans e2) _ _ ha, q H2 e2⟩
theorem q_asgS {i : Nat} (h : EvS w te σ H ns) (k : ∀ a H1, H a = none → Ex H H1 → H1 a = some (SetO w a (fun j => decide (j ∈ ns)) (cnt ns)) → tz D (σ.set i (some (.ref a))) H1) : tSeq (tAsg te (gName i)) tz D σ H := h H (Ex.refl H) _ k
/-- {e for x in tuple} -/
theorem es_scT {a : Addr} {xs : List V} {j : Nat} {vs : List Nat} (h : Ev tl σ H (.ref a)) (hx : SqT K H a xs) (hl : ns.length = xs.length) (hz : xs.length ≤ 4000) (hw : ∀ x, wipe ((wipe σ vs).set j (some x)) vs = wipe σ vs)
    (he : ∀ (i : Nat) (x : V) (n : Int) H1, Ex H H1 → xs[i]? = some x → ns[i]? = some n → Ev te ((wipe σ vs).set j (some x)) H1 (.int n)) : EvS w (tScI w (iTup K tl) (gName j) te vs) σ H ns := fun H0 e Q q => h H0 e _ fun H1 e1 => ⟨a, rfl, ⟨xs, ex_t (e.trans e1) hx⟩, fun N hN => by
  refine ⟨fun i m H' => m = xs.length - i ∧ i ≤ xs.length ∧ Ex H1 H' ∧ H' N = some (SetO w N (fun j => decide (j ∈ ns.take i)) (cnt (ns.take i))), ⟨xs.length, by omega, Nat.zero_le _, Ex.new hN, upd_same⟩, ?_⟩
  rintro i m H' ⟨rfl, hi, e2, h2⟩
  have hT := ex_t ((e.trans e1).trans e2) hx
  by_cases lt : i < xs.length
  · refine .inr ⟨⟨xs, xs[i], hT, List.getElem?_eq_getElem lt⟩, fun H3 => Ex H1 H3 ∧ H3 N = some (SetO w N (fun j => decide (j ∈ ns.take (i + 1))) (cnt (ns.take (i + 1)))), fun H3 z => ⟨xs.length - (i + 1), by omega, rfl, lt, z⟩, fun x H3 y => ?_⟩
    obtain ⟨rfl, y⟩ := y
    have hxi := y xs hT
    have hni : ns[i]? = some (ns[i]'(by omega)) := List.getElem?_eq_getElem (by omega)
    refine ⟨hw x, he i x _ H1 (e.trans e1) hxi hni _ e2 _ fun H4 e4 => ⟨_, _, _, rfl, e4 _ _ h2, ?_, Ex.mut (e2.trans e4) hN, ?_⟩⟩
    · have := cnt_le (ns.take i)
      rw [List.length_take] at this
      unfold scanBound
      omega
    · have tk : ns.take (i + 1) = ns.take i ++ [ns[i]'(by omega)] := by rw [← List.take_append_getElem (by omega)]
      rw [upd_same, tk, cnt_snoc]
      have f : (fun j : Int => decide (j ∈ ns.take i) || decide (j = ns[i]'(by omega))) = fun j => decide (j ∈ ns.take i ++ [ns[i]'(by omega)]) := by
        funext j
        rw [← Bool.decide_or]
        exact decide_eq_decide.mpr (by rw [List.mem_append, List.mem_singleton])
      rw [f]
      simp only [decide_eq_true_eq]
  · have z : i = xs.length := by omega
    subst z
    rw [List.take_of_length_le (by omega)] at h2
    exact .inl ⟨⟨xs, hT, Nat.le_refl _⟩, q N H' (fresh_back e1 hN) (e1.trans e2) h2⟩⟩
end
end Wo
set_option Elab.async false
set_option linter.all false
set_option maxRecDepth 100000
set_option maxHeartbeats 4000000
/-! zip of tuples; < of tuples of two ints; members that ascend -/
namespace Wo
open PySem PySem.Spec PyProof.Rows L2 Evl Vr En RZ
theorem walk_zipT {K : PySem.W.Frag} {a b : Addr} {xs ys : List V} : Walk (ItzT K a b) (min xs.length ys.length) (fun H => SqT K H a xs ∧ SqT K H b ys) (YPair (fun i => xs[i]?) (fun i => ys[i]?)) :=
  ⟨fun i _ hi q => ⟨xs, ys, xs[i]'(by omega), ys[i]'(by omega), q.1, q.2, List.getElem?_eq_getElem (by omega), List.getElem?_eq_getElem (by omega)⟩, fun _ q => ⟨xs, ys, q.1, q.2, by omega⟩, fun i H v H' _ q ⟨T, x, z, e, n, u, f, g⟩ => ⟨T, x, z, e, n, u, f xs q.1, g ys q.2⟩⟩
def lt2 (p q : Int × Int) : Bool := if p.1 = q.1 then decide (p.2 < q.2) else decide (p.1 < q.1)
def PrAt (K : PySem.W.Frag) (H : Hp) (v : V) (p : Int × Int) : Prop := ∃ r, v = .ref r ∧ SqT K H r [.int p.1, .int p.2]
theorem vals_two {x y : Int} {us : List Value} (h : Vals [V.int x, V.int y] us) : ∃ t1 t2, us = [.int x t1, .int y t2] := by
  cases h with
  | cons h1 h =>
    cases h with
    | cons h2 h =>
      cases h
      obtain ⟨t1, rfl⟩ := h1
      obtain ⟨t2, rfl⟩ := h2
      exact ⟨t1, t2, rfl⟩
theorem lex_two (e0 e1 r0 r1 : Bool) : Ob.lexAt (fun j => if j = 0 then e0 else e1) (fun j => if j = 0 then r0 else r1) false 0 2 = if e0 = true then (if e1 = true then false else r1) else r0 := rfl
theorem lt2_eq (p1 p2 q1 q2 : Int) : (if (p1 == q1) = true then (if (p2 == q2) = true then false else decide (p2 < q2)) else decide (p1 < q1)) = lt2 (p1, p2) (q1, q2) := by
  unfold lt2
  by_cases h : p1 = q1
  · rw [if_pos h, if_pos (beq_iff_eq.mpr h)]
    by_cases h2 : p2 = q2
    · rw [if_pos (beq_iff_eq.mpr h2), h2]
      simp
    · rw [if_neg (by simpa using h2)]
  · rw [if_neg h, if_neg (by simpa using h)]
/-- x < y, both tuples of two ints -/
def rLt2 (K : PySem.W.Frag) : R2 := fun x y H Q => ∃ p q, PrAt K H x p ∧ PrAt K H y q ∧ Q (.bl (lt2 p q)) H
theorem lt_rc {A : Around} {s : Shared} {a b : Addr} {p1 p2 q1 q2 : Int} {t1 t2 t3 t4 : Tok} (ha : s.heap.IsTuple a #[.int p1 t1, .int p2 t2]) (hb : s.heap.IsTuple b #[.int q1 t3, .int q2 t4]) (hu : A.units < cLine) : Ob.RcOp .Lt A s (.ref a) (.ref b) (lt2 (p1, p2) (q1, q2)) := by
  have R := Ob.RcOp.tuples_lt (A := A) (s := s) (e := fun j => if j = 0 then p1 == q1 else p2 == q2) (r := fun j => if j = 0 then decide (p1 < q1) else decide (p2 < q2)) ha hb hu (fun j h1 h2 => by
    rcases j with _ | _ | j
    · exact SeqAt.EqAt.int_int _ _ _ _
    · exact SeqAt.EqAt.int_int _ _ _ _
    · exact absurd h1 (by simp)) (fun j h1 h2 _ => by
    rcases j with _ | _ | j
    · exact Ob.RcOp.lt_int _ _ _ _
    · exact Ob.RcOp.lt_int _ _ _ _
    · exact absurd h1 (by simp))
  have z := lex_two (p1 == q1) (p2 == q2) (decide (p1 < q1)) (decide (p2 < q2))
  rw [lt2_eq] at z
  rw [← z]
  exact R
theorem op_lt2 {X : Cx} {K : PySem.W.Frag} {A0 : Around} (hu : A0.units + 64 < cLine) (hA : X.A = A0) (hK : X.K = K) : OpR X (compareOp .Lt) (rLt2 K) := by
  subst hA hK
  intro pins s σ H x y v u Q I rx ry h
  obtain ⟨p, q, ⟨a, ea, ha⟩, ⟨b, eb, hb⟩, k⟩ := h
  subst ea eb
  cases rx
  cases ry
  obtain ⟨as, va, pa, _⟩ := I.tuple ha
  obtain ⟨bs, vb, pb, _⟩ := I.tuple hb
  obtain ⟨t1, t2, rfl⟩ := vals_two va
  obtain ⟨t3, t4, rfl⟩ := vals_two vb
  exact lt_rc pa pb (by omega) X.prog X.w X.xe (EP X pins σ Q) ⟨.bl _, H, I, rfl, k⟩
/-- each one is below the next one -/
def ascB {α : Type} (r : α → α → Bool) : List α → Bool
  | x :: y :: l => r x y && ascB r (y :: l)
  | _ => true
def ascI (l : List Int) : Bool := ascB (fun x y => decide (x < y)) l
theorem asc_range {α : Type} (r : α → α → Bool) (d : α) : ∀ l : List α, ((List.range (l.length - 1)).map fun i => r (l.getD i d) (l.getD (i + 1) d)).all id = ascB r l
  | [] => rfl
  | [_] => rfl
  | x :: y :: l => by
    have ih := asc_range r d (y :: l)
    show ((List.range (l.length + 1)).map _).all id = (r x y && ascB r (y :: l))
    rw [List.range_succ_eq_map, List.map_cons, List.all_cons, List.map_map, ← ih]
    rfl
theorem given_range (n : Nat) (v : Nat → Bool) : given n (fun _ => true) (fun i => V.bl (v i)) = ((List.range n).map v).map V.bl := by
  unfold given
  rw [List.filter_eq_self.mpr (fun _ _ => rfl), List.map_map]
  rfl
theorem asc_pair {l : List Int} (h : ascI l = true) : l.Pairwise (· < ·) := by
  have : ∀ l : List Int, ascI l = true → l.Pairwise (· < ·) := by
    intro l
    induction l with
    | nil => exact fun _ => .nil
    | cons x l ih =>
      intro h
      cases l with
      | nil => exact List.pairwise_singleton _ _
      | cons y l =>
        have h : (decide (x < y) && ascI (y :: l)) = true := h
        rw [Bool.and_eq_true, decide_eq_true_eq] at h
        have i2 := ih h.2
        refine List.pairwise_cons.mpr ⟨fun z hz => ?_, i2⟩
        rcases List.mem_cons.mp hz with rfl | hz
        · exact h.1
        · exact Int.lt_trans h.1 ((List.pairwise_cons.mp i2).1 z hz)
  exact this l h
theorem pair_asc : ∀ {l : List Int}, l.Pairwise (· < ·) → ascI l = true
  | [], _ => rfl
  | [_], _ => rfl
  | x :: y :: l, h => by
    have h2 := List.pairwise_cons.mp h
    show (decide (x < y) && ascI (y :: l)) = true
    rw [pair_asc h2.2, decide_eq_true (h2.1 y (List.mem_cons_self ..))]
    rfl
section
variable {K : PySem.W.Frag} {σ : L2.St} {H : Hp} {te tl ta tb : TE} {t : TT} {a : Addr} {to th : TO} {tr : TA}
/-- a tuple, new or not -/
def EvTu (K : PySem.W.Frag) (te : TE) (σ : L2.St) (H : Hp) (xs : List V) : Prop := ∀ H1, Ex H H1 → ∀ Q : VK, (∀ b H2, Ex H1 H2 → SqT K H2 b xs → Q (.ref b) H2) → te σ H1 Q
theorem tu_of {xs : List V} (h : Ev te σ H (.ref a)) (hx : SqT K H a xs) : EvTu K te σ H xs := fun H1 e Q q => h H1 e Q fun H2 e2 => q a H2 e2 (ex_t (e.trans e2) hx)
theorem tu_sl {xs : List V} {lo hi : Option Int} (h : Ev te σ H (.ref a)) (hx : SqT K H a xs) (hl : EvO to σ H lo) (hh : EvO th σ H hi) (hc : HT.sIx xs.length 0 lo = 0 ∧ HT.sIx xs.length xs.length hi = xs.length → cutV xs lo hi = xs) : EvTu K (tSl (rSlA K) te to th) σ H (cutV xs lo hi) := fun H1 e Q q =>
  h H1 e _ fun H2 e2 => hl H2 (e.trans e2) _ fun H3 e3 => hh H3 ((e.trans e2).trans e3) _ fun H4 e4 => ⟨a, xs, rfl, ex_t (((e.trans e2).trans e3).trans e4) hx, fun z => by
    rw [hc z] at q
    exact q a H4 ((e2.trans e3).trans e4) (ex_t (((e.trans e2).trans e3).trans e4) hx), fun _ b hb => q b _ (((e2.trans e3).trans e4).trans (Ex.new hb)) (st_of upd_same)⟩
/-- xs[1:] -/
theorem tu_rest {xs : List V} (h : Ev te σ H (.ref a)) (hx : SqT K H a xs) (ho : EvO to σ H (some 1)) (hn : EvO th σ H none) : EvTu K (tSl (rSlA K) te to th) σ H (xs.drop 1) := by
  have c := cut1 xs
  have z := tu_sl h hx ho hn (lo := some 1) (hi := none) fun z => by
    rw [c]
    cases xs with
    | nil => rfl
    | cons x xs =>
      have z1 := z.1
      unfold HT.sIx at z1
      simp at z1
  rw [c] at z
  exact z
/-- [e for x, y in zip(tuple, tuple) if t] -/
theorem el_lcZipT {xs ys : List V} {ta : TA} {j l : Nat} {vs : List Nat} (f : Nat → Bool) (v : Nat → V) (h : EvAP ta σ H (fun vs H1 => ∃ a b, vs = [.ref a, .ref b] ∧ SqT K H1 a xs ∧ SqT K H1 b ys)) (hz : xs.length ≤ 40000)
    (hw : ∀ x y, wipe (((wipe σ vs).set j (some x)).set l (some y)) vs = wipe σ vs)
    (ht : ∀ (i : Nat) (x y : V) H1, Ex H H1 → xs[i]? = some x → ys[i]? = some y → EvT t (((wipe σ vs).set j (some x)).set l (some y)) H1 (f i)) (he : ∀ (i : Nat) (x y : V) H1, Ex H H1 → xs[i]? = some x → ys[i]? = some y → f i = true → Ev te (((wipe σ vs).set j (some x)).set l (some y)) H1 (v i)) :
    EvL (tLc (iZipA K ta) (gTup K 2 (gCons (gName j) (gCons (gName l) gNil))) t te vs) σ H (given (min xs.length ys.length) f v) := fun H0 e Q q => h H0 e _ fun us H1 e1 ⟨a, b, hv, hx, hy⟩ => ⟨a, b, xs, ys, hv, .inr ⟨hx, hy, fun N hN => by
  refine lc_it walk_zipT (Cw H1 f v N) ⟨hN, Ex.new hN, upd_same⟩ (fun i H' _ p => ⟨ex_t p.2.1 hx, ex_t p.2.1 hy⟩) (fun i x H' H'' hi p y => ?_) (fun H' p => q N H' (fresh_back e1 p.1) (e1.trans p.2.1) p.2.2)
  obtain ⟨T, y1, y2, rfl, hT, rfl, h3, h4⟩ := y
  have eT : Ex H' (upd H' T (.tup [y1, y2])) := Ex.new hT
  exact ⟨T, [y1, y2], rfl, st_of upd_same, rfl, y1, [y2], rfl, y2, [], rfl, rfl, hw _ _, cw_turn (⟨p.1, p.2.1.trans eT, eT _ _ p.2.2⟩ : Cw H1 f v N i _) (by omega) (ht i y1 y2 H1 (e.trans e1) h3 h4) fun hf => he i y1 y2 H1 (e.trans e1) h3 h4 hf⟩⟩⟩
theorem ap_tu {P : List V → Hp → Prop} {xs : List V} (h : EvTu K te σ H xs) (hr : EvAP tr σ H P) : EvAP (tCons te tr) σ H (fun vs H' => ∃ b ws, vs = .ref b :: ws ∧ SqT K H' b xs ∧ P ws H') := fun H1 e Q q =>
  h H1 e _ fun b H2 e2 h2 => hr H2 (e.trans e2) _ fun ws H3 e3 p => q (.ref b :: ws) H3 (e2.trans e3) ⟨b, ws, rfl, ex_t e3 h2, p⟩
end
theorem sqt_lup {K : PySem.W.Frag} {H : Hp} {b L : Addr} {xs ys : List V} {o : HO} (hL : H L = some (.lst ys)) (h : SqT K H b xs) : SqT K (upd H L o) b xs := by
  by_cases z : b = L
  · subst z
    rcases h with (h | ⟨o, h⟩) | h
    · rw [hL] at h; cases h
    · rw [hL] at h; cases h
    · exact .inr h
  · rcases h with (h | ⟨o, h⟩) | h
    · exact .inl (.inl (by rw [upd_ne z]; exact h))
    · exact .inl (.inr ⟨o, by rw [upd_ne z]; exact h⟩)
    · exact .inr h
theorem sl_tupAK {X : Cx} {K : PySem.W.Frag} (h : X.K = K) : SlR X (rSlA K) := by subst h; exact sl_tupA
section
variable {K : PySem.W.Frag} {σ : L2.St} {H : Hp} {te tl ta tb : TE} {t : TT} {a : Addr} {tr : TA} {D : Ends} {tz : TS}
/-- a value of which something is told; a new list of such -/
def EvQ (te : TE) (σ : L2.St) (H : Hp) (P : V → Hp → Prop) : Prop := ∀ H1, Ex H H1 → ∀ Q : VK, (∀ v H2, Ex H1 H2 → P v H2 → Q v H2) → te σ H1 Q
def EvLQ (te : TE) (σ : L2.St) (H : Hp) (P : List V → Hp → Prop) : Prop := ∀ H1, Ex H H1 → ∀ Q : VK, (∀ p xs H2, H1 p = none → Ex H1 H2 → H2 p = some (.lst xs) → P xs H2 → Q (.ref p) H2) → te σ H1 Q
theorem EvQ.mono {P P' : V → Hp → Prop} (h : EvQ te σ H P) (k : ∀ v H1, Ex H H1 → P v H1 → P' v H1) : EvQ te σ H P' := fun H1 e Q q => h H1 e Q fun v H2 e2 p => q v H2 e2 (k v H2 (e.trans e2) p)
theorem evq_of {v : V} {P : V → Hp → Prop} (h : Ev te σ H v) (hp : ∀ H1, Ex H H1 → P v H1) : EvQ te σ H P := fun H1 e Q q => h H1 e Q fun H2 e2 => q v H2 e2 (hp H2 (e.trans e2))
/-- [e for x in tuple] -/
theorem elq_lcT {xs : List V} {j : Nat} {vs : List Nat} (P : Nat → V → Hp → Prop) (st : ∀ i v H H', Ex H H' → P i v H → P i v H') (su : ∀ i v (H : Hp) (L : Addr) ys o, H L = some (.lst ys) → P i v H → P i v (upd H L o)) (h : Ev tl σ H (.ref a)) (hx : SqT K H a xs) (hz : xs.length ≤ 40000) (hw : ∀ x, wipe ((wipe σ vs).set j (some x)) vs = wipe σ vs)
    (he : ∀ (i : Nat) (x : V) H1, Ex H H1 → xs[i]? = some x → EvQ te ((wipe σ vs).set j (some x)) H1 (P i)) :
    EvLQ (tLc (iTup K tl) (gName j) tYes te vs) σ H (fun ys H' => ys.length = xs.length ∧ ∀ i y, ys[i]? = some y → P i y H') := fun H0 e Q q => h H0 e _ fun H1 e1 => ⟨a, rfl, ⟨xs, ex_t (e.trans e1) hx⟩, fun N hN => by
  refine lc_tup (xs := xs) (fun i H' => Ex H1 H' ∧ ∃ ys, H' N = some (.lst ys) ∧ ys.length = i ∧ ∀ k y, ys[k]? = some y → P k y H') ⟨Ex.new hN, [], upd_same, rfl, fun k y z => by cases z⟩ (fun i H' _ p => ex_t ((e.trans e1).trans p.1) hx) (fun i x H' hi p => ⟨hw x, ?_⟩) (fun H' ⟨e2, ys, h2, hl, hp⟩ => q N ys H' (fresh_back e1 hN) (e1.trans e2) h2 ⟨hl, hp⟩)
  obtain ⟨e2, ys, h2, hl, hp⟩ := p
  have lt := (List.getElem?_eq_some_iff.mp hi).1
  unfold tYes
  dsimp only
  rw [if_pos rfl]
  refine he i x H1 (e.trans e1) hi H' e2 _ fun v H3 e3 pv => ⟨ys, e3 _ _ h2, sz_lt (by omega), Ex.mut (e2.trans e3) hN, ys ++ [v], upd_same, by rw [List.length_append, hl]; rfl, fun k y hk => ?_⟩
  refine su k y H3 N _ _ (e3 _ _ h2) ?_
  by_cases hk2 : k < ys.length
  · rw [List.getElem?_append_left hk2] at hk
    exact st k y _ _ e3 (hp k y hk)
  · rw [List.getElem?_append_right (by omega)] at hk
    have hk0 : k - ys.length = 0 := by
      have := (List.getElem?_eq_some_iff.mp hk).1
      simp at this
      omega
    rw [hk0] at hk
    cases hk
    have : k = i := by omega
    rw [this]
    exact pv⟩
end
theorem c_listSK {X : Cx} {K : PySem.W.Frag} (h : X.K = K) : CallR X (.type "list") (rListS K) := by subst h; exact c_listS
/-- tuple(xs), xs a list or a tuple -/
def rTupA (K : PySem.W.Frag) : List V → Hp → VK → Prop := fun xs H Q => ∃ p ys, xs = [.ref p] ∧ ((SqL K H p ys ∧ ∀ l, H l = none → Q (.ref l) (upd H l (.tup ys))) ∨ (SqT K H p ys ∧ Q (.ref p) H))
theorem c_tupAK {X : Cx} {K : PySem.W.Frag} (h : X.K = K) : CallR X (.type "tuple") (rTupA K) := by subst h; exact call_tuple_of
theorem c_lenK {X : Cx} {K : PySem.W.Frag} (h : X.K = K) : CallR X (.builtin "len") (rLenS K) := by
  subst h
  exact c_len
theorem pi_tupK {X : Cx} {K : PySem.W.Frag} {tg l : Expr} {tl : TE} (h : X.K = K) (hl : PE X l tl) : PI X tg l (iTup K tl) := by
  subst h
  exact pi_tup hl
theorem pi_listK {X : Cx} {K : PySem.W.Frag} {tg l : Expr} {tl : TE} (h : X.K = K) (hl : PE X l tl) : PI X tg l (iList K tl) := by
  subst h
  exact pi_list hl
theorem op_in_seqK {X : Cx} {K : PySem.W.Frag} (h : X.K = K) : OpR X (compareOp .In) (rIn K false) := by
  subst h
  exact op_in_seq
theorem c_tupLK {X : Cx} {K : PySem.W.Frag} (h : X.K = K) : CallR X (.type "tuple") (rTupL K) := by
  subst h
  exact c_tupL
/-- a text some times over -/
theorem op_notIn_seqK {X : Cx} {K : PySem.W.Frag} (h : X.K = K) : OpR X (compareOp .NotIn) (rIn K true) := by
  subst h
  exact op_notIn_seq
theorem el_catV {σ : L2.St} {H : Hp} {ta tb : TE} {l : Addr} {xs ys : List V} (h : Ev ta σ H (.ref l)) (hl : H l = some (.lst xs)) (h2 : EvL tb σ H ys) (hz : xs.length + ys.length ≤ 100000) : EvL (tOp rCat ta tb) σ H (xs ++ ys) := fun H1 e Q q =>
  h H1 e _ fun H2 e2 => h2 H2 (e.trans e2) _ fun r H3 hr e3 h3 => ⟨l, r, xs, ys, rfl, rfl, ((e.trans e2).trans e3) _ _ hl, h3, sz_of hz, fun p hp => q p _ (fresh_back (e2.trans e3) hp) ((e2.trans e3).trans (Ex.new hp)) upd_same⟩
end Wo
set_option Elab.async false
set_option linter.all false
set_option maxRecDepth 100000
set_option maxHeartbeats 4000000
set_option exponentiation.threshold 500
namespace Kz
open PySem PySem.Spec PyProof.Rows L2 Evl Vr
local macro_rules | `(tactic| walk_at "sc") => `(tactic| first | (with_reducible assumption) | (with_reducible exact sc_mul (by omega)) | (with_reducible exact sc_mulr (by omega)) | (with_reducible exact sc_div (by omega) (by decide)) | (show (0 : Int) < _; omega) | (show _ ≠ (0 : Int); omega) | (with_reducible rfl) | decide)
local macro_rules | `(tactic| walk_at "sq") => `(tactic| first | assumption | exact sq_of (by assumption) | exact st_of (by assumption))
local macro_rules | `(tactic| walk_at "pl") => `(tactic| first | assumption | exact pl_int | exact pl_bl | exact pl_str | exact pl_non | exact pl_lst (by assumption) | exact pl_tup (by assumption) | exact pl_dK (by assumption))
local macro_rules | `(tactic| walk_at "rv") => `(tactic| first
  | with_reducible exact rv_I0
  | with_reducible exact ru_neg
  | ((with_reducible apply rv_I); walk_at "sc")
  | ((with_reducible apply rv_ixL); walk_at "sq"; first | rfl | assumption)
  | ((with_reducible apply rv_ixT); walk_at "sq"; first | rfl | assumption)
  | ((with_reducible apply rv_eq); rfl) | ((with_reducible apply rv_ne); rfl))
local macro_rules | `(tactic| walk_at "rc") => `(tactic| first
  | with_reducible exact rc_I1 | with_reducible exact rc_B1 | with_reducible exact rc_I2 | ((with_reducible apply rc_repr); walk_at "sc") | ((with_reducible apply rc_lenL); walk_at "sq")
  | ((with_reducible apply rc_isiInt); walk_at "pl") | ((with_reducible apply rc_isiBool); walk_at "pl"))
local macro_rules | `(tactic| walk_at "ea") => `(tactic| first
  | with_reducible exact ea_nil | ((with_reducible apply ea_cons); walk_at "ev"; walk_at "ea"))
local macro_rules | `(tactic| walk_at "pow") => `(tactic| first
  | with_reducible exact ev_pow (a := 10) (b := 9) (c := 1000000000) (by decide +kernel) (by decide +kernel)
  | with_reducible exact ev_pow (a := 10) (b := 10) (c := 10000000000) (by decide +kernel) (by decide +kernel)
  | with_reducible exact ev_pow (a := 10) (b := 12) (c := 1000000000000) (by decide +kernel) (by decide +kernel)
  | with_reducible exact ev_pow (a := 10) (b := 17) (c := 100000000000000000) (by decide +kernel) (by decide +kernel)
  | with_reducible exact ev_pow (a := 10) (b := 20) (c := 100000000000000000000) (by decide +kernel) (by decide +kernel)
  | with_reducible exact ev_pow (a := 10) (b := 29) (c := 100000000000000000000000000000) (by decide +kernel) (by decide +kernel)
  | with_reducible exact ev_pow (a := 10) (b := 30) (c := 1000000000000000000000000000000) (by decide +kernel) (by decide +kernel)
  | with_reducible exact ev_pow (a := 10) (b := 40) (c := 10000000000000000000000000000000000000000) (by decide +kernel) (by decide +kernel)
  | with_reducible exact ev_pow (a := 10) (b := 57) (c := 1000000000000000000000000000000000000000000000000000000000) (by decide +kernel) (by decide +kernel)
  | with_reducible exact ev_pow (a := 10) (b := 58) (c := 10000000000000000000000000000000000000000000000000000000000) (by decide +kernel) (by decide +kernel)
  | with_reducible exact ev_pow (a := 10) (b := 59) (c := 100000000000000000000000000000000000000000000000000000000000) (by decide +kernel) (by decide +kernel)
  | with_reducible exact ev_pow (a := 10) (b := 60) (c := 1000000000000000000000000000000000000000000000000000000000000) (by decide +kernel) (by decide +kernel))
local macro_rules | `(tactic| walk_at "call") => `(tactic| (intro H9 e9; first | exact ⟨_, rfl, rfl⟩ | exact ⟨_, _, rfl, rfl⟩ | exact ⟨_, _, _, rfl, rfl⟩ | exact ⟨_, rfl, by walk_at "pl", rfl⟩ | (refine ⟨_, _, _, rfl, ?_, rfl⟩; first | exact Plain.ex e9 (by assumption) | walk_at "pl") | (refine ⟨_, rfl, ?_, rfl⟩; first | exact Plain.ex e9 (by assumption) | walk_at "pl")))
local macro_rules | `(tactic| walk_at "ev") => `(tactic| first
  | with_reducible exact ev_c
  | exact ev_var rfl
  | walk_at "pow"
  | ((with_reducible apply ev_op); walk_at "ev"; walk_at "ev"; walk_at "rv")
  | ((with_reducible apply ev_un); walk_at "ev"; walk_at "rv")
  | ((with_reducible apply ev_cb); walk_at "ea"; walk_at "rc")
  | ((with_reducible apply ev_callP); walk_at "ea"; walk_at "call")
  | ((with_reducible apply ev_chain); walk_at "ev"; walk_at "ev"; walk_at "rv"; walk_at "ev"; walk_at "rv")
  | ((with_reducible apply ev_andV); walk_at "ev"; intro _; walk_at "ev")
  | ((with_reducible apply ev_orV); walk_at "ev"; intro _; walk_at "ev")
  | ((with_reducible apply ev_ite); walk_at "et"; intro _; walk_at "ev"; intro _; walk_at "ev")
  | ((with_reducible apply ev_notV); walk_at "ev"))
local macro_rules | `(tactic| walk_at "et") => `(tactic| first
  | ((with_reducible apply et_test); walk_at "ev")
  | ((with_reducible apply et_B); walk_at "ev")
  | ((with_reducible apply et_and); walk_at "et"; intro _; walk_at "et")
  | ((with_reducible apply et_or); walk_at "et"; intro _; walk_at "et")
  | ((with_reducible apply et_not); walk_at "et"))
open En Wo
def goneD (d : PyData) : Bool := isTupD d && ((tupD d).all wholeD && ascI ((tupD d).map intD))
def idD (d : PyData) : Int := intD (atD d 0)
def comeD (d : PyData) : Bool := isTupD d && ((tupD d).all thingD && ascI ((tupD d).map idD))
def keyD (d : PyData) : Int × Int := (idD d, intD (atD d 1))
def chgsD (d : PyData) : Bool := isTupD d && ((tupD d).all chgD && ascB lt2 ((tupD d).map keyD))
theorem whole_int {d : PyData} (h : wholeD d = true) : ∃ n, d = .int n := by
  cases d <;> first | exact ⟨_, rfl⟩ | cases h
theorem within_int {lo hi : Int} {d : PyData} (h : withinD lo hi d = true) : ∃ n, d = .int n := by
  cases d <;> first | exact ⟨_, rfl⟩ | cases h
theorem daa_ints {K : PySem.W.Frag} {H : Hp} : ∀ {xs : List V} {ds : List PyData}, DaAll K H xs ds → (∀ d ∈ ds, ∃ n, d = .int n) → xs = (ds.map intD).map V.int
  | [], ds, h, _ => by rw [h.unn]; rfl
  | x :: xs, ds, h, g => by
    obtain ⟨d, ds', rfl, h1, h2⟩ := h.unc
    obtain ⟨n, rfl⟩ := g d (List.mem_cons_self ..)
    have z : x = .int n := by cases h1; rfl
    rw [z, daa_ints h2 fun d' hd => g d' (List.mem_cons_of_mem _ hd)]
    rfl
theorem thing_id {d : PyData} (h : thingD d = true) : isTupD d = true ∧ (tupD d).length = 3 ∧ wholeD (atD d 0) = true ∧ nameD (atD d 1) = true ∧ numsD (atD d 2) = true := by
  unfold thingD at h
  simp only [Bool.and_eq_true, decide_eq_true_eq] at h
  exact ⟨h.1, h.2.1, h.2.2.1, h.2.2.2.1, h.2.2.2.2⟩
theorem chg_id {d : PyData} (h : chgD d = true) : isTupD d = true ∧ (tupD d).length = 3 ∧ wholeD (atD d 0) = true ∧ withinD 0 7 (atD d 1) = true ∧ withinD (-1000000000) 1000000000 (atD d 2) = true := by
  unfold chgD at h
  simp only [Bool.and_eq_true, decide_eq_true_eq] at h
  exact ⟨h.1, h.2.1, h.2.2.1, h.2.2.2.1, h.2.2.2.2⟩
/-- data that is a tuple of three -/
theorem Da.three {K : PySem.W.Frag} {H : Hp} {x : V} {d : PyData} (h : Da K H x d) (ht : isTupD d = true) (hl : (tupD d).length = 3) : ∃ r x0 x1 x2, x = .ref r ∧ SqT K H r [x0, x1, x2] ∧ Da K H x0 (atD d 0) ∧ Da K H x1 (atD d 1) ∧ Da K H x2 (atD d 2) := by
  obtain ⟨r, xs, rfl, hX, hD⟩ := h.tupE ht
  obtain ⟨x0, x1, x2, d0, d1, d2, rfl, he, h0, h1, h2⟩ := hD.three hl
  refine ⟨r, x0, x1, x2, rfl, hX, ?_, ?_, ?_⟩
  · unfold atD; rw [he]; exact h0
  · unfold atD; rw [he]; exact h1
  · unfold atD; rw [he]; exact h2
theorem Da.int_eq {K : PySem.W.Frag} {H : Hp} {x : V} {d : PyData} (h : Da K H x d) (g : ∃ n, d = .int n) : x = .int (intD d) := by
  obtain ⟨n, rfl⟩ := g
  cases h
  rfl
theorem ap_mono {σ : L2.St} {H : Hp} {ts : TA} {P P' : List V → Hp → Prop} (h : EvAP ts σ H P) (k : ∀ vs H1, Ex H H1 → P vs H1 → P' vs H1) : EvAP ts σ H P' := fun H1 e Q q => h H1 e Q fun vs H2 e2 p => q vs H2 e2 (k vs H2 (e.trans e2) p)
section
variable {P : Program} {w : World} {K : PySem.W.Frag} {mg : Str → Option Value} {base : Heap}
def kAscT (K : PySem.W.Frag) (vs : List V) (H : Hp) (z : V) : Prop := ∃ (a : Addr) (ns : List Int), vs = [.ref a] ∧ SqT K H a (ns.map V.int) ∧ ns.length ≤ 4000 ∧ z = .bl (ascI ns)
def kAscL (K : PySem.W.Frag) (vs : List V) (H : Hp) (z : V) : Prop := ∃ (a : Addr) (ns : List Int), vs = [.ref a] ∧ SqL K H a (ns.map V.int) ∧ ns.length ≤ 4000 ∧ z = .bl (ascI ns)
def kAscP (K : PySem.W.Frag) (vs : List V) (H : Hp) (z : V) : Prop := ∃ (a : Addr) (xs : List V) (ps : List (Int × Int)), vs = [.ref a] ∧ SqL K H a xs ∧ xs.length = ps.length ∧ (∀ (i : Nat) x p, xs[i]? = some x → ps[i]? = some p → PrAt K H x p) ∧ ps.length ≤ 4000 ∧ z = .bl (ascB lt2 ps)
theorem prat_ex {H H' : Hp} {v : V} {p : Int × Int} (e : Ex H H') (h : PrAt K H v p) : PrAt K H' v p := by
  obtain ⟨r, h1, h2⟩ := h
  exact ⟨r, h1, ex_t e h2⟩
theorem int_get {ns : List Int} {i : Nat} {x : V} (h : (ns.map V.int)[i]? = some x) : x = .int (ns.getD i 0) := by
  rw [List.getElem?_map] at h
  cases e : ns[i]? with
  | none => rw [e] at h; cases h
  | some n =>
    rw [e] at h
    cases h
    rw [List.getD_eq_getElem?_getD, e]
    rfl
theorem drop_get {α : Type} {l : List α} {i : Nat} : (l.drop 1)[i]? = l[i + 1]? := by rw [List.getElem?_drop, Nat.add_comm]
theorem asc_given (ns : List Int) (k : Nat) (hk : k = ns.length) : given (min k (k - 1)) (fun _ => true) (fun i => V.bl (decide (ns.getD i 0 < ns.getD (i + 1) 0))) = ((List.range (ns.length - 1)).map fun i => decide (ns.getD i 0 < ns.getD (i + 1) 0)).map V.bl := by
  rw [given_range, hk, Nat.min_eq_right (Nat.sub_le _ _)]
theorem ok_asc_tup (T : Txt K mg w) : FnOk P w K mg base CX0 1 T.a_do_ascend T.fd_do_ascend ["members"] (Pure (kAscT K)) := by
  refine T.F_do_ascend.ok sc_do_ascend (fun vs H Q E h => ?_) (fun cdv A outer s H vs Q E hr h => ?_)
  · obtain ⟨_, ⟨_, _, rfl, _⟩, _⟩ := h; rfl
  · obtain ⟨_, ⟨a, ns, rfl, hT, hl, rfl⟩, q⟩ := h
    refine ⟨_, (pss_one (ps_ret (pe_callB (cr_all rfl) (by rfl) T.z_all (by decide +kernel) (pa_cons (pe_lc (own := [("low", 1), ("high", 2)]) (g := gTup _ 2 (gCons (gName 1) (gCons (gName 2) gNil))) (by rfl) sc_do_ascend.nd (RZ.pi_zipA rfl T.z_zip (pa_cons (pv 0) (pa_cons (pe_slice sl_tupA (pv 0) (po_some pe_int) po_none) pa_nil))) (blkOk_by (own := [("low", 1), ("high", 2)]) (N := ["members", "low", "high"]) (sc := defScope s_do_ascend) (by decide +kernel)) (fun _ _ _ _ _ => pg_tup rfl (pgs_cons (pg_name (i := 1) sc_do_ascend.nd rfl (by first | exact Or.inl rfl | exact Or.inr rfl)) (pgs_cons (pg_name (i := 2) sc_do_ascend.nd rfl (by first | exact Or.inl rfl | exact Or.inr rfl)) pgs_nil))) (fun _ _ _ _ _ => pts_nil) (fun _ _ _ _ _ => (pe_cmpR op_lt (pv 1) (pv 2) (nomark _)))) pa_nil)))), ?_⟩
    refine s_ret (v := .bl (ascI ns)) (ev_is (ev_allN (bs := (List.range (ns.length - 1)).map fun i => decide (ns.getD i 0 < ns.getD (i + 1) 0)) ?_) (by rw [asc_range (fun x y => decide (x < y)) 0]; rfl)) q
    have e := asc_given ns (ns.map V.int).length (by simp)
    have e2 : ((ns.map V.int).drop 1).length = (ns.map V.int).length - 1 := by simp
    rw [← e, ← e2]
    refine el_lcZipT (fun _ => true) _ (ap_mono (ap_cons (ev_var rfl) (ap_tu (tu_rest (ev_var rfl) hT (eo_some ev_c) eo_none) ap_nil)) fun vs H1 e1 ⟨_, h1, b, _, h2, h3, h4⟩ => ⟨a, b, by rw [h1, h2, h4], ex_t e1 hT, h3⟩) (by simp; omega) (fun _ _ => rfl) (fun i x y H1 e1 hx hy => et_yes) fun i x y H1 e1 hx hy _ => ?_
    rw [int_get hx]
    rw [drop_get] at hy
    rw [int_get hy]
    exact ev_op (ev_var rfl) (ev_var rfl) rv_I0
theorem ok_asc_list (T : Txt K mg w) : FnOk P w K mg base CX0 1 T.a_do_ascend T.fd_do_ascend ["members"] (Pure (kAscL K)) := by
  refine T.F_do_ascend.ok sc_do_ascend (fun vs H Q E h => ?_) (fun cdv A outer s H vs Q E hr h => ?_)
  · obtain ⟨_, ⟨_, _, rfl, _⟩, _⟩ := h; rfl
  · obtain ⟨_, ⟨a, ns, rfl, hT, hl, rfl⟩, q⟩ := h
    refine ⟨_, (pss_one (ps_ret (pe_callB (cr_all rfl) (by rfl) T.z_all (by decide +kernel) (pa_cons (pe_lc (own := [("low", 1), ("high", 2)]) (g := gTup _ 2 (gCons (gName 1) (gCons (gName 2) gNil))) (by rfl) sc_do_ascend.nd (pi_zip rfl T.z_zip (pa_cons (pv 0) (pa_cons (pe_slice sl_list (pv 0) (po_some pe_int) po_none) pa_nil))) (blkOk_by (own := [("low", 1), ("high", 2)]) (N := ["members", "low", "high"]) (sc := defScope s_do_ascend) (by decide +kernel)) (fun _ _ _ _ _ => pg_tup rfl (pgs_cons (pg_name (i := 1) sc_do_ascend.nd rfl (by first | exact Or.inl rfl | exact Or.inr rfl)) (pgs_cons (pg_name (i := 2) sc_do_ascend.nd rfl (by first | exact Or.inl rfl | exact Or.inr rfl)) pgs_nil))) (fun _ _ _ _ _ => pts_nil) (fun _ _ _ _ _ => (pe_cmpR op_lt (pv 1) (pv 2) (nomark _)))) pa_nil)))), ?_⟩
    refine s_ret (v := .bl (ascI ns)) (ev_is (ev_allN (bs := (List.range (ns.length - 1)).map fun i => decide (ns.getD i 0 < ns.getD (i + 1) 0)) ?_) (by rw [asc_range (fun x y => decide (x < y)) 0]; rfl)) q
    have e := asc_given ns (ns.map V.int).length (by simp)
    have e2 : ((ns.map V.int).drop 1).length = (ns.map V.int).length - 1 := by simp
    rw [← e, ← e2]
    refine el_lcZip (fun _ => true) _ (ap_mono (ap_cons (ev_var rfl) (ap_consL (el_sl (lo := some 1) (hi := none) (ev_var rfl) (eo_some ev_c) eo_none hT) ap_nil)) fun vs H1 e1 ⟨_, h1, b, _, h2, h3, h4⟩ => ⟨a, b, by rw [h1, h2, h4], ex_l e1 hT, by rw [← cut1]; exact sq_of h3⟩) (by simp; omega) (fun _ _ => rfl) (fun i x y H1 e1 hx hy => et_yes) fun i x y H1 e1 hx hy _ => ?_
    rw [int_get hx]
    rw [drop_get] at hy
    rw [int_get hy]
    exact ev_op (ev_var rfl) (ev_var rfl) rv_I0
theorem ok_asc_pairs (T : Txt K mg w) : FnOk P w K mg base CX0 1 T.a_do_ascend T.fd_do_ascend ["members"] (Pure (kAscP K)) := by
  refine T.F_do_ascend.ok sc_do_ascend (fun vs H Q E h => ?_) (fun cdv A outer s H vs Q E hr h => ?_)
  · obtain ⟨_, ⟨_, _, _, rfl, _⟩, _⟩ := h; rfl
  · obtain ⟨_, ⟨a, xs, ps, rfl, hT, hn, hP, hl, rfl⟩, q⟩ := h
    refine ⟨_, (pss_one (ps_ret (pe_callB (cr_all rfl) (by rfl) T.z_all (by decide +kernel) (pa_cons (pe_lc (own := [("low", 1), ("high", 2)]) (g := gTup _ 2 (gCons (gName 1) (gCons (gName 2) gNil))) (by rfl) sc_do_ascend.nd (pi_zip rfl T.z_zip (pa_cons (pv 0) (pa_cons (pe_slice sl_list (pv 0) (po_some pe_int) po_none) pa_nil))) (blkOk_by (own := [("low", 1), ("high", 2)]) (N := ["members", "low", "high"]) (sc := defScope s_do_ascend) (by decide +kernel)) (fun _ _ _ _ _ => pg_tup rfl (pgs_cons (pg_name (i := 1) sc_do_ascend.nd rfl (by first | exact Or.inl rfl | exact Or.inr rfl)) (pgs_cons (pg_name (i := 2) sc_do_ascend.nd rfl (by first | exact Or.inl rfl | exact Or.inr rfl)) pgs_nil))) (fun _ _ _ _ _ => pts_nil) (fun _ _ _ _ _ => (pe_cmpR (op_lt2 (K := K) hr.units rfl rfl) (pv 1) (pv 2) (nomark _)))) pa_nil)))), ?_⟩
    refine s_ret (v := .bl (ascB lt2 ps)) (ev_is (ev_allN (bs := (List.range (ps.length - 1)).map fun i => lt2 (ps.getD i (0, 0)) (ps.getD (i + 1) (0, 0))) ?_) (by rw [asc_range lt2 (0, 0)])) q
    have e : given (min xs.length (xs.length - 1)) (fun _ => true) (fun i => V.bl (lt2 (ps.getD i (0, 0)) (ps.getD (i + 1) (0, 0)))) = ((List.range (ps.length - 1)).map fun i => lt2 (ps.getD i (0, 0)) (ps.getD (i + 1) (0, 0))).map V.bl := by
      rw [given_range, hn, Nat.min_eq_right (Nat.sub_le _ _)]
    have e2 : (xs.drop 1).length = xs.length - 1 := by simp
    rw [← e, ← e2]
    have pg : ∀ (i : Nat) (x : V), xs[i]? = some x → PrAt K H x (ps.getD i (0, 0)) := fun i x hx => by
      have hi := (List.getElem?_eq_some_iff.mp hx).1
      have hp : ps[i]? = some (ps[i]'(by omega)) := List.getElem?_eq_getElem (by omega)
      rw [List.getD_eq_getElem?_getD, hp]
      exact hP i x _ hx hp
    refine el_lcZip (fun _ => true) _ (ap_mono (ap_cons (ev_var rfl) (ap_consL (el_sl (lo := some 1) (hi := none) (ev_var rfl) (eo_some ev_c) eo_none hT) ap_nil)) fun vs H1 e1 ⟨_, h1, b, _, h2, h3, h4⟩ => ⟨a, b, by rw [h1, h2, h4], ex_l e1 hT, by rw [← cut1]; exact sq_of h3⟩) (by omega) (fun _ _ => rfl) (fun i x y H1 e1 hx hy => et_yes) fun i x y H1 e1 hx hy _ => ?_
    rw [drop_get] at hy
    exact ev_op (ev_var rfl) (ev_var rfl) fun H2 e2 Q q => ⟨_, _, prat_ex (e1.trans e2) (pg i x hx), prat_ex (e1.trans e2) (pg (i + 1) y hy), q H2 (Ex.refl H2)⟩
theorem ok_are_gone (T : Txt K mg w) : FnOk P w K mg base CX0 4 T.a_are_gone T.fd_are_gone ["value"] (Pure (kJ K goneD)) := by
  have G_is_whole := ok_is_wholeX (P := P) (w := w) (base := base) T
  have G_do_ascend := ok_asc_tup (P := P) (w := w) (base := base) T
  refine T.F_are_gone.ok sc_are_gone (fun vs H Q E h => ?_) (fun cdv A outer s H vs Q E hr h => ?_)
  · obtain ⟨_, ⟨_, _, rfl, _⟩, _⟩ := h; rfl
  · obtain ⟨_, ⟨v, d, rfl, hd, hs, rfl⟩, q⟩ := h
    refine ⟨_, (pss_one (ps_ret (pe_and (pe_callB call_isi (by rfl) T.z_isinstance (by decide +kernel) (pa_cons (pv 0) (pa_cons (pe_bltn (v := .ty "tuple") (by rfl) T.z_tuple (by decide +kernel) rfl) pa_nil))) (pe_and (pe_callB (cr_all rfl) (by rfl) T.z_all (by decide +kernel) (pa_cons (pe_lc (own := [("thing", 1)]) (g := gName 1) (by rfl) sc_are_gone.nd (pi_tup (pv 0)) (blkOk_by (own := [("thing", 1)]) (N := ["value", "thing"]) (sc := defScope s_are_gone) (by decide +kernel)) (fun _ _ _ _ _ => pg_name (i := 1) sc_are_gone.nd rfl (by first | exact Or.inl rfl | exact Or.inr rfl)) (fun _ _ _ _ _ => pts_nil) (fun _ _ _ _ _ => (pe_call G_is_whole (hr.mono (by decide)) (by rfl) T.g_is_whole T.F_is_whole.kp T.b_is_whole .nil pass0 (pa_cons (pv 1) pa_nil)))) pa_nil)) (pe_one (pe_call G_do_ascend (hr.mono (by decide)) (by rfl) T.g_do_ascend T.F_do_ascend.kp T.b_do_ascend .nil pass0 (pa_cons (pv 0) pa_nil))))))), ?_⟩
    obtain ⟨hl, hsm⟩ := sm_tupD hs
    refine s_ret (v := .bl (goneD d)) (ev_andV (ev_cb (vs := [v, .ty "tuple"]) (by walk_at "ea") hd.isTup) fun ht => ?_) q
    obtain ⟨r, xs, rfl, hX, hD⟩ := hd.tupE ht
    have hlen := hD.len
    refine ev_andV (ev_allD wholeD (ev_var rfl) hX hD (by omega) (fun _ => rfl) fun i x d' H2 e2 hx hd' hda => ev_callP (vs := [x]) (by walk_at "ea") fun H3 e3 => ⟨x, rfl, (da_ex e3 _ _ hda).pl, by rw [hda.whole]⟩) fun hw => ?_
    have hw := List.all_eq_true.mp hw
    refine ev_callP (vs := [.ref r]) (by walk_at "ea") fun H3 e3 => ⟨r, (tupD d).map intD, rfl, ?_, by rw [List.length_map]; omega, rfl⟩
    rw [← daa_ints hD fun d' h' => whole_int (hw d' h')]
    exact ex_t e3 hX
theorem ok_are_coming (T : Txt K mg w) : FnOk P w K mg base CX0 6 T.a_are_coming T.fd_are_coming ["value"] (Pure (kJ K comeD)) := by
  have G_is_thing := ok_is_thingX (P := P) (w := w) (base := base) T
  have G_do_ascend := ok_asc_list (P := P) (w := w) (base := base) T
  refine T.F_are_coming.ok sc_are_coming (fun vs H Q E h => ?_) (fun cdv A outer s H vs Q E hr h => ?_)
  · obtain ⟨_, ⟨_, _, rfl, _⟩, _⟩ := h; rfl
  · obtain ⟨_, ⟨v, d, rfl, hd, hs, rfl⟩, q⟩ := h
    refine ⟨_, (pss_cons (ps_if (PW.pt (pw_or (pt_not (pt_val (pe_callB call_isi (by rfl) T.z_isinstance (by decide +kernel) (pa_cons (pv 0) (pa_cons (pe_bltn (v := .ty "tuple") (by rfl) T.z_tuple (by decide +kernel) rfl) pa_nil))))) (pw_or1 (pt_not (pt_val (pe_callB (cr_all rfl) (by rfl) T.z_all (by decide +kernel) (pa_cons (pe_lc (own := [("thing", 1)]) (g := gName 1) (by rfl) sc_are_coming.nd (pi_tup (pv 0)) (blkOk_by (own := [("thing", 1)]) (N := ["value", "thing"]) (sc := defScope s_are_coming) (by decide +kernel)) (fun _ _ _ _ _ => pg_name (i := 1) sc_are_coming.nd rfl (by first | exact Or.inl rfl | exact Or.inr rfl)) (fun _ _ _ _ _ => pts_nil) (fun _ _ _ _ _ => (pe_call G_is_thing (hr.mono (by decide)) (by rfl) T.g_is_thing T.F_is_thing.kp T.b_is_thing .nil pass0 (pa_cons (pv 1) pa_nil)))) pa_nil))))))) (pss_one (ps_ret pe_bl)) pss_nil)
  (pss_one (ps_ret (pe_call G_do_ascend (hr.mono (by decide)) (by rfl) T.g_do_ascend T.F_do_ascend.kp T.b_do_ascend .nil pass0 (pa_cons (pe_lc (own := [("thing", 1)]) (g := gName 1) (by rfl) sc_are_coming.nd (pi_tup (pv 0)) (blkOk_by (own := [("thing", 1)]) (N := ["value", "thing"]) (sc := defScope s_are_coming) (by decide +kernel)) (fun _ _ _ _ _ => pg_name (i := 1) sc_are_coming.nd rfl (by first | exact Or.inl rfl | exact Or.inr rfl)) (fun _ _ _ _ _ => pts_nil) (fun _ _ _ _ _ => (pe_ix (ix_tupK (K := K) rfl) (pv 1) pe_int (fun _ _ => rfl)))) pa_nil))))), ?_⟩
    obtain ⟨hl, hsm⟩ := sm_tupD hs
    cases hT : isTupD d with
    | false =>
      refine q_when (b := true) (et_is (et_or (a := true) (b := true) (et_is (et_not (et_B (ev_cb (vs := [v, .ty "tuple"]) (by walk_at "ea") hd.isTup))) (by rw [hT]; rfl)) (fun h => by cases h)) rfl) (fun _ H1 e1 => ?_) (fun h => by cases h)
      refine s_ret (v := .bl false) ev_c fun H2 e2 => ?_
      have z : comeD d = false := by unfold comeD; rw [hT]; rfl
      rw [z] at q
      exact q H2 (e1.trans e2)
    | true =>
      obtain ⟨r, xs, rfl, hX, hD⟩ := hd.tupE hT
      have hlen := hD.len
      refine q_when (b := !(tupD d).all thingD) (et_is (et_or (a := false) (b := !(tupD d).all thingD) (et_is (et_not (et_B (ev_cb (vs := [.ref r, .ty "tuple"]) (by walk_at "ea") hd.isTup))) (by rw [hT]; rfl)) fun _ => et_not (et_B (ev_allD thingD (ev_var rfl) hX hD (by omega) (fun _ => rfl) fun i x d' H2 e2 hx hd' hda => ev_callP (vs := [x]) (by walk_at "ea") fun H3 e3 => kj_of e3 hda (hsm d' (List.mem_of_getElem? hd')) rfl))) rfl) (fun hb H1 e1 => ?_) fun hb H1 e1 => ?_
      · refine s_ret (v := .bl false) ev_c fun H2 e2 => ?_
        have z : comeD d = false := by unfold comeD; rw [hT, nt hb]; rfl
        rw [z] at q
        exact q H2 (e1.trans e2)
      · have hb := nf hb
        have e : comeD d = ascI ((tupD d).map idD) := by unfold comeD; rw [hT, hb]; rfl
        rw [e] at q
        have hw := List.all_eq_true.mp hb
        have hX1 := ex_t e1 hX
        have hD1 := daa_ex e1 _ _ hD
        have he : given xs.length (fun _ => true) (fun i => V.int (idD ((tupD d).getD i .none))) = ((tupD d).map idD).map V.int := by
          rw [hlen, given_yes_map (tupD d) .none (fun d => V.int (idD d)), List.map_map]
          rfl
        refine s_ret (v := .bl (ascI ((tupD d).map idD))) (ev_callAP (ap_consL (xs := ((tupD d).map idD).map V.int) ?_ ap_nil) fun vs H2 e2 ⟨p, _, h1, h2, h3⟩ => ⟨p, (tupD d).map idD, by rw [h1, h3], sq_of h2, by rw [List.length_map]; omega, rfl⟩) fun H2 e2 => q H2 (e1.trans e2)
        rw [← he]
        refine el_lcT (fun _ => true) _ (ev_var rfl) hX1 (by omega) (fun _ => rfl) (fun i x H2 e2 hx => et_yes) fun i x H2 e2 hx _ => ?_
        obtain ⟨d', hd', hda⟩ := hD1.at hx
        have hg : (tupD d).getD i .none = d' := by rw [List.getD_eq_getElem?_getD, hd']; rfl
        obtain ⟨g1, g2, g3, _, _⟩ := thing_id (hw d' (List.mem_of_getElem? hd'))
        obtain ⟨r', x0, x1, x2, rfl, hX', h0, _, _⟩ := hda.three g1 g2
        rw [hg]
        obtain rfl := h0.int_eq (whole_int g3)
        exact ev_op (ev_var rfl) ev_c (rv_ixT (ex_t e2 hX') rfl)
theorem ok_are_changes (T : Txt K mg w) : FnOk P w K mg base CX0 5 T.a_are_changes T.fd_are_changes ["value"] (Pure (kJ K chgsD)) := by
  have G_is_change := ok_is_change (P := P) (w := w) (base := base) T
  have G_do_ascend := ok_asc_pairs (P := P) (w := w) (base := base) T
  refine T.F_are_changes.ok sc_are_changes (fun vs H Q E h => ?_) (fun cdv A outer s H vs Q E hr h => ?_)
  · obtain ⟨_, ⟨_, _, rfl, _⟩, _⟩ := h; rfl
  · obtain ⟨_, ⟨v, d, rfl, hd, hs, rfl⟩, q⟩ := h
    refine ⟨_, (pss_cons (ps_if (PW.pt (pw_or (pt_not (pt_val (pe_callB call_isi (by rfl) T.z_isinstance (by decide +kernel) (pa_cons (pv 0) (pa_cons (pe_bltn (v := .ty "tuple") (by rfl) T.z_tuple (by decide +kernel) rfl) pa_nil))))) (pw_or1 (pt_not (pt_val (pe_callB (cr_all rfl) (by rfl) T.z_all (by decide +kernel) (pa_cons (pe_lc (own := [("triple", 1)]) (g := gName 1) (by rfl) sc_are_changes.nd (pi_tup (pv 0)) (blkOk_by (own := [("triple", 1)]) (N := ["value", "triple"]) (sc := defScope s_are_changes) (by decide +kernel)) (fun _ _ _ _ _ => pg_name (i := 1) sc_are_changes.nd rfl (by first | exact Or.inl rfl | exact Or.inr rfl)) (fun _ _ _ _ _ => pts_nil) (fun _ _ _ _ _ => (pe_call G_is_change (hr.mono (by decide)) (by rfl) T.g_is_change T.F_is_change.kp T.b_is_change .nil pass0 (pa_cons (pv 1) pa_nil)))) pa_nil))))))) (pss_one (ps_ret pe_bl)) pss_nil)
  (pss_one (ps_ret (pe_call G_do_ascend (hr.mono (by decide)) (by rfl) T.g_do_ascend T.F_do_ascend.kp T.b_do_ascend .nil pass0 (pa_cons (pe_lc (own := [("triple", 1)]) (g := gName 1) (by rfl) sc_are_changes.nd (pi_tup (pv 0)) (blkOk_by (own := [("triple", 1)]) (N := ["value", "triple"]) (sc := defScope s_are_changes) (by decide +kernel)) (fun _ _ _ _ _ => pg_name (i := 1) sc_are_changes.nd rfl (by first | exact Or.inl rfl | exact Or.inr rfl)) (fun _ _ _ _ _ => pts_nil) (fun _ _ _ _ _ => (pe_slice (sl_tupAK (K := K) rfl) (pv 1) po_none (po_some pe_int)))) pa_nil))))), ?_⟩
    obtain ⟨hl, hsm⟩ := sm_tupD hs
    cases hT : isTupD d with
    | false =>
      refine q_when (b := true) (et_is (et_or (a := true) (b := true) (et_is (et_not (et_B (ev_cb (vs := [v, .ty "tuple"]) (by walk_at "ea") hd.isTup))) (by rw [hT]; rfl)) (fun h => by cases h)) rfl) (fun _ H1 e1 => ?_) (fun h => by cases h)
      refine s_ret (v := .bl false) ev_c fun H2 e2 => ?_
      have z : chgsD d = false := by unfold chgsD; rw [hT]; rfl
      rw [z] at q
      exact q H2 (e1.trans e2)
    | true =>
      obtain ⟨r, xs, rfl, hX, hD⟩ := hd.tupE hT
      have hlen := hD.len
      refine q_when (b := !(tupD d).all chgD) (et_is (et_or (a := false) (b := !(tupD d).all chgD) (et_is (et_not (et_B (ev_cb (vs := [.ref r, .ty "tuple"]) (by walk_at "ea") hd.isTup))) (by rw [hT]; rfl)) fun _ => et_not (et_B (ev_allD chgD (ev_var rfl) hX hD (by omega) (fun _ => rfl) fun i x d' H2 e2 hx hd' hda => ev_callP (vs := [x]) (by walk_at "ea") fun H3 e3 => kj_of e3 hda (hsm d' (List.mem_of_getElem? hd')) rfl))) rfl) (fun hb H1 e1 => ?_) fun hb H1 e1 => ?_
      · refine s_ret (v := .bl false) ev_c fun H2 e2 => ?_
        have z : chgsD d = false := by unfold chgsD; rw [hT, nt hb]; rfl
        rw [z] at q
        exact q H2 (e1.trans e2)
      · have hb := nf hb
        have e : chgsD d = ascB lt2 ((tupD d).map keyD) := by unfold chgsD; rw [hT, hb]; rfl
        rw [e] at q
        have hw := List.all_eq_true.mp hb
        have hX1 := ex_t e1 hX
        have hD1 := daa_ex e1 _ _ hD
        refine s_ret (v := .bl (ascB lt2 ((tupD d).map keyD))) (fun H0 e0 Q' q' => ?_) fun H2 e2 => q H2 (e1.trans e2)
        refine elq_lcT (K := K) (fun i v H' => PrAt K H' v (keyD ((tupD d).getD i .none))) (fun i v H H' e h => prat_ex e h) (fun i v H L ys o hL ⟨r, h1, h2⟩ => ⟨r, h1, sqt_lup hL h2⟩) (ev_var rfl) hX1 (by omega) (fun _ => rfl) (fun i x H2 e2 hx => ?_) H0 e0 (fun v H' => Pure (kAscP K) ([v] ++ []) H' Q' E) fun p ys H2 hp e2 h2 ⟨h3, h4⟩ => ⟨_, ⟨p, ys, (tupD d).map keyD, rfl, sq_of h2, by rw [h3, hlen, List.length_map], fun i x pr hx hpr => ?_, by rw [List.length_map]; omega, rfl⟩, fun H3 e3 => q' H3 (e2.trans e3)⟩
        · obtain ⟨d', hd', hda⟩ := hD1.at hx
          have hg : (tupD d).getD i .none = d' := by rw [List.getD_eq_getElem?_getD, hd']; rfl
          obtain ⟨g1, g2, g3, g4, _⟩ := chg_id (hw d' (List.mem_of_getElem? hd'))
          obtain ⟨r', x0, x1, x2, rfl, hX', h0, h1, _⟩ := hda.three g1 g2
          rw [hg]
          obtain rfl := h0.int_eq (whole_int g3)
          obtain rfl := h1.int_eq (within_int g4)
          refine fun H3 e3 Q q => tu_sl (K := K) (lo := none) (hi := some 2) (ev_var rfl) (ex_t e2 hX') eo_none (eo_some ev_c) (fun z => ?_) H3 e3 Q fun b H4 e4 h4 => q _ H4 e4 ⟨b, rfl, h4⟩
          have z2 := z.2
          unfold HT.sIx at z2
          simp at z2
        · have hi := (List.getElem?_eq_some_iff.mp hpr).1
          rw [List.getElem?_map] at hpr
          cases hd' : (tupD d)[i]? with
          | none => rw [hd'] at hpr; cases hpr
          | some d' =>
            rw [hd'] at hpr
            cases hpr
            have z := h4 i x hx
            rw [List.getD_eq_getElem?_getD, hd'] at z
            exact z
end
end Kz
set_option Elab.async false
set_option linter.all false
set_option maxRecDepth 100000
set_option maxHeartbeats 4000000
set_option exponentiation.threshold 500
namespace Kz
open PySem PySem.Spec PyProof.Rows L2 Evl Vr
local macro_rules | `(tactic| walk_at "sc") => `(tactic| first | (with_reducible assumption) | (with_reducible exact sc_mul (by omega)) | (with_reducible exact sc_mulr (by omega)) | (with_reducible exact sc_div (by omega) (by decide)) | (show (0 : Int) < _; omega) | (show _ ≠ (0 : Int); omega) | (with_reducible rfl) | decide)
local macro_rules | `(tactic| walk_at "sq") => `(tactic| first | assumption | exact sq_of (by assumption) | exact st_of (by assumption))
local macro_rules | `(tactic| walk_at "pl") => `(tactic| first | assumption | exact pl_int | exact pl_bl | exact pl_str | exact pl_non | exact pl_lst (by assumption) | exact pl_tup (by assumption) | exact pl_dK (by assumption))
local macro_rules | `(tactic| walk_at "rv") => `(tactic| first
  | with_reducible exact rv_I0
  | with_reducible exact ru_neg
  | ((with_reducible apply rv_I); walk_at "sc")
  | ((with_reducible apply rv_ixL); walk_at "sq"; first | rfl | assumption)
  | ((with_reducible apply rv_ixT); walk_at "sq"; first | rfl | assumption)
  | ((with_reducible apply rv_eq); rfl) | ((with_reducible apply rv_ne); rfl))
local macro_rules | `(tactic| walk_at "rc") => `(tactic| first
  | with_reducible exact rc_I1 | with_reducible exact rc_B1 | with_reducible exact rc_I2 | ((with_reducible apply rc_repr); walk_at "sc") | ((with_reducible apply rc_lenL); walk_at "sq")
  | ((with_reducible apply rc_isiInt); walk_at "pl") | ((with_reducible apply rc_isiBool); walk_at "pl"))
local macro_rules | `(tactic| walk_at "ea") => `(tactic| first
  | with_reducible exact ea_nil | ((with_reducible apply ea_cons); walk_at "ev"; walk_at "ea"))
local macro_rules | `(tactic| walk_at "pow") => `(tactic| first
  | with_reducible exact ev_pow (a := 10) (b := 9) (c := 1000000000) (by decide +kernel) (by decide +kernel)
  | with_reducible exact ev_pow (a := 10) (b := 10) (c := 10000000000) (by decide +kernel) (by decide +kernel)
  | with_reducible exact ev_pow (a := 10) (b := 12) (c := 1000000000000) (by decide +kernel) (by decide +kernel)
  | with_reducible exact ev_pow (a := 10) (b := 17) (c := 100000000000000000) (by decide +kernel) (by decide +kernel)
  | with_reducible exact ev_pow (a := 10) (b := 20) (c := 100000000000000000000) (by decide +kernel) (by decide +kernel)
  | with_reducible exact ev_pow (a := 10) (b := 29) (c := 100000000000000000000000000000) (by decide +kernel) (by decide +kernel)
  | with_reducible exact ev_pow (a := 10) (b := 30) (c := 1000000000000000000000000000000) (by decide +kernel) (by decide +kernel)
  | with_reducible exact ev_pow (a := 10) (b := 40) (c := 10000000000000000000000000000000000000000) (by decide +kernel) (by decide +kernel)
  | with_reducible exact ev_pow (a := 10) (b := 57) (c := 1000000000000000000000000000000000000000000000000000000000) (by decide +kernel) (by decide +kernel)
  | with_reducible exact ev_pow (a := 10) (b := 58) (c := 10000000000000000000000000000000000000000000000000000000000) (by decide +kernel) (by decide +kernel)
  | with_reducible exact ev_pow (a := 10) (b := 59) (c := 100000000000000000000000000000000000000000000000000000000000) (by decide +kernel) (by decide +kernel)
  | with_reducible exact ev_pow (a := 10) (b := 60) (c := 1000000000000000000000000000000000000000000000000000000000000) (by decide +kernel) (by decide +kernel))
local macro_rules | `(tactic| walk_at "call") => `(tactic| (intro H9 e9; first | exact ⟨_, rfl, rfl⟩ | exact ⟨_, _, rfl, rfl⟩ | exact ⟨_, _, _, rfl, rfl⟩ | exact ⟨_, rfl, by walk_at "pl", rfl⟩ | (refine ⟨_, _, _, rfl, ?_, rfl⟩; first | exact Plain.ex e9 (by assumption) | walk_at "pl") | (refine ⟨_, rfl, ?_, rfl⟩; first | exact Plain.ex e9 (by assumption) | walk_at "pl")))
local macro_rules | `(tactic| walk_at "ev") => `(tactic| first
  | with_reducible exact ev_c
  | exact ev_var rfl
  | walk_at "pow"
  | ((with_reducible apply ev_op); walk_at "ev"; walk_at "ev"; walk_at "rv")
  | ((with_reducible apply ev_un); walk_at "ev"; walk_at "rv")
  | ((with_reducible apply ev_cb); walk_at "ea"; walk_at "rc")
  | ((with_reducible apply ev_callP); walk_at "ea"; walk_at "call")
  | ((with_reducible apply ev_chain); walk_at "ev"; walk_at "ev"; walk_at "rv"; walk_at "ev"; walk_at "rv")
  | ((with_reducible apply ev_andV); walk_at "ev"; intro _; walk_at "ev")
  | ((with_reducible apply ev_orV); walk_at "ev"; intro _; walk_at "ev")
  | ((with_reducible apply ev_ite); walk_at "et"; intro _; walk_at "ev"; intro _; walk_at "ev")
  | ((with_reducible apply ev_notV); walk_at "ev"))
local macro_rules | `(tactic| walk_at "et") => `(tactic| first
  | ((with_reducible apply et_test); walk_at "ev")
  | ((with_reducible apply et_B); walk_at "ev")
  | ((with_reducible apply et_and); walk_at "et"; intro _; walk_at "et")
  | ((with_reducible apply et_or); walk_at "et"; intro _; walk_at "et")
  | ((with_reducible apply et_not); walk_at "et"))
open En Wo
def idsD (d : PyData) : List Int := (tupD (atD d 3)).map intD ++ (tupD (atD d 4)).map idD
def chsD (d : PyData) : List Int := (tupD (atD d 5)).map idD
def lastD (d : PyData) : Bool := decide (cnt (idsD d ++ chsD d) = (idsD d).length + cnt (chsD d))
def headD (d : PyData) : Bool := wholeD (atD d 0) && (wholeD (atD d 1) && withinD 0 (999999937 - 1) (atD d 2))
def partD (d : PyData) : Bool := goneD (atD d 3) && (comeD (atD d 4) && chgsD (atD d 5))
/-- whether data is a difference -/
def diffD (d : PyData) : Bool := isTupD d && (decide ((tupD d).length = 6) && (headD d && (partD d && lastD d)))
theorem DaAll.six {K : PySem.W.Frag} {H : Hp} {xs : List V} {d : PyData} (h : DaAll K H xs (tupD d)) (hl : (tupD d).length = 6) : ∃ x0 x1 x2 x3 x4 x5, xs = [x0, x1, x2, x3, x4, x5] ∧ Da K H x0 (atD d 0) ∧ Da K H x1 (atD d 1) ∧ Da K H x2 (atD d 2) ∧ Da K H x3 (atD d 3) ∧ Da K H x4 (atD d 4) ∧ Da K H x5 (atD d 5) := by
  unfold atD
  obtain ⟨d0, d1, d2, d3, d4, d5, he⟩ := list6 hl
  rw [he] at h ⊢
  have hl2 := h.len
  obtain ⟨x0, x1, x2, x3, x4, x5, rfl⟩ := list6 (hl2.trans rfl)
  obtain ⟨_, _, e0, h0, g1⟩ := h.unc
  cases e0
  obtain ⟨_, _, e1, h1, g2⟩ := g1.unc
  cases e1
  obtain ⟨_, _, e2, h2, g3⟩ := g2.unc
  cases e2
  obtain ⟨_, _, e3, h3, g4⟩ := g3.unc
  cases e3
  obtain ⟨_, _, e4, h4, g5⟩ := g4.unc
  cases e4
  obtain ⟨_, _, e5, h5, g6⟩ := g5.unc
  cases e5
  exact ⟨_, _, _, _, _, _, rfl, h0, h1, h2, h3, h4, h5⟩
theorem at_mem {d : PyData} {i : Nat} (h : i < (tupD d).length) : atD d i ∈ tupD d := by
  unfold atD
  rw [List.getD_eq_getElem?_getD, List.getElem?_eq_getElem h]
  exact List.getElem_mem h
section
variable {K : PySem.W.Frag} {σ : L2.St} {H : Hp} {te tl : TE} {tr : TA} {a : Addr} {xs ys : List V}
theorem el_is (h : EvL te σ H xs) (e : xs = ys) : EvL te σ H ys := by rw [← e]; exact h
theorem ea_sT (h : Ev te σ H (.ref a)) (hx : SqT K H a xs) (hr : EvA tr σ H ys) : EvA (StX.tStar K te tr) σ H (xs ++ ys) := fun H1 e Q q => h H1 e _ fun H2 e2 => ⟨a, xs, rfl, .inl (ex_t (e.trans e2) hx), hr H2 (e.trans e2) _ fun H3 e3 => q H3 (e2.trans e3)⟩
theorem ea_sL (h : Ev te σ H (.ref a)) (hx : SqL K H a xs) (hr : EvA tr σ H ys) : EvA (StX.tStar K te tr) σ H (xs ++ ys) := fun H1 e Q q => h H1 e _ fun H2 e2 => ⟨a, xs, rfl, .inr (ex_l (e.trans e2) hx), hr H2 (e.trans e2) _ fun H3 e3 => q H3 (e2.trans e3)⟩
theorem ea_sN (h : EvL te σ H xs) (hr : EvA tr σ H ys) : EvA (StX.tStar K te tr) σ H (xs ++ ys) := fun H1 e Q q => h H1 e _ fun p H2 _ e2 h2 => ⟨p, xs, rfl, .inr (sq_of h2), hr H2 (e.trans e2) _ fun H3 e3 => q H3 (e2.trans e3)⟩
/-- [x[0] for x in xs], each a tuple of three whose first is an int -/
theorem el_firsts {ds : List PyData} {j : Nat} {vs : List Nat} (h : Ev tl σ H (.ref a)) (hX : SqT K H a xs) (hD : DaAll K H xs ds) (hz : xs.length ≤ 4000) (hw : ∀ x, wipe ((wipe σ vs).set j (some x)) vs = wipe σ vs) (hj : ∀ x, ((wipe σ vs).set j (some x))[j]? = some (some x))
    (g : ∀ d ∈ ds, isTupD d = true ∧ (tupD d).length = 3 ∧ wholeD (atD d 0) = true) : EvL (tLc (iTup K tl) (gName j) tYes (tOp (rIxT K) (tVar j) (tC (.int 0))) vs) σ H ((ds.map idD).map V.int) := by
  have hlen := hD.len
  have he : given xs.length (fun _ => true) (fun i => V.int (idD (ds.getD i .none))) = (ds.map idD).map V.int := by
    rw [hlen, given_yes_map ds .none (fun d => V.int (idD d)), List.map_map]
    rfl
  rw [← he]
  refine el_lcT (fun _ => true) _ h hX (by omega) hw (fun i x H2 e2 hx => et_yes) fun i x H2 e2 hx _ => ?_
  obtain ⟨d', hd', hda⟩ := hD.at hx
  have hg : ds.getD i .none = d' := by rw [List.getD_eq_getElem?_getD, hd']; rfl
  obtain ⟨g1, g2, g3⟩ := g d' (List.mem_of_getElem? hd')
  obtain ⟨r', x0, x1, x2, rfl, hX', h0, _, _⟩ := hda.three g1 g2
  rw [hg]
  obtain rfl := h0.int_eq (whole_int g3)
  exact ev_op (ev_var (hj _)) ev_c (rv_ixT (ex_t e2 hX') rfl)
theorem es_firsts {w : World} {ds : List PyData} {j : Nat} {vs : List Nat} (h : Ev tl σ H (.ref a)) (hX : SqT K H a xs) (hD : DaAll K H xs ds) (hz : xs.length ≤ 4000) (hw : ∀ x, wipe ((wipe σ vs).set j (some x)) vs = wipe σ vs) (hj : ∀ x, ((wipe σ vs).set j (some x))[j]? = some (some x))
    (g : ∀ d ∈ ds, isTupD d = true ∧ (tupD d).length = 3 ∧ wholeD (atD d 0) = true) : EvS w (tScI w (iTup K tl) (gName j) (tOp (rIxT K) (tVar j) (tC (.int 0))) vs) σ H (ds.map idD) := by
  have hlen := hD.len
  refine es_scT h hX (by rw [List.length_map, hlen]) hz hw fun i x n H2 e2 hx hn => ?_
  obtain ⟨d', hd', hda⟩ := hD.at hx
  rw [List.getElem?_map, hd'] at hn
  cases hn
  obtain ⟨g1, g2, g3⟩ := g d' (List.mem_of_getElem? hd')
  obtain ⟨r', x0, x1, x2, rfl, hX', h0, _, _⟩ := hda.three g1 g2
  obtain rfl := h0.int_eq (whole_int g3)
  exact ev_op (ev_var (hj _)) ev_c (rv_ixT (ex_t e2 hX') rfl)
end
section
variable {P : Program} {w : World} {K : PySem.W.Frag} {mg : Str → Option Value} {base : Heap}
theorem ok_is_difference (T : Txt K mg w) : FnOk P w K mg base CX0 7 T.a_is_difference T.fd_is_difference ["value"] (Pure (kJ K diffD)) := by
  have G_is_whole := ok_is_wholeX (P := P) (w := w) (base := base) T
  have G_is_luck := ok_is_luckX (P := P) (w := w) (base := base) T
  have G_are_gone := ok_are_gone (P := P) (w := w) (base := base) T
  have G_are_coming := ok_are_coming (P := P) (w := w) (base := base) T
  have G_are_changes := ok_are_changes (P := P) (w := w) (base := base) T
  refine T.F_is_difference.ok sc_is_difference (fun vs H Q E h => ?_) (fun cdv A outer s H vs Q E hr h => ?_)
  · obtain ⟨_, ⟨_, _, rfl, _⟩, _⟩ := h; rfl
  · obtain ⟨_, ⟨v, d, rfl, hd, hs, rfl⟩, q⟩ := h
    refine ⟨_, (pss_cons (ps_if (PW.pt (pw_or (pt_not (pt_val (pe_callB call_isi (by rfl) T.z_isinstance (by decide +kernel) (pa_cons (pv 0) (pa_cons (pe_bltn (v := .ty "tuple") (by rfl) T.z_tuple (by decide +kernel) rfl) pa_nil))))) (pw_or1 (pt_cmpR op_ne (pe_callB c_len (by rfl) T.z_len PySem.boot_len (pa_cons (pv 0) pa_nil)) pe_int (nomark _))))) (pss_one (ps_ret pe_bl)) pss_nil)
  (pss_cons (ps_asg (pv 0) (pg_tup rfl (pgs_cons (pg_name (i := 1) sc_is_difference.nd rfl (.inl rfl)) (pgs_cons (pg_name (i := 2) sc_is_difference.nd rfl (.inl rfl)) (pgs_cons (pg_name (i := 3) sc_is_difference.nd rfl (.inl rfl)) (pgs_cons (pg_name (i := 4) sc_is_difference.nd rfl (.inl rfl)) (pgs_cons (pg_name (i := 5) sc_is_difference.nd rfl (.inl rfl)) (pgs_cons (pg_name (i := 6) sc_is_difference.nd rfl (.inl rfl)) pgs_nil))))))))
  (pss_cons (ps_if (PW.pt (pw_or (pt_not (pt_val (pe_call G_is_whole (hr.mono (by decide)) (by rfl) T.g_is_whole T.F_is_whole.kp T.b_is_whole .nil pass0 (pa_cons (pv 1) pa_nil)))) (pw_or (pt_not (pt_val (pe_call G_is_whole (hr.mono (by decide)) (by rfl) T.g_is_whole T.F_is_whole.kp T.b_is_whole .nil pass0 (pa_cons (pv 2) pa_nil)))) (pw_or1 (pt_not (pt_val (pe_call G_is_luck (hr.mono (by decide)) (by rfl) T.g_is_luck T.F_is_luck.kp T.b_is_luck .nil pass0 (pa_cons (pv 3) pa_nil)))))))) (pss_one (ps_ret pe_bl)) pss_nil)
  (pss_cons (ps_if (PW.pt (pw_or (pt_not (pt_val (pe_call G_are_gone (hr.mono (by decide)) (by rfl) T.g_are_gone T.F_are_gone.kp T.b_are_gone .nil pass0 (pa_cons (pv 4) pa_nil)))) (pw_or (pt_not (pt_val (pe_call G_are_coming (hr.mono (by decide)) (by rfl) T.g_are_coming T.F_are_coming.kp T.b_are_coming .nil pass0 (pa_cons (pv 5) pa_nil)))) (pw_or1 (pt_not (pt_val (pe_call G_are_changes (hr.mono (by decide)) (by rfl) T.g_are_changes T.F_are_changes.kp T.b_are_changes .nil pass0 (pa_cons (pv 6) pa_nil)))))))) (pss_one (ps_ret pe_bl)) pss_nil)
  (pss_cons (ps_set (i := 7) sc_is_difference.nd rfl (.inl rfl) (pe_lst (StX.pa_star (pv 4) (StX.pa_star (pe_lc (own := [("thing", 9)]) (g := gName 9) (by rfl) sc_is_difference.nd (pi_tup (pv 5)) (blkOk_by (own := [("thing", 9)]) (N := ["value", "tick", "next_id", "luck", "gone", "came", "changed", "ids", "unlike", "thing", "triple"]) (sc := defScope s_is_difference) (by decide +kernel)) (fun _ _ _ _ _ => pg_name (i := 9) sc_is_difference.nd rfl (by first | exact Or.inl rfl | exact Or.inr rfl)) (fun _ _ _ _ _ => pts_nil) (fun _ _ _ _ _ => (pe_ix (ix_tupK (K := K) rfl) (pv 9) pe_int (fun _ _ => rfl)))) pa_nil))))
  (pss_cons (ps_set (i := 8) sc_is_difference.nd rfl (.inl rfl) (pe_callTy (c_setC rfl) (by rfl) T.z_set (by decide +kernel) (pa_cons (pe_lst (StX.pa_star (pv 7) (StX.pa_star (pe_lc (own := [("triple", 10)]) (g := gName 10) (by rfl) sc_is_difference.nd (pi_tup (pv 6)) (blkOk_by (own := [("triple", 10)]) (N := ["value", "tick", "next_id", "luck", "gone", "came", "changed", "ids", "unlike", "thing", "triple"]) (sc := defScope s_is_difference) (by decide +kernel)) (fun _ _ _ _ _ => pg_name (i := 10) sc_is_difference.nd rfl (by first | exact Or.inl rfl | exact Or.inr rfl)) (fun _ _ _ _ _ => pts_nil) (fun _ _ _ _ _ => (pe_ix (ix_tupK (K := K) rfl) (pv 10) pe_int (fun _ _ => rfl)))) pa_nil))) pa_nil)))
  (pss_one (ps_ret (pe_cmpR op_eq (pe_callB c_lenN (by rfl) T.z_len PySem.boot_len (pa_cons (pv 8) pa_nil)) (pe_op op_add (pe_callB c_len (by rfl) T.z_len PySem.boot_len (pa_cons (pv 7) pa_nil)) (pe_callB c_lenN (by rfl) T.z_len PySem.boot_len (pa_cons (pe_scI (own := [("triple", 10)]) (g := gName 10) (by rfl) sc_is_difference.nd (pi_tup (pv 6)) (blkOk_by (own := [("triple", 10)]) (N := ["value", "tick", "next_id", "luck", "gone", "came", "changed", "ids", "unlike", "thing", "triple"]) (sc := defScope s_is_difference) (by decide +kernel)) (fun _ _ _ _ _ => pg_name (i := 10) sc_is_difference.nd rfl (by first | exact Or.inl rfl | exact Or.inr rfl)) (fun _ _ _ _ _ => (pe_ix (ix_tupK (K := K) rfl) (pv 10) pe_int (fun _ _ => rfl)))) pa_nil))) (nomark _)))))))))), ?_⟩
    have no : ∀ {H' : Hp}, Ex H H' → diffD d = false → ∀ {D : Ends} {σ : L2.St}, (∀ v H'', D.rt v H'' = Q v H'') → tRet (tC (.bl false)) D σ H' := fun {H'} e z D σ hD => s_ret (v := .bl false) ev_c fun H2 e2 => by
      rw [hD, ← z]
      exact q H2 (e.trans e2)
    cases hT : isTupD d with
    | false =>
      refine q_when (b := true) (et_is (et_or (a := true) (b := true) (et_is (et_not (et_B (ev_cb (vs := [v, .ty "tuple"]) (by walk_at "ea") hd.isTup))) (by rw [hT]; rfl)) (fun h => by cases h)) rfl) (fun _ H1 e1 => ?_) (fun h => by cases h)
      exact no e1 (by unfold diffD; rw [hT]; rfl) fun _ _ => rfl
    | true =>
      obtain ⟨r, xs, rfl, hX, hD⟩ := hd.tupE hT
      obtain ⟨_, hsm⟩ := sm_tupD hs
      have hlen := hD.len
      refine q_when (b := !decide ((tupD d).length = 6)) (et_is (et_or (a := false) (b := !decide ((tupD d).length = 6)) (et_is (et_not (et_B (ev_cb (vs := [.ref r, .ty "tuple"]) (by walk_at "ea") hd.isTup))) (by rw [hT]; rfl)) fun _ => et_is (et_test (ev_op (ev_cb (vs := [.ref r]) (by walk_at "ea") (rc_lenT hX)) (ev_is ev_c (show V.int 6 = V.int ((6 : Nat) : Int) from rfl)) (rv_ne rfl))) (by rw [dec_len, hlen])) rfl) (fun hb H1 e1 => ?_) fun hb H1 e1 => ?_
      · exact no e1 (by unfold diffD; rw [hT, nt hb]; rfl) fun _ _ => rfl
      have hb6 := nf hb
      have l6 := of_decide_eq_true hb6
      obtain ⟨x0, x1, x2, x3, x4, x5, rfl, h0, h1, h2, h3, h4, h5⟩ := hD.six l6
      have s3 := hsm _ (at_mem (d := d) (i := 3) (by omega))
      have s4 := hsm _ (at_mem (d := d) (i := 4) (by omega))
      have s5 := hsm _ (at_mem (d := d) (i := 5) (by omega))
      refine q_asg6T (ev_var rfl) (ex_t e1 hX) fun H2 e2 => ?_
      have e12 := e1.trans e2
      refine q_when (b := !headD d) (et_is (et_or (a := !wholeD (atD d 0)) (b := (!wholeD (atD d 1) || !withinD 0 (999999937 - 1) (atD d 2))) (et_not (et_B (ev_callP (vs := [x0]) (by walk_at "ea") fun H3 e3 => ⟨x0, rfl, h0.pl.ex (e12.trans e3), by rw [h0.whole]⟩))) fun _ => et_or (et_not (et_B (ev_callP (vs := [x1]) (by walk_at "ea") fun H3 e3 => ⟨x1, rfl, h1.pl.ex (e12.trans e3), by rw [h1.whole]⟩))) fun _ => et_not (et_B (ev_callP (vs := [x2]) (by walk_at "ea") fun H3 e3 => ⟨x2, rfl, h2.pl.ex (e12.trans e3), by rw [h2.within]⟩))) (by unfold headD; rw [Bool.not_and, Bool.not_and])) (fun hb H3 e3 => ?_) fun hb H3 e3 => ?_
      · exact no (e12.trans e3) (by unfold diffD; rw [nt hb, hT, hb6]; rfl) fun _ _ => rfl
      have hh := nf hb
      have e13 := e12.trans e3
      refine q_when (b := !partD d) (et_is (et_or (a := !goneD (atD d 3)) (b := (!comeD (atD d 4) || !chgsD (atD d 5))) (et_not (et_B (ev_callP (vs := [x3]) (by walk_at "ea") fun H4 e4 => kj_of (e13.trans e4) h3 s3 rfl))) fun _ => et_or (et_not (et_B (ev_callP (vs := [x4]) (by walk_at "ea") fun H4 e4 => kj_of (e13.trans e4) h4 s4 rfl))) fun _ => et_not (et_B (ev_callP (vs := [x5]) (by walk_at "ea") fun H4 e4 => kj_of (e13.trans e4) h5 s5 rfl))) (by unfold partD; rw [Bool.not_and, Bool.not_and])) (fun hb H4 e4 => ?_) fun hb H4 e4 => ?_
      · exact no (e13.trans e4) (by unfold diffD; rw [nt hb, hT, hb6, hh]; rfl) fun _ _ => rfl
      have hp := nf hb
      have e14 := e13.trans e4
      have zq : diffD d = lastD d := by unfold diffD; rw [hp, hT, hb6, hh]; rfl
      rw [zq] at q
      unfold partD at hp
      rw [Bool.and_eq_true, Bool.and_eq_true] at hp
      obtain ⟨p3, p4, p5⟩ := hp
      unfold goneD at p3
      rw [Bool.and_eq_true, Bool.and_eq_true] at p3
      unfold comeD at p4
      rw [Bool.and_eq_true, Bool.and_eq_true] at p4
      unfold chgsD at p5
      rw [Bool.and_eq_true, Bool.and_eq_true] at p5
      obtain ⟨a3, xs3, rfl, hX3, hD3⟩ := h3.tupE p3.1
      obtain ⟨a4, xs4, rfl, hX4, hD4⟩ := h4.tupE p4.1
      obtain ⟨a5, xs5, rfl, hX5, hD5⟩ := h5.tupE p5.1
      have w3 := List.all_eq_true.mp p3.2.1
      have w4 := List.all_eq_true.mp p4.2.1
      have w5 := List.all_eq_true.mp p5.2.1
      have l3 := (sm_tupD s3).1
      have l4 := (sm_tupD s4).1
      have l5 := (sm_tupD s5).1
      have n3 := hD3.len
      have n4 := hD4.len
      have n5 := hD5.len
      have i3 := daa_ints hD3 fun d' h' => whole_int (w3 d' h')
      have f4 : ∀ d' ∈ tupD (atD d 4), isTupD d' = true ∧ (tupD d').length = 3 ∧ wholeD (atD d' 0) = true := fun d' h' => have z := thing_id (w4 d' h'); ⟨z.1, z.2.1, z.2.2.1⟩
      have f5 : ∀ d' ∈ tupD (atD d 5), isTupD d' = true ∧ (tupD d').length = 3 ∧ wholeD (atD d' 0) = true := fun d' h' => have z := chg_id (w5 d' h'); ⟨z.1, z.2.1, z.2.2.1⟩
      have li : (idsD d).length ≤ 2000 := by unfold idsD; rw [List.length_append, List.length_map, List.length_map]; omega
      have lc : (chsD d).length ≤ 1000 := by unfold chsD; rw [List.length_map]; omega
      refine q_asgL (xs := (idsD d).map V.int) (el_is (el_lst (ea_sT (ev_var rfl) (ex_t e14 hX3) (ea_sN (el_firsts (ev_var rfl) (ex_t e14 hX4) (daa_ex e14 _ _ hD4) (by omega) (fun _ => rfl) (fun _ => rfl) f4) ea_nil)) (by rw [i3]; simp; omega)) (by unfold idsD; rw [i3, List.append_nil, List.map_append])) fun L H5 _ e5 hL => ?_
      have e15 := e14.trans e5
      refine q_asgS (w := w) (ns := idsD d ++ chsD d) (es_set (el_is (el_lst (ea_sL (ev_var rfl) (sq_of hL) (ea_sN (el_firsts (ev_var rfl) (ex_t e15 hX5) (daa_ex e15 _ _ hD5) (by omega) (fun _ => rfl) (fun _ => rfl) f5) ea_nil)) (by simp; omega)) (by rw [List.append_nil, List.map_append]; rfl)) (by rw [List.length_append]; omega)) fun S H6 _ e6 hS => ?_
      have e16 := e15.trans e6
      refine s_ret (v := .bl (lastD d)) (ev_is (ev_op (ev_lenSv (w := w) (ev_var rfl) hS) (ev_op (ev_cb (vs := [.ref L]) (by walk_at "ea") (rc_lenL (sq_of (e6 _ _ hL)))) (ev_lenS (w := w) (es_firsts (ev_var rfl) (ex_t e16 hX5) (daa_ex e16 _ _ hD5) (by omega) (fun _ => rfl) (fun _ => rfl) f5)) rv_I0) (rv_eq rfl)) ?_) fun H7 e7 => q H7 (e16.trans e7)
      unfold lastD
      refine congrArg V.bl (decide_eq_decide.mpr ?_)
      rw [V.int.injEq, List.length_map]
      show ((cnt (idsD d ++ chsD d) : Nat) : Int) = ((idsD d).length : Int) + ((cnt (chsD d) : Nat) : Int) ↔ _
      omega
end
end Kz
set_option Elab.async false
set_option linter.all false
set_option maxRecDepth 100000
set_option maxHeartbeats 4000000
set_option exponentiation.threshold 500
namespace Kz
open PySem PySem.Spec PyProof.Rows L2 Evl Vr
local macro_rules | `(tactic| walk_at "sc") => `(tactic| first | (with_reducible assumption) | (with_reducible exact sc_mul (by omega)) | (with_reducible exact sc_mulr (by omega)) | (with_reducible exact sc_div (by omega) (by decide)) | (show (0 : Int) < _; omega) | (show _ ≠ (0 : Int); omega) | (with_reducible rfl) | decide)
local macro_rules | `(tactic| walk_at "sq") => `(tactic| first | assumption | exact sq_of (by assumption) | exact st_of (by assumption))
local macro_rules | `(tactic| walk_at "pl") => `(tactic| first | assumption | exact pl_int | exact pl_bl | exact pl_str | exact pl_non | exact pl_lst (by assumption) | exact pl_tup (by assumption) | exact pl_dK (by assumption))
local macro_rules | `(tactic| walk_at "rv") => `(tactic| first
  | with_reducible exact rv_I0
  | with_reducible exact ru_neg
  | ((with_reducible apply rv_I); walk_at "sc")
  | ((with_reducible apply rv_ixL); walk_at "sq"; first | rfl | assumption)
  | ((with_reducible apply rv_ixT); walk_at "sq"; first | rfl | assumption)
  | ((with_reducible apply rv_eq); rfl) | ((with_reducible apply rv_ne); rfl))
local macro_rules | `(tactic| walk_at "rc") => `(tactic| first
  | with_reducible exact rc_I1 | with_reducible exact rc_B1 | with_reducible exact rc_I2 | ((with_reducible apply rc_repr); walk_at "sc") | ((with_reducible apply rc_lenL); walk_at "sq")
  | ((with_reducible apply rc_isiInt); walk_at "pl") | ((with_reducible apply rc_isiBool); walk_at "pl"))
local macro_rules | `(tactic| walk_at "ea") => `(tactic| first
  | with_reducible exact ea_nil | ((with_reducible apply ea_cons); walk_at "ev"; walk_at "ea"))
local macro_rules | `(tactic| walk_at "pow") => `(tactic| first
  | with_reducible exact ev_pow (a := 10) (b := 9) (c := 1000000000) (by decide +kernel) (by decide +kernel)
  | with_reducible exact ev_pow (a := 10) (b := 10) (c := 10000000000) (by decide +kernel) (by decide +kernel)
  | with_reducible exact ev_pow (a := 10) (b := 12) (c := 1000000000000) (by decide +kernel) (by decide +kernel)
  | with_reducible exact ev_pow (a := 10) (b := 17) (c := 100000000000000000) (by decide +kernel) (by decide +kernel)
  | with_reducible exact ev_pow (a := 10) (b := 20) (c := 100000000000000000000) (by decide +kernel) (by decide +kernel)
  | with_reducible exact ev_pow (a := 10) (b := 29) (c := 100000000000000000000000000000) (by decide +kernel) (by decide +kernel)
  | with_reducible exact ev_pow (a := 10) (b := 30) (c := 1000000000000000000000000000000) (by decide +kernel) (by decide +kernel)
  | with_reducible exact ev_pow (a := 10) (b := 40) (c := 10000000000000000000000000000000000000000) (by decide +kernel) (by decide +kernel)
  | with_reducible exact ev_pow (a := 10) (b := 57) (c := 1000000000000000000000000000000000000000000000000000000000) (by decide +kernel) (by decide +kernel)
  | with_reducible exact ev_pow (a := 10) (b := 58) (c := 10000000000000000000000000000000000000000000000000000000000) (by decide +kernel) (by decide +kernel)
  | with_reducible exact ev_pow (a := 10) (b := 59) (c := 100000000000000000000000000000000000000000000000000000000000) (by decide +kernel) (by decide +kernel)
  | with_reducible exact ev_pow (a := 10) (b := 60) (c := 1000000000000000000000000000000000000000000000000000000000000) (by decide +kernel) (by decide +kernel))
local macro_rules | `(tactic| walk_at "call") => `(tactic| (intro H9 e9; first | exact ⟨_, rfl, rfl⟩ | exact ⟨_, _, rfl, rfl⟩ | exact ⟨_, _, _, rfl, rfl⟩ | exact ⟨_, rfl, by walk_at "pl", rfl⟩ | (refine ⟨_, _, _, rfl, ?_, rfl⟩; first | exact Plain.ex e9 (by assumption) | walk_at "pl") | (refine ⟨_, rfl, ?_, rfl⟩; first | exact Plain.ex e9 (by assumption) | walk_at "pl")))
local macro_rules | `(tactic| walk_at "ev") => `(tactic| first
  | with_reducible exact ev_c
  | exact ev_var rfl
  | walk_at "pow"
  | ((with_reducible apply ev_op); walk_at "ev"; walk_at "ev"; walk_at "rv")
  | ((with_reducible apply ev_un); walk_at "ev"; walk_at "rv")
  | ((with_reducible apply ev_cb); walk_at "ea"; walk_at "rc")
  | ((with_reducible apply ev_callP); walk_at "ea"; walk_at "call")
  | ((with_reducible apply ev_chain); walk_at "ev"; walk_at "ev"; walk_at "rv"; walk_at "ev"; walk_at "rv")
  | ((with_reducible apply ev_andV); walk_at "ev"; intro _; walk_at "ev")
  | ((with_reducible apply ev_orV); walk_at "ev"; intro _; walk_at "ev")
  | ((with_reducible apply ev_ite); walk_at "et"; intro _; walk_at "ev"; intro _; walk_at "ev")
  | ((with_reducible apply ev_notV); walk_at "ev"))
local macro_rules | `(tactic| walk_at "et") => `(tactic| first
  | ((with_reducible apply et_test); walk_at "ev")
  | ((with_reducible apply et_B); walk_at "ev")
  | ((with_reducible apply et_and); walk_at "et"; intro _; walk_at "et")
  | ((with_reducible apply et_or); walk_at "et"; intro _; walk_at "et")
  | ((with_reducible apply et_not); walk_at "et"))
open En Wo
/-! ### things, changes and differences as data -/
def tgD (t : Tg) : PyData := .tuple [.int t.id, .str t.kd, .tuple (t.ns.map .int)]
abbrev Trip := Int × Int × Int
def tripD (c : Trip) : PyData := .tuple [.int c.1, .int c.2.1, .int c.2.2]
structure Df where
  t : Int
  n : Int
  l : Int
  gone : List Int
  came : List Tg
  chg : List Trip
  deriving DecidableEq
def Df.d (D : Df) : PyData := .tuple [.int D.t, .int D.n, .int D.l, .tuple (D.gone.map .int), .tuple (D.came.map tgD), .tuple (D.chg.map tripD)]
mutual
/-- data without lists -/
def nl : PyData → Bool
  | .list _ => false
  | .dict _ => false
  | .tuple ds => nls ds
  | _ => true
def nls : List PyData → Bool
  | [] => true
  | d :: ds => nl d && nls ds
end
theorem nls_of : ∀ {ds : List PyData}, (∀ d ∈ ds, nl d = true) → nls ds = true
  | [], _ => rfl
  | d :: ds, h => by
    show (nl d && nls ds) = true
    rw [h d (List.mem_cons_self ..), nls_of fun x hx => h x (List.mem_cons_of_mem _ hx)]
    rfl
theorem nls_ints (ns : List Int) : nls (ns.map .int) = true := nls_of fun d hd => by
  obtain ⟨n, _, rfl⟩ := List.mem_map.mp hd
  rfl
theorem nl_tg (t : Tg) : nl (tgD t) = true := by
  show (true && (true && (nls (t.ns.map .int) && true))) = true
  rw [nls_ints]
  rfl
theorem nl_trip (c : Trip) : nl (tripD c) = true := rfl
section
variable {K : PySem.W.Frag} {H H' : Hp}
mutual
theorem da_lup {L : Addr} {ys : List V} {o : HO} (hL : H L = some (.lst ys)) : ∀ (d : PyData) (x : V), nl d = true → Da K H x d → Da K (upd H L o) x d
  | .none, _, _, h => by cases h; exact .non
  | .bool b, _, _, h => by cases h; exact .bl b
  | .int i, _, _, h => by cases h; exact .int i
  | .str x, _, _, h => by cases h; exact .str x
  | .list ds, _, n, _ => by cases n
  | .tuple ds, _, n, h => by cases h with | tup h1 h2 => exact .tup (sqt_lup hL h1) (daa_lup hL ds _ n h2)
  | .dict _, _, n, _ => by cases n
theorem daa_lup {L : Addr} {ys : List V} {o : HO} (hL : H L = some (.lst ys)) : ∀ (ds : List PyData) (xs : List V), nls ds = true → DaAll K H xs ds → DaAll K (upd H L o) xs ds
  | [], _, _, h => by cases h; exact .nil
  | d :: ds, _, n, h => by
    have n : (nl d && nls ds) = true := n
    rw [Bool.and_eq_true] at n
    cases h with | cons h1 h2 => exact .cons (da_lup hL d _ n.1 h1) (daa_lup hL ds _ n.2 h2)
end
theorem daa_app {xs ys : List V} {ds es : List PyData} (h : DaAll K H xs ds) (g : DaAll K H ys es) : DaAll K H (xs ++ ys) (ds ++ es) := by
  induction xs generalizing ds with
  | nil => rw [h.unn]; exact g
  | cons x xs ih =>
    obtain ⟨d, ds', rfl, h1, h2⟩ := h.unc
    exact .cons h1 (ih h2)
theorem daa_int : ∀ ns : List Int, DaAll K H (ns.map V.int) (ns.map .int)
  | [] => .nil
  | n :: ns => .cons (.int n) (daa_int ns)
theorem tgat_da {r : Addr} {t : Tg} (h : TgAt K H r t) : Da K H (.ref r) (tgD t) := by
  obtain ⟨rn, h1, h2⟩ := h
  exact .tup h1 (.cons (.int _) (.cons (.str _) (.cons (.tup h2 (daa_int _)) .nil)))
theorem da_tgat {x : V} {t : Tg} (h : Da K H x (tgD t)) : ∃ r, x = .ref r ∧ TgAt K H r t := by
  obtain ⟨r, x0, x1, x2, rfl, hX, h0, h1, h2⟩ := h.three rfl rfl
  cases h0
  cases h1
  cases h2 with
  | tup g1 g2 =>
    refine ⟨r, rfl, _, hX, ?_⟩
    have z := daa_ints g2 fun d hd => by obtain ⟨n, _, rfl⟩ := List.mem_map.mp hd; exact ⟨n, rfl⟩
    unfold NsAt
    have e : (t.ns.map PyData.int).map intD = t.ns := by rw [List.map_map]; exact List.map_id _
    rw [e] at z
    rw [← z]
    exact g1
theorem rsat_daa : ∀ {rs : List Addr} {ts : List Tg}, RsAt K H rs ts → DaAll K H (rs.map V.ref) (ts.map tgD)
  | [], [], _ => .nil
  | [], _ :: _, h => by cases h.1
  | _ :: _, [], h => by cases h.1
  | r :: rs, t :: ts, h => .cons (tgat_da (h.2 0 r t rfl rfl)) (rsat_daa ⟨by simpa using h.1, fun i r' t' a b => h.2 (i + 1) r' t' a b⟩)
theorem daa_rsat : ∀ {xs : List V} {ts : List Tg}, DaAll K H xs (ts.map tgD) → ∃ rs, xs = rs.map V.ref ∧ RsAt K H rs ts
  | [], ts, h => by
    have : ts = [] := List.map_eq_nil_iff.mp h.unn
    subst this
    exact ⟨[], rfl, rfl, fun i r t a _ => by cases a⟩
  | x :: xs, [], h => by cases h
  | x :: xs, t :: ts, h => by
    cases h with
    | cons h1 h2 =>
      obtain ⟨r, rfl, hr⟩ := da_tgat h1
      obtain ⟨rs, rfl, hR⟩ := daa_rsat h2
      refine ⟨r :: rs, rfl, by simp [hR.1], fun i r' t' a b => ?_⟩
      cases i with
      | zero => cases a; cases b; exact hr
      | succ i => exact hR.2 i r' t' a b
end
section
variable {K : PySem.W.Frag} {H : Hp} {σ : L2.St} {te tl : TE} {t : TT} {ta : TA} {D : Ends} {tz : TS} {a : Addr} {xs : List V}
/-- a new list of data -/
def EvD2 (K : PySem.W.Frag) (te : TE) (σ : L2.St) (H : Hp) (ds : List PyData) : Prop := ∀ H1, Ex H H1 → ∀ Q : VK, (∀ l ys H2, H1 l = none → Ex H1 H2 → H2 l = some (.lst ys) → DaAll K H2 ys ds → Q (.ref l) H2) → te σ H1 Q
/-- a new value that is data -/
def EvDa (K : PySem.W.Frag) (te : TE) (σ : L2.St) (H : Hp) (d : PyData) : Prop := ∀ H1, Ex H H1 → ∀ Q : VK, (∀ v H2, Ex H1 H2 → Da K H2 v d → Q v H2) → te σ H1 Q
theorem eda_of {v : V} {d : PyData} (h : Ev te σ H v) (hd : Da K H v d) : EvDa K te σ H d := fun H1 e Q q => h H1 e Q fun H2 e2 => q v H2 e2 (da_ex (e.trans e2) _ _ hd)
/-- the shape of such a turn -/
def Cd (K : PySem.W.Frag) (H : Hp) (f : Nat → Bool) (g : Nat → PyData) (N : Addr) (i : Nat) (H' : Hp) : Prop := Ex H H' ∧ ∃ ys, H' N = some (.lst ys) ∧ DaAll K H' ys (((List.range i).filter f).map g)
theorem cd_turn {H1 H' : Hp} {f : Nat → Bool} {g : Nat → PyData} {N : Addr} {i : Nat} {σ2 : L2.St} (hn : ∀ i, nl (g i) = true) (hN : H1 N = none) (p : Cd K H1 f g N i H') (hi : i < 50000) (ht : EvT t σ2 H1 (f i)) (he : f i = true → EvDa K te σ2 H1 (g i)) :
    t σ2 H' fun b H3 => if b = true then te σ2 H3 fun y H4 => ∃ acc, H4 N = some (.lst acc) ∧ acc.length < sizeLine ∧ Cd K H1 f g N (i + 1) (upd H4 N (.lst (acc ++ [y]))) else Cd K H1 f g N (i + 1) H3 := by
  obtain ⟨e1, ys, h1, hd⟩ := p
  refine ht H' e1 _ fun H3 e3 => ?_
  have hr : (List.range (i + 1)).filter f = (List.range i).filter f ++ if f i = true then [i] else [] := by
    rw [List.range_succ, List.filter_append, List.filter_cons]
    cases f i <;> rfl
  cases hf : f i with
  | true =>
    rw [if_pos rfl]
    refine he hf H3 (e1.trans e3) _ fun v H4 e4 hv => ⟨ys, (e3.trans e4) _ _ h1, sz_lt ?_, Ex.mut ((e1.trans e3).trans e4) hN, ys ++ [v], upd_same, ?_⟩
    · have l1 := hd.len
      have l2 := List.length_filter_le f (List.range i)
      rw [List.length_map] at l1
      rw [List.length_range] at l2
      omega
    · rw [hr, hf, if_pos rfl, List.map_append]
      have h4 : H4 N = some (.lst ys) := (e3.trans e4) _ _ h1
      exact daa_app (daa_lup h4 _ _ (nls_of fun d hd => by obtain ⟨j, _, rfl⟩ := List.mem_map.mp hd; exact hn j) (daa_ex (e3.trans e4) _ _ hd)) (.cons (da_lup h4 _ _ (hn i) hv) .nil)
  | false =>
    rw [if_neg Bool.false_ne_true]
    refine ⟨e1.trans e3, ys, e3 _ _ h1, ?_⟩
    rw [hr, hf, if_neg Bool.false_ne_true, List.append_nil]
    exact daa_ex e3 _ _ hd
/-- [e for i, x in enumerate(tuple) if t] -/
theorem ed_lcEnumT {ta : TA} {j l : Nat} {vs : List Nat} (f : Nat → Bool) (g : Nat → PyData) (hn : ∀ i, nl (g i) = true) (h : EvA ta σ H [.ref a]) (hx : SqT K H a xs) (hz : xs.length ≤ 40000)
    (hw : ∀ x y, wipe (((wipe σ vs).set j (some x)).set l (some y)) vs = wipe σ vs)
    (ht : ∀ (i : Nat) (x : V) H1, Ex H H1 → xs[i]? = some x → EvT t (((wipe σ vs).set j (some (.int (i : Nat)))).set l (some x)) H1 (f i)) (he : ∀ (i : Nat) (x : V) H1, Ex H H1 → xs[i]? = some x → f i = true → EvDa K te (((wipe σ vs).set j (some (.int (i : Nat)))).set l (some x)) H1 (g i)) :
    EvD2 K (tLc (iEnumT K ta) (gTup K 2 (gCons (gName j) (gCons (gName l) gNil))) t te vs) σ H (((List.range xs.length).filter f).map g) := fun H0 e Q q => h H0 e _ fun H1 e1 => ⟨a, xs, rfl, ex_t (e.trans e1) hx, fun N hN =>
  lc_it walk_enumT (Cd K H1 f g N) ⟨Ex.new hN, [], upd_same, .nil⟩ (fun i H' _ p => ex_t ((e.trans e1).trans p.1) hx) (fun i x H' H'' hi p y => by
    obtain ⟨T, y1, y2, rfl, hT, rfl, h3, h4⟩ := y
    have h3 : y1 = .int (i : Nat) := (Option.some.inj h3).symm
    subst h3
    have eT : Ex H' (upd H' T (.tup [.int (i : Nat), y2])) := Ex.new hT
    obtain ⟨p1, ys, p2, p3⟩ := p
    refine ⟨T, [.int (i : Nat), y2], rfl, st_of upd_same, rfl, .int (i : Nat), [y2], rfl, y2, [], rfl, rfl, hw _ _, ?_⟩
    exact cd_turn hn hN ⟨p1.trans eT, ys, eT _ _ p2, daa_ex eT _ _ p3⟩ (by omega) (ht i y2 H1 (e.trans e1) h4) (fun hf => he i y2 H1 (e.trans e1) h4 hf))
    (fun H' ⟨p1, ys, p2, p3⟩ => q N ys H' (fresh_back e1 hN) (e1.trans p1) p2 p3)⟩
theorem q_asg3d {i1 i2 i3 : Nat} {p : Addr} {v1 v2 v3 : V} (h : Ev te σ H (.ref p)) (hT : SqT K H p [v1, v2, v3]) (k : ∀ H1, Ex H H1 → tz D (((σ.set i1 (some v1)).set i2 (some v2)).set i3 (some v3)) H1) : tSeq (tAsg te (gTup K 3 (gCons (gName i1) (gCons (gName i2) (gCons (gName i3) gNil))))) tz D σ H :=
  h H (Ex.refl H) _ fun H1 e1 => ⟨p, _, rfl, ex_t e1 hT, rfl, _, _, rfl, _, _, rfl, _, _, rfl, rfl, k H1 e1⟩
end
/-! ### looks at a world by ids -/
def Wd.at (W : Wd) (i : Int) : Option Tg := W.ts.find? fun t => decide (t.id = i)
def Wd.nsAt (W : Wd) (i : Int) : List Int := match W.at i with | some u => u.ns | none => []
def alike (W : Wd) (t : Tg) : Bool := match W.at t.id with | some u => decide (u.kd = t.kd) && decide (u.ns.length = t.ns.length) | none => false
theorem at_some {W : Wd} {i : Int} {u : Tg} (h : W.at i = some u) : u ∈ W.ts ∧ u.id = i := ⟨List.mem_of_find?_eq_some h, by have := List.find?_some h; simpa using this⟩
theorem at_none {W : Wd} {i : Int} (h : W.at i = none) : i ∉ Tg.ids W.ts := fun z => by
  obtain ⟨t, ht, rfl⟩ := List.mem_map.mp z
  have := List.find?_eq_none.mp h t ht
  simp at this
theorem at_ids {W : Wd} {i : Int} : (W.at i).isSome = decide (i ∈ Tg.ids W.ts) := by
  cases h : W.at i with
  | none => rw [decide_eq_false (at_none h)]; rfl
  | some u => rw [decide_eq_true (by obtain ⟨h1, rfl⟩ := at_some h; exact List.mem_map_of_mem h1)]; rfl
/-- the changes of one thing's numbers -/
def chgOf (fs : List Int) (t : Tg) : List Trip := ((List.range t.ns.length).filter fun i => !decide (t.ns.getD i 0 = fs.getD i 0)).map fun (i : Nat) => (t.id, (i : Int), t.ns.getD i 0)
theorem chgOf_len (fs : List Int) (t : Tg) : (chgOf fs t).length ≤ t.ns.length := by
  unfold chgOf
  rw [List.length_map]
  have := List.length_filter_le (fun i => !decide (t.ns.getD i 0 = fs.getD i 0)) (List.range t.ns.length)
  rwa [List.length_range] at this
def chgAll (A : Wd) (ts : List Tg) : List Trip := ts.flatMap fun t => if alike A t = true then chgOf (A.nsAt t.id) t else []
/-- the least difference -/
def difOf (A B : Wd) : Df := ⟨B.t, B.n, B.l, (Tg.ids A.ts).filter fun i => !decide (i ∈ Tg.ids B.ts), B.ts.filter fun t => !alike A t, chgAll A B.ts⟩
section
variable {P : Program} {w : World} {K : PySem.W.Frag} {mg : Str → Option Value} {base : Heap}
/-- a world that can be worked with -/
structure WkAt (K : PySem.W.Frag) (C : Addr) (H : Hp) (p : Addr) (W : Wd) : Prop where
  at_ : WdAt K C H p W
  few : W.ts.length ≤ 12
  short : ∀ t ∈ W.ts, t.ns.length ≤ 8
  nd : (Tg.ids W.ts).Nodup
theorem WkAt.ex {C p : Addr} {H H' : Hp} {W : Wd} (e : Ex H H') (h : WkAt K C H p W) : WkAt K C H' p W := ⟨h.at_.ex e, h.few, h.short, h.nd⟩
theorem WdAt.ob {C p : Addr} {H : Hp} {W : Wd} (h : WdAt K C H p W) : ∃ dx aT aO aD rs, H p = some (.ins C dx (wfs W aT aO aD)) ∧ SqT K H aT (rs.map V.ref) ∧ RsAt K H rs W.ts ∧ SqT K H aO ((Tg.ids W.ts).map V.int) := by
  obtain ⟨rs, aT, aO, aD, ⟨dx, hob⟩, hT, hR, hO, hD⟩ := h
  exact ⟨dx, aT, aO, aD, rs, hob, hT, hR, hO⟩
theorem ok_has_alike (T : Txt K mg w) : FnOk P w K mg base CX0 3 T.a_has_alike T.fd_has_alike ["world", "told"] (Pure fun vs H z => ∃ (p r : Addr) (W : Wd) (t : Tg), vs = [.ref p, .ref r] ∧ WkAt K T.C_World H p W ∧ TgAt K H r t ∧ z = .bl (alike W t)) := by
  have G_World___contains__ := ok_contains (P := P) (w := w) (base := base) T
  have G_World_kind_of := ok_kind_of (P := P) (w := w) (base := base) T
  have G_World_numbers := ok_numbers_of (P := P) (w := w) (base := base) T
  refine T.F_has_alike.ok sc_has_alike (fun vs H Q E h => ?_) (fun cdv A outer s H vs Q E hr h => ?_)
  · obtain ⟨_, ⟨_, _, _, _, rfl, _⟩, _⟩ := h; rfl
  · obtain ⟨_, ⟨p, r, W, t, rfl, hW, ⟨rn, hT, hN⟩, rfl⟩, q⟩ := h
    refine ⟨_, (pss_cons (ps_asg (pv 1) (pg_tup rfl (pgs_cons (pg_name (i := 2) sc_has_alike.nd rfl (.inl rfl)) (pgs_cons (pg_name (i := 3) sc_has_alike.nd rfl (.inl rfl)) (pgs_cons (pg_name (i := 4) sc_has_alike.nd rfl (.inl rfl)) pgs_nil)))))
  (pss_one (ps_ret (pe_and (pe_cmpR (op_inO G_World___contains__ (hr.mono (by decide)) T.m_World___contains__ T.b_World___contains__ pass0) (pv 2) (pv 0) (by rfl)) (pe_and (pe_cmpR op_eq (pe_meth (pv 0) T.cl_World T.m_World_kind_of G_World_kind_of (hr.mono (by decide)) T.b_World_kind_of .nil pass0 (pa_cons (pv 2) pa_nil)) (pv 3) (nomark _)) (pe_one (pe_cmpR op_eq (pe_callB c_len (by rfl) T.z_len PySem.boot_len (pa_cons (pe_meth (pv 0) T.cl_World T.m_World_numbers G_World_numbers (hr.mono (by decide)) T.b_World_numbers .nil pass0 (pa_cons (pv 2) pa_nil)) pa_nil)) (pe_callB c_len (by rfl) T.z_len PySem.boot_len (pa_cons (pv 4) pa_nil)) (nomark _)))))))), ?_⟩
    refine q_asg3d (ev_var rfl) hT fun H1 e1 => ?_
    have hW1 := hW.at_.ex e1
    obtain ⟨dx, aT, aO, aD, rs, hob, _⟩ := hW1.ob
    refine s_ret (v := .bl (alike W t)) ?_ fun H2 e2 => q H2 (e1.trans e2)
    have hin : RV (rInO T.C_World (Pure (kIn K T.C_World)) E0) (.int t.id) (.ref p) H1 (.bl (decide (t.id ∈ Tg.ids W.ts))) := rv_inO hob fun H2 e2 => ⟨p, .int t.id, W, rfl, hW1.ex e2, pl_int, rfl⟩
    cases hu : W.at t.id with
    | none =>
      have z : alike W t = false := by unfold alike; rw [hu]
      rw [z]
      exact ev_is (ev_andV (a := false) (b := false) (ev_is (ev_op (ev_var rfl) (ev_var rfl) hin) (by rw [decide_eq_false (at_none hu)])) fun h => by cases h) rfl
    | some u =>
      obtain ⟨hm, hid⟩ := at_some hu
      have z : alike W t = (decide (u.kd = t.kd) && decide (u.ns.length = t.ns.length)) := by unfold alike; rw [hu]
      rw [z]
      obtain ⟨un, hA⟩ := hW1.thing hm
      have hUN : SqT K H1 un (u.ns.map V.int) := by obtain ⟨_, _, _, _, _, _, _, _, _, _, g⟩ := hA; exact g
      refine ev_is (ev_andV (a := true) (b := decide (u.kd = t.kd) && decide (u.ns.length = t.ns.length)) (ev_is (ev_op (ev_var rfl) (ev_var rfl) hin) (by rw [decide_eq_true (by rw [← hid]; exact List.mem_map_of_mem hm)])) fun _ => ?_) rfl
      refine ev_andV (ev_is (ev_op (ev_methP (vs := [.int t.id]) (z := .str u.kd) (ev_var rfl) hob rfl (by walk_at "ea") fun H2 e2 => ⟨p, W, u, un, by rw [hid], hA.mono e2, hW.nd, rfl⟩) (ev_var rfl) (rv_eq rfl)) (by simp)) fun _ => ?_
      exact ev_is (ev_op (ev_cb (ea_cons (ev_methP (vs := [.int t.id]) (z := .ref un) (ev_var rfl) hob rfl (by walk_at "ea") fun H2 e2 => ⟨p, W, u, un, by rw [hid], hA.mono e2, hW.nd, rfl⟩) ea_nil) (rc_lenT hUN)) (ev_cb (vs := [.ref rn]) (by walk_at "ea") (rc_lenT (ex_t e1 hN))) (rv_eq rfl)) (congrArg V.bl (decide_eq_decide.mpr (by rw [V.int.injEq, List.length_map, List.length_map]; omega)))
/-- a def that answers with a new list of data -/
def Dlist (K : PySem.W.Frag) (ok : List V → Hp → List PyData → Prop) : Sp := fun vs H Q _ => ∃ ds, ok vs H ds ∧ ∀ l ys H', H l = none → Ex H H' → H' l = some (.lst ys) → DaAll K H' ys ds → Q (.ref l) H'
/-- a def that answers with data -/
def Ddata (K : PySem.W.Frag) (ok : List V → Hp → PyData → Prop) : Sp := fun vs H Q _ => ∃ d, ok vs H d ∧ ∀ v H', Ex H H' → Da K H' v d → Q v H'
theorem ok_changes_of (T : Txt K mg w) : FnOk P w K mg base CX0 1 T.a_changes_of T.fd_changes_of ["former", "told"] (Dlist K fun vs H ds => ∃ (a r : Addr) (fs : List Int) (t : Tg), vs = [.ref a, .ref r] ∧ NsAt K H a fs ∧ TgAt K H r t ∧ fs.length = t.ns.length ∧ t.ns.length ≤ 8 ∧ ds = (chgOf fs t).map tripD) := by
  refine T.F_changes_of.ok sc_changes_of (fun vs H Q E h => ?_) (fun cdv A outer s H vs Q E hr h => ?_)
  · obtain ⟨_, ⟨_, _, _, _, rfl, _⟩, _⟩ := h; rfl
  · obtain ⟨_, ⟨a, r, fs, t, rfl, hF, ⟨rn, hT, hN⟩, hl, h8, rfl⟩, q⟩ := h
    refine ⟨_, (pss_cons (ps_asg (pv 1) (pg_tup rfl (pgs_cons (pg_name (i := 2) sc_changes_of.nd rfl (.inr rfl)) (pgs_cons (pg_name (i := 3) sc_changes_of.nd rfl (.inl rfl)) (pgs_cons (pg_name (i := 4) sc_changes_of.nd rfl (.inl rfl)) pgs_nil)))))
  (pss_one (ps_ret (pe_lc (own := [("at", 5), ("number", 6)]) (g := gTup _ 2 (gCons (gName 5) (gCons (gName 6) gNil))) (by rfl) sc_changes_of.nd (En.pi_enumT rfl T.z_enumerate (pa_cons (pv 4) pa_nil)) (blkOk_by (own := [("at", 5), ("number", 6)]) (N := ["former", "told", "thing", "_", "numbers", "at", "number"]) (sc := defScope s_changes_of) (by decide +kernel)) (fun _ _ _ _ _ => pg_tup rfl (pgs_cons (pg_name (i := 5) sc_changes_of.nd rfl (by first | exact Or.inl rfl | exact Or.inr rfl)) (pgs_cons (pg_name (i := 6) sc_changes_of.nd rfl (by first | exact Or.inl rfl | exact Or.inr rfl)) pgs_nil))) (fun _ _ _ _ _ => (pts_one (pt_cmpR op_ne (pv 6) (pe_ix (ix_tupK (K := K) rfl) (pv 0) (pv 5) (fun _ _ => rfl)) (nomark _)))) (fun _ _ _ _ _ => (pe_tup (pa_cons (pv 2) (pa_cons (pv 5) (pa_cons (pv 6) pa_nil))))))))), ?_⟩
    refine q_asg3d (ev_var rfl) hT fun H1 e1 => ?_
    have hF := ex_t e1 hF
    have hN := ex_t e1 hN
    have hlen : (t.ns.map V.int).length = t.ns.length := by simp
    have e : (chgOf fs t).map tripD = ((List.range (t.ns.map V.int).length).filter fun i => !decide (t.ns.getD i 0 = fs.getD i 0)).map fun (i : Nat) => PyData.tuple [.int t.id, .int (i : Int), .int (t.ns.getD i 0)] := by
      unfold chgOf
      rw [List.map_map, hlen]
      rfl
    rw [e] at q
    refine ed_lcEnumT (fun i => !decide (t.ns.getD i 0 = fs.getD i 0)) (fun (i : Nat) => PyData.tuple [.int t.id, .int (i : Int), .int (t.ns.getD i 0)]) (fun _ => rfl) (ea_cons (ev_var rfl) ea_nil) hN (by omega) (fun _ _ => rfl) (fun i x H2 e2 hx => ?_) (fun i x H2 e2 hx _ => ?_) H1 (Ex.refl _) _ fun l ys H2 h1 e2 h2 h3 => q l ys H2 (fresh_back e1 h1) (e1.trans e2) h2 h3
    · have hi := (List.getElem?_eq_some_iff.mp hx).1
      rw [int_get hx]
      have hf : atI (fs.map V.int) (i : Int) = some (.int (fs.getD i 0)) := by
        refine atI_nat ?_
        rw [List.getElem?_map, List.getD_eq_getElem?_getD, List.getElem?_eq_getElem (by omega)]
        rfl
      exact et_is (et_test (ev_op (ev_var rfl) (ev_op (ev_var rfl) (ev_var rfl) (rv_ixT (ex_t e2 hF) hf)) (rv_ne rfl))) (congrArg (!·) (decide_eq_decide.mpr (by rw [V.int.injEq])))
    · rw [int_get hx]
      exact fun H3 e3 Q q => eu_tup (ea_cons (ev_var rfl) (ea_cons (ev_var rfl) (ea_cons (ev_var rfl) ea_nil))) (by show 3 ≤ 100000; decide) H3 e3 Q fun p H4 _ e4 h4 => q _ H4 e4 (.tup (st_of h4) (.cons (.int _) (.cons (.int _) (.cons (.int _) .nil))))
end
end Kz
set_option Elab.async false
set_option linter.all false
set_option maxRecDepth 100000
set_option maxHeartbeats 4000000
set_option exponentiation.threshold 500
namespace Kz
open PySem PySem.Spec PyProof.Rows L2 Evl Vr
local macro_rules | `(tactic| walk_at "sc") => `(tactic| first | (with_reducible assumption) | (with_reducible exact sc_mul (by omega)) | (with_reducible exact sc_mulr (by omega)) | (with_reducible exact sc_div (by omega) (by decide)) | (show (0 : Int) < _; omega) | (show _ ≠ (0 : Int); omega) | (with_reducible rfl) | decide)
local macro_rules | `(tactic| walk_at "sq") => `(tactic| first | assumption | exact sq_of (by assumption) | exact st_of (by assumption))
local macro_rules | `(tactic| walk_at "pl") => `(tactic| first | assumption | exact pl_int | exact pl_bl | exact pl_str | exact pl_non | exact pl_lst (by assumption) | exact pl_tup (by assumption) | exact pl_dK (by assumption))
local macro_rules | `(tactic| walk_at "rv") => `(tactic| first
  | with_reducible exact rv_I0
  | with_reducible exact ru_neg
  | ((with_reducible apply rv_I); walk_at "sc")
  | ((with_reducible apply rv_ixL); walk_at "sq"; first | rfl | assumption)
  | ((with_reducible apply rv_ixT); walk_at "sq"; first | rfl | assumption)
  | ((with_reducible apply rv_eq); rfl) | ((with_reducible apply rv_ne); rfl))
local macro_rules | `(tactic| walk_at "rc") => `(tactic| first
  | with_reducible exact rc_I1 | with_reducible exact rc_B1 | with_reducible exact rc_I2 | ((with_reducible apply rc_repr); walk_at "sc") | ((with_reducible apply rc_lenL); walk_at "sq")
  | ((with_reducible apply rc_isiInt); walk_at "pl") | ((with_reducible apply rc_isiBool); walk_at "pl"))
local macro_rules | `(tactic| walk_at "ea") => `(tactic| first
  | with_reducible exact ea_nil | ((with_reducible apply ea_cons); walk_at "ev"; walk_at "ea"))
local macro_rules | `(tactic| walk_at "pow") => `(tactic| first
  | with_reducible exact ev_pow (a := 10) (b := 9) (c := 1000000000) (by decide +kernel) (by decide +kernel)
  | with_reducible exact ev_pow (a := 10) (b := 10) (c := 10000000000) (by decide +kernel) (by decide +kernel)
  | with_reducible exact ev_pow (a := 10) (b := 12) (c := 1000000000000) (by decide +kernel) (by decide +kernel)
  | with_reducible exact ev_pow (a := 10) (b := 17) (c := 100000000000000000) (by decide +kernel) (by decide +kernel)
  | with_reducible exact ev_pow (a := 10) (b := 20) (c := 100000000000000000000) (by decide +kernel) (by decide +kernel)
  | with_reducible exact ev_pow (a := 10) (b := 29) (c := 100000000000000000000000000000) (by decide +kernel) (by decide +kernel)
  | with_reducible exact ev_pow (a := 10) (b := 30) (c := 1000000000000000000000000000000) (by decide +kernel) (by decide +kernel)
  | with_reducible exact ev_pow (a := 10) (b := 40) (c := 10000000000000000000000000000000000000000) (by decide +kernel) (by decide +kernel)
  | with_reducible exact ev_pow (a := 10) (b := 57) (c := 1000000000000000000000000000000000000000000000000000000000) (by decide +kernel) (by decide +kernel)
  | with_reducible exact ev_pow (a := 10) (b := 58) (c := 10000000000000000000000000000000000000000000000000000000000) (by decide +kernel) (by decide +kernel)
  | with_reducible exact ev_pow (a := 10) (b := 59) (c := 100000000000000000000000000000000000000000000000000000000000) (by decide +kernel) (by decide +kernel)
  | with_reducible exact ev_pow (a := 10) (b := 60) (c := 1000000000000000000000000000000000000000000000000000000000000) (by decide +kernel) (by decide +kernel))
local macro_rules | `(tactic| walk_at "call") => `(tactic| (intro H9 e9; first | exact ⟨_, rfl, rfl⟩ | exact ⟨_, _, rfl, rfl⟩ | exact ⟨_, _, _, rfl, rfl⟩ | exact ⟨_, rfl, by walk_at "pl", rfl⟩ | (refine ⟨_, _, _, rfl, ?_, rfl⟩; first | exact Plain.ex e9 (by assumption) | walk_at "pl") | (refine ⟨_, rfl, ?_, rfl⟩; first | exact Plain.ex e9 (by assumption) | walk_at "pl")))
local macro_rules | `(tactic| walk_at "ev") => `(tactic| first
  | with_reducible exact ev_c
  | exact ev_var rfl
  | walk_at "pow"
  | ((with_reducible apply ev_op); walk_at "ev"; walk_at "ev"; walk_at "rv")
  | ((with_reducible apply ev_un); walk_at "ev"; walk_at "rv")
  | ((with_reducible apply ev_cb); walk_at "ea"; walk_at "rc")
  | ((with_reducible apply ev_callP); walk_at "ea"; walk_at "call")
  | ((with_reducible apply ev_chain); walk_at "ev"; walk_at "ev"; walk_at "rv"; walk_at "ev"; walk_at "rv")
  | ((with_reducible apply ev_andV); walk_at "ev"; intro _; walk_at "ev")
  | ((with_reducible apply ev_orV); walk_at "ev"; intro _; walk_at "ev")
  | ((with_reducible apply ev_ite); walk_at "et"; intro _; walk_at "ev"; intro _; walk_at "ev")
  | ((with_reducible apply ev_notV); walk_at "ev"))
local macro_rules | `(tactic| walk_at "et") => `(tactic| first
  | ((with_reducible apply et_test); walk_at "ev")
  | ((with_reducible apply et_B); walk_at "ev")
  | ((with_reducible apply et_and); walk_at "et"; intro _; walk_at "et")
  | ((with_reducible apply et_or); walk_at "et"; intro _; walk_at "et")
  | ((with_reducible apply et_not); walk_at "et"))
open En Wo
section
variable {K : PySem.W.Frag} {H : Hp} {xs ys : List V} {ds es : List PyData}
theorem DaAll.app (h : DaAll K H xs ds) (g : DaAll K H ys es) : DaAll K H (xs ++ ys) (ds ++ es) := daa_app h g
end
section
variable {K : PySem.W.Frag} {H H' : Hp} {σ : L2.St} {te tl tm tb : TE} {ta tr : TA} {D : Ends} {tz : TS} {d : PyData} {ds es : List PyData} {v : V} {l : Addr} {xs : List V}
def EvDt (K : PySem.W.Frag) (te : TE) (σ : L2.St) (H : Hp) (d : PyData) : Prop := ∀ H1, Ex H H1 → ∀ Q : VK, (∀ v H2, Ex H1 H2 → Da K H2 v d → Q v H2) → te σ H1 Q
def EaDt (K : PySem.W.Frag) (ta : TA) (σ : L2.St) (H : Hp) (ds : List PyData) : Prop := ∀ H1, Ex H H1 → ∀ Q : List V → Hp → Prop, (∀ vs H2, Ex H1 H2 → DaAll K H2 vs ds → Q vs H2) → ta σ H1 Q
theorem ew_ev (h : Ev te σ H v) (hd : ∀ H1, Ex H H1 → Da K H1 v d) : EvDt K te σ H d := fun H1 e Q q => h H1 e Q fun H2 e2 => q v H2 e2 (hd H2 (e.trans e2))
theorem ew_c (hd : ∀ {H1}, Da K H1 v d) : EvDt K (tC v) σ H d := ew_ev ev_c fun _ _ => hd
theorem ea_w0 : EaDt K tNil σ H [] := fun H1 _ Q q => q [] H1 (Ex.refl H1) .nil
theorem ea_w1 (h : EvDt K te σ H d) (hr : EaDt K tr σ H ds) : EaDt K (tCons te tr) σ H (d :: ds) := fun H1 e Q q =>
  h H1 e _ fun v H2 e2 hv => hr H2 (e.trans e2) _ fun vs H3 e3 hs => q (v :: vs) H3 (e2.trans e3) (.cons (da_ex e3 _ _ hv) hs)
theorem ew_tup (h : EaDt K ta σ H ds) (hl : ds.length ≤ 100000) : EvDt K (tTup ta) σ H (.tuple ds) := fun H1 e Q q =>
  h H1 e _ fun vs H2 e2 hs => ⟨by rw [hs.len]; exact sz_of hl, fun p hp => q _ _ (e2.trans (Ex.new hp)) (.tup (st_of upd_same) (daa_ex (Ex.new hp) _ _ hs))⟩
theorem ew_lst (h : EaDt K ta σ H ds) (hl : ds.length ≤ 100000) : EvDt K (tLst ta) σ H (.list ds) := fun H1 e Q q =>
  h H1 e _ fun vs H2 e2 hs => ⟨by rw [hs.len]; exact sz_of hl, fun p hp => q _ _ (e2.trans (Ex.new hp)) (.lst upd_same (daa_ex (Ex.new hp) _ _ hs))⟩
theorem ew_dic : EvDt K tDNewK σ H (.dict []) := fun H1 e Q q => fun p hp => q _ _ (Ex.new hp) (.dic upd_same)
theorem ew_cat (h1 : EvDt K te σ H (.tuple ds)) (h2 : EvDt K tb σ H (.tuple es)) (n1 : ds ≠ []) (n2 : es ≠ []) (hl : ds.length + es.length ≤ 100000) : EvDt K (tOp (rCatA K) te tb) σ H (.tuple (ds ++ es)) := fun H1 e Q q =>
  h1 H1 e _ fun v H2 e2 hv => h2 H2 (e.trans e2) _ fun u H3 e3 hu => by
    obtain ⟨a, xs, rfl, hX, hD⟩ := hv.tupE rfl
    obtain ⟨b, ys, rfl, hY, hE⟩ := hu.tupE rfl
    have l1 : xs.length = ds.length := hD.len
    have l2 : ys.length = es.length := hE.len
    refine ⟨a, b, xs, ys, rfl, rfl, ex_t e3 hX, hY, by rw [l1, l2]; exact sz_of hl, fun z => ?_, fun _ z => ?_, fun _ _ p hp => ?_⟩
    · subst z
      exact absurd (List.eq_nil_of_length_eq_zero l1.symm) n1
    · subst z
      exact absurd (List.eq_nil_of_length_eq_zero l2.symm) n2
    · exact q _ _ ((e2.trans e3).trans (Ex.new hp)) (.tup (st_of upd_same) ((daa_ex (e3.trans (Ex.new hp)) _ _ hD).app (daa_ex (Ex.new hp) _ _ hE)))
/-- a new list of data -/
def EvN (K : PySem.W.Frag) (te : TE) (σ : L2.St) (H : Hp) (ds : List PyData) : Prop := ∀ H1, Ex H H1 → ∀ Q : VK, (∀ l xs H2, H1 l = none → Ex H1 H2 → H2 l = some (.lst xs) → DaAll K H2 xs ds → Q (.ref l) H2) → te σ H1 Q
theorem en_lst (h : EaDt K ta σ H ds) (hl : ds.length ≤ 100000) : EvN K (tLst ta) σ H ds := fun H1 e Q q =>
  h H1 e _ fun vs H2 e2 hs => ⟨by rw [hs.len]; exact sz_of hl, fun p hp => q _ _ _ (fresh_back e2 hp) (e2.trans (Ex.new hp)) upd_same (daa_ex (Ex.new hp) _ _ hs)⟩
theorem en_cat (h : Ev te σ H (.ref l)) (hl : H l = some (.lst xs)) (hd : DaAll K H xs ds) (z1 : xs.length ≤ 50000) (z2 : es.length ≤ 50000) (hm : EvN K tm σ H es) : EvN K (tOp rCat te tm) σ H (ds ++ es) := fun H1 e Q q =>
  h H1 e _ fun H2 e2 => hm H2 (e.trans e2) _ fun r ys H3 hr e3 hy dy => ⟨l, r, xs, ys, rfl, rfl, ((e.trans e2).trans e3) _ _ hl, hy, sz_of (by rw [dy.len]; omega), fun x hx =>
    q x _ _ (fresh_back (e2.trans e3) hx) ((e2.trans e3).trans (Ex.new hx)) upd_same ((daa_ex (((e.trans e2).trans e3).trans (Ex.new hx)) _ _ hd).app (daa_ex (Ex.new hx) _ _ dy))⟩
theorem q_asgN {i : Nat} (h : EvN K te σ H ds) (k : ∀ l xs H1, H l = none → Ex H H1 → H1 l = some (.lst xs) → DaAll K H1 xs ds → tz D (σ.set i (some (.ref l))) H1) : tSeq (tAsg te (gName i)) tz D σ H := h H (Ex.refl H) _ k
theorem s_retN (h : EvN K te σ H ds) (k : ∀ l xs H1, H l = none → Ex H H1 → H1 l = some (.lst xs) → DaAll K H1 xs ds → D.rt (.ref l) H1) : tRet te D σ H := h H (Ex.refl H) _ k
end
section
variable {K : PySem.W.Frag} {H : Hp} {σ : L2.St} {te ta tl : TE} {ts tr : TA} {D : Ends} {tz : TS} {a l : Addr} {xs : List V} {d : PyData} {ds : List PyData} {E : XK} {vs : List V} {t : TT}
theorem ew_tupl (h : Ev te σ H (.ref a)) (hl : SqL K H a xs) (hd : DaAll K H xs ds) : EvDt K (tCB (rTupL K) (tCons te tNil)) σ H (.tuple ds) := fun H1 e Q q =>
  h H1 e _ fun H2 e2 => ⟨a, xs, rfl, ex_l (e.trans e2) hl, fun p hp => q _ _ (e2.trans (Ex.new hp)) (.tup (st_of upd_same) (daa_ex ((e.trans e2).trans (Ex.new hp)) _ _ hd))⟩
theorem s_retW2 (h : EvDt K te σ H d) (k : ∀ v H1, Ex H H1 → Da K H1 v d → D.rt v H1) : tRet te D σ H := h H (Ex.refl H) _ k
theorem q_asgW2 {i : Nat} (h : EvDt K te σ H d) (k : ∀ v H1, Ex H H1 → Da K H1 v d → tz D (σ.set i (some v)) H1) : tSeq (tAsg te (gName i)) tz D σ H := h H (Ex.refl H) _ k
theorem ed_call {ok : List V → Hp → List PyData → Prop} (h : EvA ts σ H vs) (ho : ∀ H1, Ex H H1 → ok vs H1 ds) : EvD2 K (tCall (Dlist K ok) [] E ts) σ H ds := fun H1 e Q q => h H1 e _ fun H2 e2 => by
  show Dlist K ok (vs ++ []) H2 Q E
  rw [List.append_nil]
  exact ⟨ds, ho H2 (e.trans e2), fun l ys H3 h1 e3 h3 h4 => q l ys H3 (fresh_back e2 h1) (e2.trans e3) h3 h4⟩
theorem ew_callD {ok : List V → Hp → PyData → Prop} (h : EvA ts σ H vs) (ho : ∀ H1, Ex H H1 → ok vs H1 d) : EvDt K (tCall (Ddata K ok) [] E ts) σ H d := fun H1 e Q q => h H1 e _ fun H2 e2 => by
  show Ddata K ok (vs ++ []) H2 Q E
  rw [List.append_nil]
  exact ⟨d, ho H2 (e.trans e2), fun v H3 e3 h3 => q v H3 (e2.trans e3) h3⟩
/-- xs.extend(a new list) -/
theorem s_extD (hl : H l = some (.lst xs)) (ha : Ev ta σ H (.ref l)) (h : EvD2 K te σ H ds) (hz : xs.length + ds.length ≤ 100000) (k : ∀ ys H1, Ex H H1 → DaAll K H1 ys ds → D.nx σ (upd H1 l (.lst (xs ++ ys)))) :
    tDrop (tBM K "list" rExtend ta (tCons te tNil)) D σ H := ha H (Ex.refl H) _ fun H1 e1 => ⟨.inl ⟨rfl, _, sq_of (e1 _ _ hl)⟩, h H1 e1 _ fun r ys H2 hr e2 h2 hd => ⟨l, r, xs, ys, rfl, rfl, (e1.trans e2) _ _ hl, h2, sz_of (by rw [hd.len]; exact hz), k ys H2 (e1.trans e2) hd⟩⟩
end
theorem nls_tgs (ts : List Tg) : nls (ts.map tgD) = true := nls_of fun d hd => by
  obtain ⟨t, _, rfl⟩ := List.mem_map.mp hd
  exact nl_tg t
theorem nls_trips (cs : List Trip) : nls (cs.map tripD) = true := nls_of fun d hd => by
  obtain ⟨t, _, rfl⟩ := List.mem_map.mp hd
  rfl
theorem chgAll_len (A : Wd) : ∀ ts : List Tg, (∀ t ∈ ts, t.ns.length ≤ 8) → (chgAll A ts).length ≤ 8 * ts.length
  | [], _ => Nat.zero_le _
  | t :: ts, h => by
    have ih := chgAll_len A ts fun x hx => h x (List.mem_cons_of_mem _ hx)
    have h0 := h t (List.mem_cons_self ..)
    have h1 := chgOf_len (A.nsAt t.id) t
    show ((if alike A t = true then chgOf (A.nsAt t.id) t else []) ++ chgAll A ts).length ≤ _
    rw [List.length_append, List.length_cons]
    split
    · omega
    · simp only [List.length_nil]; omega
theorem chgAll_snoc (A : Wd) (ts : List Tg) (t : Tg) : chgAll A (ts ++ [t]) = chgAll A ts ++ if alike A t = true then chgOf (A.nsAt t.id) t else [] := by
  unfold chgAll
  rw [List.flatMap_append, List.flatMap_cons, List.flatMap_nil, List.append_nil]
theorem alike_at {A : Wd} {t : Tg} (h : alike A t = true) : ∃ u, A.at t.id = some u ∧ u ∈ A.ts ∧ u.id = t.id ∧ u.kd = t.kd ∧ u.ns.length = t.ns.length ∧ A.nsAt t.id = u.ns := by
  unfold alike at h
  cases hu : A.at t.id with
  | none => rw [hu] at h; cases h
  | some u =>
    rw [hu] at h
    simp only [Bool.and_eq_true, decide_eq_true_eq] at h
    obtain ⟨h1, h2⟩ := at_some hu
    exact ⟨u, rfl, h1, h2, h.1, h.2, by unfold Wd.nsAt; rw [hu]⟩
section
variable {P : Program} {w : World} {K : PySem.W.Frag} {mg : Str → Option Value} {base : Heap}
theorem ok_difference_of (T : Txt K mg w) : FnOk P w K mg base CX0 4 T.a_difference_of T.fd_difference_of ["one", "other"] (Ddata K fun vs H d => ∃ (p r : Addr) (A B : Wd), vs = [.ref p, .ref r] ∧ WkAt K T.C_World H p A ∧ WkAt K T.C_World H r B ∧ d = (difOf A B).d) := by
  have G_World___contains__ := ok_contains (P := P) (w := w) (base := base) T
  have GA_World___iter__ := ok_iter (P := P) (w := w) (base := base) T
  have G_World_numbers := ok_numbers_of (P := P) (w := w) (base := base) T
  have G_has_alike := ok_has_alike (P := P) (w := w) (base := base) T
  have G_changes_of := ok_changes_of (P := P) (w := w) (base := base) T
  refine T.F_difference_of.ok sc_difference_of (fun vs H Q E h => ?_) (fun cdv A outer s H vs Q E hr h => ?_)
  · obtain ⟨_, ⟨_, _, _, _, rfl, _⟩, _⟩ := h; rfl
  · obtain ⟨_, ⟨p, r, WA, WB, rfl, hA, hB, rfl⟩, q⟩ := h
    refine ⟨_, (pss_cons (ps_set (i := 2) sc_difference_of.nd rfl (.inl rfl) (pe_lst pa_nil))
  (pss_cons (ps_set (i := 3) sc_difference_of.nd rfl (.inl rfl) (pe_lst pa_nil))
  (pss_cons (ps_for PassesOwn.never rfl (pi_tup (pe_fld (pv 1) rfl)) (pg_name (i := 4) sc_difference_of.nd rfl (.inl rfl)) (pss_one (ps_if (pt_val (pe_call G_has_alike (hr.mono (by decide)) (by rfl) T.g_has_alike T.F_has_alike.kp T.b_has_alike .nil pass0 (pa_cons (pv 0) (pa_cons (pv 4) pa_nil)))) (pss_one (ps_expr (pe_bm PySem.F.plainAttrs_list PySem.F.slot_list_extend PySem.F.type_list_extend mt_extend (pv 3) (pa_cons (pe_call G_changes_of (hr.mono (by decide)) (by rfl) T.g_changes_of T.F_changes_of.kp T.b_changes_of .nil pass0 (pa_cons (pe_meth (pv 0) T.cl_World T.m_World_numbers G_World_numbers (hr.mono (by decide)) T.b_World_numbers .nil pass0 (pa_cons (pe_ix ix_tup (pv 4) pe_int (fun _ _ => rfl)) pa_nil)) (pa_cons (pv 4) pa_nil))) pa_nil)))) (pss_one (ps_expr (pe_bm PySem.F.plainAttrs_list PySem.F.slot_list_append PySem.F.type_list_append mt_append (pv 2) (pa_cons (pv 4) pa_nil)))))))
  (pss_cons (ps_setLc (i := 5) (own := [("thing", 6)]) (g := gName 6) (by rfl) sc_difference_of.nd rfl rfl (sw_true rfl rfl rfl (by decide +kernel)) (pi_own (E := E0) GA_World___iter__ (hr.mono (by decide)) T.m_World___iter__ T.b_World___iter__ (pv 0)) (blkOk_by (own := [("thing", 6)]) (N := ["one", "other", "came", "changed", "told", "gone", "thing"]) (sc := defScope s_difference_of) (by decide +kernel)) (fun _ _ _ _ _ => pg_name (i := 6) sc_difference_of.nd rfl (by first | exact Or.inl rfl | exact Or.inr rfl)) (fun _ _ _ _ _ => (pts_one (pt_cmpR (op_niO G_World___contains__ (hr.mono (by decide)) T.m_World___contains__ T.b_World___contains__ pass0) (pv 6) (pv 1) (by rfl)))) (fun _ _ _ _ _ => (pv 6)))
  (pss_one (ps_ret (pe_tup (pa_cons (pe_fld (pv 1) rfl) (pa_cons (pe_fld (pv 1) rfl) (pa_cons (pe_fld (pv 1) rfl) (pa_cons (pe_callTy c_tupL (by rfl) T.z_tuple (by decide +kernel) (pa_cons (pv 5) pa_nil)) (pa_cons (pe_callTy c_tupL (by rfl) T.z_tuple (by decide +kernel) (pa_cons (pv 2) pa_nil)) (pa_cons (pe_callTy c_tupL (by rfl) T.z_tuple (by decide +kernel) (pa_cons (pv 3) pa_nil)) pa_nil))))))))))))), ?_⟩
    refine q_asgL (el_lst ea_nil (by decide)) fun L1 H1 n1 e1 h1 => ?_
    refine q_asgL (el_lst ea_nil (by decide)) fun L2 H2 n2 e2 h2 => ?_
    have e12 := e1.trans e2
    have n2' := fresh_back e1 n2
    have h1' := e2 _ _ h1
    have ne : L1 ≠ L2 := fun z => by rw [z, n2] at h1; cases h1
    obtain ⟨dx, aT, aO, aD, rs, hob, hT, hR, hO⟩ := (hB.at_.ex e12).ob
    refine q_forT (xs := rs.map V.ref) (ev_fld (ev_var rfl) hob T.cl_World T.n_World_things rfl) hT
      (fun i σ' H' => (∃ x, σ' = [some (.ref p), some (.ref r), some (.ref L1), some (.ref L2), x, none, none]) ∧ Ex H H' ∧ SqT K H' aT (rs.map V.ref) ∧ RsAt K H' rs WB.ts ∧ (∃ ys, H' L1 = some (.lst ys) ∧ DaAll K H' ys (((WB.ts.take i).filter fun t => !alike WA t).map tgD)) ∧ ∃ zs, H' L2 = some (.lst zs) ∧ DaAll K H' zs ((chgAll WA (WB.ts.take i)).map tripD))
      (fun H3 e3 => ⟨⟨none, rfl⟩, e12.trans e3, ex_t e3 hT, hR.ex e3, ⟨[], e3 _ _ h1', .nil⟩, [], e3 _ _ h2, .nil⟩) (fun i σ' H' _ h => h.2.2.1) (fun i x σ' H' hx h => ?_) fun σ' H' h => ?_
    · obtain ⟨⟨x0, rfl⟩, e3, hT3, hR3, ⟨ys, hL1, d1⟩, zs, hL2, d2⟩ := h
      obtain ⟨r', t, rfl, hr1, ht, hTg⟩ := hR3.at hx
      have hA3 := hA.ex e3
      have tk := take_succ ht
      have htm := List.mem_of_getElem? ht
      have t8 := hB.short t htm
      have lt12 : i < WB.ts.length := (List.getElem?_eq_some_iff.mp ht).1
      have few := hB.few
      have hal : EvT (tB (tCall (Pure fun vs H z => ∃ (p r : Addr) (W : Wd) (t : Tg), vs = [.ref p, .ref r] ∧ WkAt K T.C_World H p W ∧ TgAt K H r t ∧ z = .bl (alike W t)) [] E0 (tCons (tVar 0) (tCons (tVar 4) tNil)))) [some (.ref p), some (.ref r), some (.ref L1), some (.ref L2), some (.ref r'), none, none] H' (alike WA t) :=
        et_B (ev_callP (vs := [.ref p, .ref r']) (by walk_at "ea") fun H4 e4 => ⟨p, r', WA, t, rfl, hA3.ex e4, hTg.ex e4, rfl⟩)
      refine s_if hal (fun hb H4 e4 => ?_) fun hb H4 e4 => ?_
      · obtain ⟨u, hu, hum, hid, hkd, hul, hns⟩ := alike_at hb
        have e34 := e3.trans e4
        obtain ⟨un, hUA⟩ := (hA.at_.ex e34).thing hum
        obtain ⟨dxa, aTa, aOa, aDa, rsa, hoba, _⟩ := (hA.at_.ex e34).ob
        have hUN : NsAt K H4 un u.ns := by obtain ⟨_, _, _, _, _, _, _, _, _, _, g⟩ := hUA; exact g
        have hTg4 := hTg.ex e4
        have l2 := d2.len
        rw [List.length_map] at l2
        have lc := chgAll_len WA (WB.ts.take i) fun x hx => hB.short x (List.mem_of_mem_take hx)
        rw [List.length_take] at lc
        have lo := chgOf_len u.ns t
        refine s_extD (ds := (chgOf u.ns t).map tripD) (e4 _ _ hL2) (ev_var rfl) (ed_call (vs := [.ref un, .ref r']) (ea_cons (ev_methP (vs := [.int t.id]) (z := .ref un) (ev_var rfl) hoba rfl (ea_cons (ev_tg0 (ev_var rfl) hTg4) ea_nil) fun H5 e5 => ⟨p, WA, u, un, by rw [hid], hUA.mono e5, hA.nd, rfl⟩) (ea_cons (ev_var rfl) ea_nil)) fun H5 e5 => ⟨un, r', u.ns, t, rfl, ex_t e5 hUN, hTg4.ex e5, hul, t8, rfl⟩) (by rw [List.length_map]; omega) fun ys' H5 e5 d5 => ?_
        have hL2' : H5 L2 = some (.lst zs) := e5 _ _ (e4 _ _ hL2)
        have e45 := e4.trans e5
        refine ⟨⟨_, rfl⟩, Ex.mut (e3.trans e45) n2', sqt_lup hL2' (ex_t e45 hT3), ?_, ⟨ys, by rw [upd_ne ne]; exact e45 _ _ hL1, ?_⟩, zs ++ ys', upd_same, ?_⟩
        · exact ⟨hR3.1, fun j a b h1 h2 => by
            obtain ⟨rn, g1, g2⟩ := (hR3.2 j a b h1 h2).ex e45
            exact ⟨rn, sqt_lup hL2' g1, sqt_lup hL2' g2⟩⟩
        · rw [tk, List.filter_append, List.filter_cons, List.filter_nil, if_neg (by rw [hb]; decide), List.append_nil]
          exact daa_lup hL2' _ _ (nls_tgs _) (daa_ex e45 _ _ d1)
        · rw [tk, chgAll_snoc, if_pos hb, List.map_append, hns]
          exact daa_app (daa_lup hL2' _ _ (nls_trips _) (daa_ex e45 _ _ d2)) (daa_lup hL2' _ _ (nls_trips _) d5)
      · have l1 := d1.len
        rw [List.length_map] at l1
        have lf := List.length_filter_le (fun t => !alike WA t) (WB.ts.take i)
        rw [List.length_take] at lf
        refine s_app (v := .ref r') (e4 _ _ hL1) (ev_var rfl) (ev_var rfl) (by omega) fun H5 e5 => ?_
        have e45 := e4.trans e5
        have hL1' : H5 L1 = some (.lst ys) := e45 _ _ hL1
        refine ⟨⟨_, rfl⟩, Ex.mut (e3.trans e45) n1, sqt_lup hL1' (ex_t e45 hT3), ?_, ⟨ys ++ [.ref r'], upd_same, ?_⟩, zs, by rw [upd_ne (Ne.symm ne)]; exact e45 _ _ hL2, ?_⟩
        · exact ⟨hR3.1, fun j a b h1 h2 => by
            obtain ⟨rn, g1, g2⟩ := (hR3.2 j a b h1 h2).ex e45
            exact ⟨rn, sqt_lup hL1' g1, sqt_lup hL1' g2⟩⟩
        · rw [tk, List.filter_append, List.filter_cons, List.filter_nil, if_pos (by rw [hb]; rfl), List.map_append]
          exact daa_app (daa_lup hL1' _ _ (nls_tgs _) (daa_ex e45 _ _ d1)) (.cons (da_lup hL1' _ _ (nl_tg t) (tgat_da (hTg.ex e45))) .nil)
        · rw [tk, chgAll_snoc, if_neg (by rw [hb]; decide), List.append_nil]
          exact daa_lup hL1' _ _ (nls_trips _) (daa_ex e45 _ _ d2)
    · obtain ⟨⟨x0, rfl⟩, e3, hT3, hR3, ⟨ys, hL1, d1⟩, zs, hL2, d2⟩ := h
      have hlen : (rs.map V.ref).length = WB.ts.length := by rw [List.length_map, hR3.1]
      rw [hlen, List.take_of_length_le (Nat.le_refl _)] at d1 d2
      have hA3 := hA.ex e3
      have hB3 := hB.ex e3
      obtain ⟨rsA, aTA, aOA, aDA, hWA⟩ := id hA3.at_
      obtain ⟨dxB, aTB, aOB, aDB, rsB, hobB, _⟩ := hB3.at_.ob
      have few := hA.few
      have hgl : given ((Tg.ids WA.ts).map V.int).length (fun i => !decide ((Tg.ids WA.ts).getD i 0 ∈ Tg.ids WB.ts)) (fun i => V.int ((Tg.ids WA.ts).getD i 0)) = ((Tg.ids WA.ts).filter fun i => !decide (i ∈ Tg.ids WB.ts)).map V.int := by
        rw [List.length_map, given_filter (Tg.ids WA.ts) 0 (fun i => !decide (i ∈ Tg.ids WB.ts)) V.int]
      obtain ⟨dxA, hobA⟩ := hWA.ob
      refine q_asgL (xs := ((Tg.ids WA.ts).filter fun i => !decide (i ∈ Tg.ids WB.ts)).map V.int) ?_ fun L3 H4 n3 e4 h3 => ?_
      · rw [← hgl]
        refine el_lcO (tu := aOA) _ _ (ev_var rfl) hobA (fun H5 e5 n Q' q' => ⟨p, aOA, WA, rfl, ⟨rsA, aTA, aDA, hWA.ex e5⟩, q'⟩) hWA.od (by rw [List.length_map, tg_len]; omega) (fun _ => rfl) (fun i x H5 e5 hx => ?_) fun i x H5 e5 hx _ => ?_
        · rw [int_get hx]
          exact et_test (ev_op (ev_var rfl) (ev_var rfl) (rv_niO (e5 _ _ hobB) fun H6 e6 => ⟨r, _, WB, rfl, hB3.at_.ex (e5.trans e6), pl_int, rfl⟩))
        · rw [int_get hx]
          exact ev_var rfl
      · have e34 := e3.trans e4
        obtain ⟨dx5, aT5, aO5, aD5, rs5, hob5, _⟩ := (hB.at_.ex e34).ob
        refine s_retW2 (d := (difOf WA WB).d) (ew_tup (ea_w1 (ew_ev (ev_fld (ev_var rfl) hob5 T.cl_World T.n_World_tick rfl) fun _ _ => .int _) (ea_w1 (ew_ev (ev_fld (ev_var rfl) hob5 T.cl_World T.n_World_next_id rfl) fun _ _ => .int _) (ea_w1 (ew_ev (ev_fld (ev_var rfl) hob5 T.cl_World T.n_World_luck rfl) fun _ _ => .int _) (ea_w1 (ew_tupl (ev_var rfl) (sq_of h3) (daa_int _)) (ea_w1 (ew_tupl (ev_var rfl) (sq_of (e4 _ _ hL1)) (daa_ex e4 _ _ d1)) (ea_w1 (ew_tupl (ev_var rfl) (sq_of (e4 _ _ hL2)) (daa_ex e4 _ _ d2)) ea_w0)))))) (by show 6 ≤ 100000; decide)) fun v H5 e5 h5 => q v H5 (e34.trans e5) h5
end
end Kz
set_option Elab.async false
set_option linter.all false
set_option maxRecDepth 100000
set_option maxHeartbeats 4000000
set_option exponentiation.threshold 500
namespace Kz
open PySem PySem.Spec PyProof.Rows L2 Evl Vr
local macro_rules | `(tactic| walk_at "sc") => `(tactic| first | (with_reducible assumption) | (with_reducible exact sc_mul (by omega)) | (with_reducible exact sc_mulr (by omega)) | (with_reducible exact sc_div (by omega) (by decide)) | (show (0 : Int) < _; omega) | (show _ ≠ (0 : Int); omega) | (with_reducible rfl) | decide)
local macro_rules | `(tactic| walk_at "sq") => `(tactic| first | assumption | exact sq_of (by assumption) | exact st_of (by assumption))
local macro_rules | `(tactic| walk_at "pl") => `(tactic| first | assumption | exact pl_int | exact pl_bl | exact pl_str | exact pl_non | exact pl_lst (by assumption) | exact pl_tup (by assumption) | exact pl_dK (by assumption))
local macro_rules | `(tactic| walk_at "rv") => `(tactic| first
  | with_reducible exact rv_I0
  | with_reducible exact ru_neg
  | ((with_reducible apply rv_I); walk_at "sc")
  | ((with_reducible apply rv_ixL); walk_at "sq"; first | rfl | assumption)
  | ((with_reducible apply rv_ixT); walk_at "sq"; first | rfl | assumption)
  | ((with_reducible apply rv_eq); rfl) | ((with_reducible apply rv_ne); rfl))
local macro_rules | `(tactic| walk_at "rc") => `(tactic| first
  | with_reducible exact rc_I1 | with_reducible exact rc_B1 | with_reducible exact rc_I2 | ((with_reducible apply rc_repr); walk_at "sc") | ((with_reducible apply rc_lenL); walk_at "sq")
  | ((with_reducible apply rc_isiInt); walk_at "pl") | ((with_reducible apply rc_isiBool); walk_at "pl"))
local macro_rules | `(tactic| walk_at "ea") => `(tactic| first
  | with_reducible exact ea_nil | ((with_reducible apply ea_cons); walk_at "ev"; walk_at "ea"))
local macro_rules | `(tactic| walk_at "pow") => `(tactic| first
  | with_reducible exact ev_pow (a := 10) (b := 9) (c := 1000000000) (by decide +kernel) (by decide +kernel)
  | with_reducible exact ev_pow (a := 10) (b := 10) (c := 10000000000) (by decide +kernel) (by decide +kernel)
  | with_reducible exact ev_pow (a := 10) (b := 12) (c := 1000000000000) (by decide +kernel) (by decide +kernel)
  | with_reducible exact ev_pow (a := 10) (b := 17) (c := 100000000000000000) (by decide +kernel) (by decide +kernel)
  | with_reducible exact ev_pow (a := 10) (b := 20) (c := 100000000000000000000) (by decide +kernel) (by decide +kernel)
  | with_reducible exact ev_pow (a := 10) (b := 29) (c := 100000000000000000000000000000) (by decide +kernel) (by decide +kernel)
  | with_reducible exact ev_pow (a := 10) (b := 30) (c := 1000000000000000000000000000000) (by decide +kernel) (by decide +kernel)
  | with_reducible exact ev_pow (a := 10) (b := 40) (c := 10000000000000000000000000000000000000000) (by decide +kernel) (by decide +kernel)
  | with_reducible exact ev_pow (a := 10) (b := 57) (c := 1000000000000000000000000000000000000000000000000000000000) (by decide +kernel) (by decide +kernel)
  | with_reducible exact ev_pow (a := 10) (b := 58) (c := 10000000000000000000000000000000000000000000000000000000000) (by decide +kernel) (by decide +kernel)
  | with_reducible exact ev_pow (a := 10) (b := 59) (c := 100000000000000000000000000000000000000000000000000000000000) (by decide +kernel) (by decide +kernel)
  | with_reducible exact ev_pow (a := 10) (b := 60) (c := 1000000000000000000000000000000000000000000000000000000000000) (by decide +kernel) (by decide +kernel))
local macro_rules | `(tactic| walk_at "call") => `(tactic| (intro H9 e9; first | exact ⟨_, rfl, rfl⟩ | exact ⟨_, _, rfl, rfl⟩ | exact ⟨_, _, _, rfl, rfl⟩ | exact ⟨_, rfl, by walk_at "pl", rfl⟩ | (refine ⟨_, _, _, rfl, ?_, rfl⟩; first | exact Plain.ex e9 (by assumption) | walk_at "pl") | (refine ⟨_, rfl, ?_, rfl⟩; first | exact Plain.ex e9 (by assumption) | walk_at "pl")))
local macro_rules | `(tactic| walk_at "ev") => `(tactic| first
  | with_reducible exact ev_c
  | exact ev_var rfl
  | walk_at "pow"
  | ((with_reducible apply ev_op); walk_at "ev"; walk_at "ev"; walk_at "rv")
  | ((with_reducible apply ev_un); walk_at "ev"; walk_at "rv")
  | ((with_reducible apply ev_cb); walk_at "ea"; walk_at "rc")
  | ((with_reducible apply ev_callP); walk_at "ea"; walk_at "call")
  | ((with_reducible apply ev_chain); walk_at "ev"; walk_at "ev"; walk_at "rv"; walk_at "ev"; walk_at "rv")
  | ((with_reducible apply ev_andV); walk_at "ev"; intro _; walk_at "ev")
  | ((with_reducible apply ev_orV); walk_at "ev"; intro _; walk_at "ev")
  | ((with_reducible apply ev_ite); walk_at "et"; intro _; walk_at "ev"; intro _; walk_at "ev")
  | ((with_reducible apply ev_notV); walk_at "ev"))
local macro_rules | `(tactic| walk_at "et") => `(tactic| first
  | ((with_reducible apply et_test); walk_at "ev")
  | ((with_reducible apply et_B); walk_at "ev")
  | ((with_reducible apply et_and); walk_at "et"; intro _; walk_at "et")
  | ((with_reducible apply et_or); walk_at "et"; intro _; walk_at "et")
  | ((with_reducible apply et_not); walk_at "et"))
open En Wo
theorem inV_ints {i : Int} : ∀ ns : List Int, inV (.int i) (ns.map V.int) = decide (i ∈ ns)
  | [] => by simp [inV]
  | n :: ns => by
    have ih := inV_ints (i := i) ns
    unfold inV at ih ⊢
    rw [List.map_cons, List.any_cons, ih]
    have e : eqV (.int n) (.int i) = decide (i = n) := by
      by_cases h : i = n
      · subst h; simp [eqV]
      · rw [decide_eq_false h]
        simp [eqV]
        exact fun z => h z.symm
    rw [e, ← Bool.decide_or]
    exact decide_eq_decide.mpr List.mem_cons.symm
theorem flat_ints (ns : List Int) : (ns.map V.int).all flatV = true := List.all_eq_true.mpr fun x hx => by
  obtain ⟨n, _, rfl⟩ := List.mem_map.mp hx
  rfl
/-- a difference told as data -/
theorem Da.df {K : PySem.W.Frag} {H : Hp} {x : V} {D : Df} (h : Da K H x D.d) : ∃ r ag ac ah gs cs hs, x = .ref r ∧ SqT K H r [.int D.t, .int D.n, .int D.l, .ref ag, .ref ac, .ref ah] ∧ SqT K H ag gs ∧ gs = D.gone.map V.int ∧ SqT K H ac cs ∧ DaAll K H cs (D.came.map tgD) ∧ SqT K H ah hs ∧ DaAll K H hs (D.chg.map tripD) := by
  cases h with
  | tup hX hD =>
    have l := hD.len
    obtain ⟨x0, x1, x2, x3, x4, x5, rfl⟩ := list6 l
    obtain ⟨_, _, e0, h0, g1⟩ := hD.unc
    cases e0
    obtain ⟨_, _, e1, h1, g2⟩ := g1.unc
    cases e1
    obtain ⟨_, _, e2, h2, g3⟩ := g2.unc
    cases e2
    obtain ⟨_, _, e3, h3, g4⟩ := g3.unc
    cases e3
    obtain ⟨_, _, e4, h4, g5⟩ := g4.unc
    cases e4
    obtain ⟨_, _, e5, h5, g6⟩ := g5.unc
    cases e5
    cases h0
    cases h1
    cases h2
    cases h3 with
    | tup a3 b3 =>
      cases h4 with
      | tup a4 b4 =>
        cases h5 with
        | tup a5 b5 =>
          refine ⟨_, _, _, _, _, _, _, rfl, hX, a3, ?_, a4, b4, a5, b5⟩
          have z := daa_ints b3 fun d hd => by obtain ⟨n, _, rfl⟩ := List.mem_map.mp hd; exact ⟨n, rfl⟩
          have e : (D.gone.map PyData.int).map intD = D.gone := by rw [List.map_map]; exact List.map_id _
          rw [e] at z
          exact z
theorem da_trip {K : PySem.W.Frag} {H : Hp} {x : V} {c : Trip} (h : Da K H x (tripD c)) : ∃ r, x = .ref r ∧ SqT K H r [.int c.1, .int c.2.1, .int c.2.2] := by
  obtain ⟨r, x0, x1, x2, rfl, hX, h0, h1, h2⟩ := h.three rfl rfl
  cases h0
  cases h1
  cases h2
  exact ⟨r, rfl, hX⟩
theorem DaAll.map_at {α : Type} {K : PySem.W.Frag} {H : Hp} {xs : List V} {l : List α} {f : α → PyData} (h : DaAll K H xs (l.map f)) {i : Nat} {x : V} (hx : xs[i]? = some x) : ∃ c, l[i]? = some c ∧ Da K H x (f c) := by
  obtain ⟨d, hd, hda⟩ := h.at hx
  rw [List.getElem?_map] at hd
  cases e : l[i]? with
  | none => rw [e] at hd; cases hd
  | some c => rw [e] at hd; cases hd; exact ⟨c, rfl, hda⟩
section
variable {K : PySem.W.Frag} {H : Hp} {σ : L2.St} {te tl : TE} {t : TT} {a : Addr} {xs : List V}
/-- [e for x, y, z in xs if t], xs triples -/
theorem el_lcTrip {cs : List Trip} {j l m : Nat} {vs : List Nat} (f : Trip → Bool) (g : Trip → V) (h : Ev tl σ H (.ref a)) (hx : SqT K H a xs) (hd : DaAll K H xs (cs.map tripD)) (hz : cs.length ≤ 40000)
    (hw : ∀ x y z, wipe ((((wipe σ vs).set j (some x)).set l (some y)).set m (some z)) vs = wipe σ vs)
    (ht : ∀ (c : Trip) H1, Ex H H1 → c ∈ cs → EvT t ((((wipe σ vs).set j (some (.int c.1))).set l (some (.int c.2.1))).set m (some (.int c.2.2))) H1 (f c))
    (he : ∀ (c : Trip) H1, Ex H H1 → c ∈ cs → f c = true → Ev te ((((wipe σ vs).set j (some (.int c.1))).set l (some (.int c.2.1))).set m (some (.int c.2.2))) H1 (g c)) :
    EvL (tLc (iTup K tl) (gTup K 3 (gCons (gName j) (gCons (gName l) (gCons (gName m) gNil)))) t te vs) σ H ((cs.filter f).map g) := by
  have hl := hd.len
  rw [List.length_map] at hl
  have e : given xs.length (fun i => f (cs.getD i (0, 0, 0))) (fun i => g (cs.getD i (0, 0, 0))) = (cs.filter f).map g := by rw [hl, given_filter cs (0, 0, 0) f g]
  rw [← e]
  exact fun H0 e Q q => h H0 e _ fun H1 e1 => ⟨a, rfl, ⟨xs, ex_t (e.trans e1) hx⟩, fun N hN => by
    refine lc_tup (xs := xs) (Cw H1 (fun i => f (cs.getD i (0, 0, 0))) (fun i => g (cs.getD i (0, 0, 0))) N) ⟨hN, Ex.new hN, upd_same⟩ (fun i H' _ p => ex_t ((e.trans e1).trans p.2.1) hx) (fun i x H' hi p => ?_) (fun H' p => q N H' (fresh_back e1 p.1) (e1.trans p.2.1) p.2.2)
    obtain ⟨c, hc, hda⟩ := hd.map_at hi
    obtain ⟨r, rfl, hT⟩ := da_trip hda
    have hg : cs.getD i (0, 0, 0) = c := by rw [List.getD_eq_getElem?_getD, hc]; rfl
    have hm := List.mem_of_getElem? hc
    refine ⟨r, _, rfl, ex_t ((e.trans e1).trans p.2.1) hT, rfl, _, _, rfl, _, _, rfl, _, _, rfl, rfl, hw _ _ _, ?_⟩
    refine cw_turn p (by have := (List.getElem?_eq_some_iff.mp hi).1; omega) ?_ ?_
    · rw [hg]
      exact ht c H1 (e.trans e1) hm
    · rw [hg]
      exact he c H1 (e.trans e1) hm⟩
end
/-- the ids for which a difference does not fit -/
def badC (W : Wd) (c : Trip) : Bool := match W.at c.1 with | some u => decide ((u.ns.length : Int) ≤ c.2.1) | none => true
def unfit (W : Wd) (D : Df) : List Int := (D.gone.filter fun i => !decide (i ∈ Tg.ids W.ts)) ++ (D.chg.filter (badC W)).map (·.1)
section
variable {P : Program} {w : World} {K : PySem.W.Frag} {mg : Str → Option Value} {base : Heap}
theorem ok_ids_that_fail (T : Txt K mg w) : FnOk P w K mg base CX0 3 T.a_ids_that_fail T.fd_ids_that_fail ["world", "told"] (Dlist K fun vs H ds => ∃ (p : Addr) (x : V) (W : Wd) (D : Df), vs = [.ref p, x] ∧ WkAt K T.C_World H p W ∧ Da K H x D.d ∧ D.gone.length ≤ 1000 ∧ D.chg.length ≤ 1000 ∧ ds = (unfit W D).map .int) := by
  have G_World___contains__ := ok_contains (P := P) (w := w) (base := base) T
  have G_World_numbers := ok_numbers_of (P := P) (w := w) (base := base) T
  refine T.F_ids_that_fail.ok sc_ids_that_fail (fun vs H Q E h => ?_) (fun cdv A outer s H vs Q E hr h => ?_)
  · obtain ⟨_, ⟨_, _, _, _, rfl, _⟩, _⟩ := h; rfl
  · obtain ⟨_, ⟨p, x, W, D, rfl, hW, hD, l1, l2, rfl⟩, q⟩ := h
    refine ⟨_, (pss_cons (ps_setLc (i := 2) (own := [("thing", 3)]) (g := gName 3) (by rfl) sc_ids_that_fail.nd rfl rfl (sw_true rfl rfl rfl (by decide +kernel)) (pi_tup (pe_ix ix_tup (pv 1) pe_int (fun _ _ => rfl))) (blkOk_by (own := [("thing", 3)]) (N := ["world", "told", "gone", "thing", "at", "_"]) (sc := defScope s_ids_that_fail) (by decide +kernel)) (fun _ _ _ _ _ => pg_name (i := 3) sc_ids_that_fail.nd rfl (by first | exact Or.inl rfl | exact Or.inr rfl)) (fun _ _ _ _ _ => (pts_one (pt_cmpR (op_niO G_World___contains__ (hr.mono (by decide)) T.m_World___contains__ T.b_World___contains__ pass0) (pv 3) (pv 0) (by rfl)))) (fun _ _ _ _ _ => (pv 3)))
  (pss_one (ps_ret (pe_op op_cat (pv 2) (pe_lc (own := [("thing", 3), ("at", 4), ("_", 5)]) (g := gTup _ 3 (gCons (gName 3) (gCons (gName 4) (gCons (gName 5) gNil)))) (by rfl) sc_ids_that_fail.nd (pi_tup (pe_ix ix_tup (pv 1) pe_int (fun _ _ => rfl))) (blkOk_by (own := [("thing", 3), ("at", 4), ("_", 5)]) (N := ["world", "told", "gone", "thing", "at", "_"]) (sc := defScope s_ids_that_fail) (by decide +kernel)) (fun _ _ _ _ _ => pg_tup rfl (pgs_cons (pg_name (i := 3) sc_ids_that_fail.nd rfl (by first | exact Or.inl rfl | exact Or.inr rfl)) (pgs_cons (pg_name (i := 4) sc_ids_that_fail.nd rfl (by first | exact Or.inl rfl | exact Or.inr rfl)) (pgs_cons (pg_name (i := 5) sc_ids_that_fail.nd rfl (by first | exact Or.inl rfl | exact Or.inr rfl)) pgs_nil)))) (fun _ _ _ _ _ => (pts_one (PW.pt (pw_or (pt_cmpR (op_niO G_World___contains__ (hr.mono (by decide)) T.m_World___contains__ T.b_World___contains__ pass0) (pv 3) (pv 0) (by rfl)) (pw_or1 (pt_cmpR op_ge (pv 4) (pe_callB (c_lenK (K := K) rfl) (by rfl) T.z_len PySem.boot_len (pa_cons (pe_meth (pv 0) T.cl_World T.m_World_numbers G_World_numbers (hr.mono (by decide)) T.b_World_numbers .nil pass0 (pa_cons (pv 3) pa_nil)) pa_nil)) (nomark _))))))) (fun _ _ _ _ _ => (pv 3))))))), ?_⟩
    obtain ⟨r, ag, ac, ah, gs, cs, hs, rfl, hX, hG, rfl, hC, hCd, hH, hHd⟩ := hD.df
    obtain ⟨dx, aT, aO, aD, rs, hob, _⟩ := hW.at_.ob
    have hgl : given (D.gone.map V.int).length (fun i => !decide (D.gone.getD i 0 ∈ Tg.ids W.ts)) (fun i => V.int (D.gone.getD i 0)) = (D.gone.filter fun i => !decide (i ∈ Tg.ids W.ts)).map V.int := by
      rw [List.length_map, given_filter D.gone 0 (fun i => !decide (i ∈ Tg.ids W.ts)) V.int]
    have hin : ∀ {H1 : Hp} (i : Int), Ex H H1 → RV (rNiO T.C_World (Pure (kIn K T.C_World)) E0) (.int i) (.ref p) H1 (.bl (!decide (i ∈ Tg.ids W.ts))) := fun {H1} i e1 => rv_niO (e1 _ _ hob) fun H2 e2 => ⟨p, .int i, W, rfl, hW.at_.ex (e1.trans e2), pl_int, rfl⟩
    refine q_asgL (xs := (D.gone.filter fun i => !decide (i ∈ Tg.ids W.ts)).map V.int) ?_ fun L H1 n1 e1 h1 => ?_
    · rw [← hgl]
      refine el_lcT _ _ (ev_op (ev_var rfl) ev_c (rv_ixT hX rfl)) hG (by rw [List.length_map]; omega) (fun _ => rfl) (fun i x H5 e5 hx => ?_) fun i x H5 e5 hx _ => ?_
      · rw [int_get hx]
        exact et_test (ev_op (ev_var rfl) (ev_var rfl) (hin _ e5))
      · rw [int_get hx]
        exact ev_var rfl
    · have lf := List.length_filter_le (fun i => !decide (i ∈ Tg.ids W.ts)) D.gone
      have lg := List.length_filter_le (badC W) D.chg
      have key : EvL (tLc (iTup K (tOp (rIxT K) (tVar 1) (tC (.int 5)))) (gTup K 3 (gCons (gName 3) (gCons (gName 4) (gCons (gName 5) gNil)))) (tOr (tTest (tOp (rNiO T.C_World (Pure (kIn K T.C_World)) E0) (tVar 3) (tVar 0))) (tTest (tOp (rI0 fun i j => .bl (decide (j ≤ i))) (tVar 4) (tCB (rLenS K) (tCons (tMeth T.C_World "numbers" (Pure (kNums K T.C_World)) [] E0 (tVar 0) (tCons (tVar 3) tNil)) tNil))))) (tVar 3) [3, 4, 5]) [some (.ref p), some (.ref r), some (.ref L), none, none, none] H1 (((D.chg.filter (badC W)).map (·.1)).map V.int) := by
        rw [List.map_map]
        refine el_lcTrip (badC W) (fun c => V.int c.1) (ev_op (ev_var rfl) ev_c (rv_ixT (ex_t e1 hX) rfl)) (ex_t e1 hH) (daa_ex e1 _ _ hHd) (by omega) (fun _ _ _ => rfl) (fun c H2 e2 hc => ?_) fun c H2 e2 hc _ => ev_var rfl
        have e12 := e1.trans e2
        have hW2 := hW.ex e12
        cases hu : W.at c.1 with
        | none =>
          have z : badC W c = true := by unfold badC; rw [hu]
          rw [z]
          exact et_is (et_or (a := true) (b := true) (et_is (et_test (ev_op (ev_var rfl) (ev_var rfl) (hin c.1 e12))) (by rw [decide_eq_false (at_none hu)]; rfl)) fun h => by cases h) rfl
        | some u =>
          obtain ⟨hm, hid⟩ := at_some hu
          obtain ⟨un, hUA⟩ := hW2.at_.thing hm
          have hUN : SqT K H2 un (u.ns.map V.int) := by obtain ⟨_, _, _, _, _, _, _, _, _, _, g⟩ := hUA; exact g
          have z : badC W c = decide ((u.ns.length : Int) ≤ c.2.1) := by unfold badC; rw [hu]
          rw [z]
          refine et_is (et_or (a := false) (b := decide ((u.ns.length : Int) ≤ c.2.1)) (et_is (et_test (ev_op (ev_var rfl) (ev_var rfl) (hin c.1 e12))) (by rw [decide_eq_true (by rw [← hid]; exact List.mem_map_of_mem hm)]; rfl)) fun _ => ?_) rfl
          exact et_is (et_test (ev_op (ev_var rfl) (ev_cb (ea_cons (ev_methP (vs := [.int c.1]) (z := .ref un) (ev_var rfl) (e12 _ _ hob) rfl (by walk_at "ea") fun H3 e3 => ⟨p, W, u, un, by rw [hid], hUA.mono e3, hW.nd, rfl⟩) ea_nil) (rc_lenT hUN)) rv_I0)) (by rw [List.length_map])
      refine el_catV (ev_var rfl) h1 key (by simp only [List.length_map]; omega) H1 (Ex.refl _) _ fun l H2 n2 e2 h2 => ?_
      refine q l _ H2 (fresh_back e1 n2) (e1.trans e2) h2 ?_
      rw [← List.map_append]
      exact daa_int _
end
end Kz
set_option Elab.async false
set_option linter.all false
set_option maxRecDepth 100000
set_option maxHeartbeats 4000000
set_option exponentiation.threshold 500
namespace Kz
open PySem PySem.Spec PyProof.Rows L2 Evl Vr
local macro_rules | `(tactic| walk_at "sc") => `(tactic| first | (with_reducible assumption) | (with_reducible exact sc_mul (by omega)) | (with_reducible exact sc_mulr (by omega)) | (with_reducible exact sc_div (by omega) (by decide)) | (show (0 : Int) < _; omega) | (show _ ≠ (0 : Int); omega) | (with_reducible rfl) | decide)
local macro_rules | `(tactic| walk_at "sq") => `(tactic| first | assumption | exact sq_of (by assumption) | exact st_of (by assumption))
local macro_rules | `(tactic| walk_at "pl") => `(tactic| first | assumption | exact pl_int | exact pl_bl | exact pl_str | exact pl_non | exact pl_lst (by assumption) | exact pl_tup (by assumption) | exact pl_dK (by assumption))
local macro_rules | `(tactic| walk_at "rv") => `(tactic| first
  | with_reducible exact rv_I0
  | with_reducible exact ru_neg
  | ((with_reducible apply rv_I); walk_at "sc")
  | ((with_reducible apply rv_ixL); walk_at "sq"; first | rfl | assumption)
  | ((with_reducible apply rv_ixT); walk_at "sq"; first | rfl | assumption)
  | ((with_reducible apply rv_eq); rfl) | ((with_reducible apply rv_ne); rfl))
local macro_rules | `(tactic| walk_at "rc") => `(tactic| first
  | with_reducible exact rc_I1 | with_reducible exact rc_B1 | with_reducible exact rc_I2 | ((with_reducible apply rc_repr); walk_at "sc") | ((with_reducible apply rc_lenL); walk_at "sq")
  | ((with_reducible apply rc_isiInt); walk_at "pl") | ((with_reducible apply rc_isiBool); walk_at "pl"))
local macro_rules | `(tactic| walk_at "ea") => `(tactic| first
  | with_reducible exact ea_nil | ((with_reducible apply ea_cons); walk_at "ev"; walk_at "ea"))
local macro_rules | `(tactic| walk_at "pow") => `(tactic| first
  | with_reducible exact ev_pow (a := 10) (b := 9) (c := 1000000000) (by decide +kernel) (by decide +kernel)
  | with_reducible exact ev_pow (a := 10) (b := 10) (c := 10000000000) (by decide +kernel) (by decide +kernel)
  | with_reducible exact ev_pow (a := 10) (b := 12) (c := 1000000000000) (by decide +kernel) (by decide +kernel)
  | with_reducible exact ev_pow (a := 10) (b := 17) (c := 100000000000000000) (by decide +kernel) (by decide +kernel)
  | with_reducible exact ev_pow (a := 10) (b := 20) (c := 100000000000000000000) (by decide +kernel) (by decide +kernel)
  | with_reducible exact ev_pow (a := 10) (b := 29) (c := 100000000000000000000000000000) (by decide +kernel) (by decide +kernel)
  | with_reducible exact ev_pow (a := 10) (b := 30) (c := 1000000000000000000000000000000) (by decide +kernel) (by decide +kernel)
  | with_reducible exact ev_pow (a := 10) (b := 40) (c := 10000000000000000000000000000000000000000) (by decide +kernel) (by decide +kernel)
  | with_reducible exact ev_pow (a := 10) (b := 57) (c := 1000000000000000000000000000000000000000000000000000000000) (by decide +kernel) (by decide +kernel)
  | with_reducible exact ev_pow (a := 10) (b := 58) (c := 10000000000000000000000000000000000000000000000000000000000) (by decide +kernel) (by decide +kernel)
  | with_reducible exact ev_pow (a := 10) (b := 59) (c := 100000000000000000000000000000000000000000000000000000000000) (by decide +kernel) (by decide +kernel)
  | with_reducible exact ev_pow (a := 10) (b := 60) (c := 1000000000000000000000000000000000000000000000000000000000000) (by decide +kernel) (by decide +kernel))
local macro_rules | `(tactic| walk_at "call") => `(tactic| (intro H9 e9; first | exact ⟨_, rfl, rfl⟩ | exact ⟨_, _, rfl, rfl⟩ | exact ⟨_, _, _, rfl, rfl⟩ | exact ⟨_, rfl, by walk_at "pl", rfl⟩ | (refine ⟨_, _, _, rfl, ?_, rfl⟩; first | exact Plain.ex e9 (by assumption) | walk_at "pl") | (refine ⟨_, rfl, ?_, rfl⟩; first | exact Plain.ex e9 (by assumption) | walk_at "pl")))
local macro_rules | `(tactic| walk_at "ev") => `(tactic| first
  | with_reducible exact ev_c
  | exact ev_var rfl
  | walk_at "pow"
  | ((with_reducible apply ev_op); walk_at "ev"; walk_at "ev"; walk_at "rv")
  | ((with_reducible apply ev_un); walk_at "ev"; walk_at "rv")
  | ((with_reducible apply ev_cb); walk_at "ea"; walk_at "rc")
  | ((with_reducible apply ev_callP); walk_at "ea"; walk_at "call")
  | ((with_reducible apply ev_chain); walk_at "ev"; walk_at "ev"; walk_at "rv"; walk_at "ev"; walk_at "rv")
  | ((with_reducible apply ev_andV); walk_at "ev"; intro _; walk_at "ev")
  | ((with_reducible apply ev_orV); walk_at "ev"; intro _; walk_at "ev")
  | ((with_reducible apply ev_ite); walk_at "et"; intro _; walk_at "ev"; intro _; walk_at "ev")
  | ((with_reducible apply ev_notV); walk_at "ev"))
local macro_rules | `(tactic| walk_at "et") => `(tactic| first
  | ((with_reducible apply et_test); walk_at "ev")
  | ((with_reducible apply et_B); walk_at "ev")
  | ((with_reducible apply et_and); walk_at "et"; intro _; walk_at "et")
  | ((with_reducible apply et_or); walk_at "et"; intro _; walk_at "et")
  | ((with_reducible apply et_not); walk_at "et"))
open En Wo
/-! ### what a difference makes, reckoned -/
def base0 (W : Wd) (D : Df) : List Tg := W.ts.filter fun t => !decide (t.id ∈ D.gone)
def setN (c : Trip) (u : Tg) : Tg := ⟨u.id, u.kd, u.ns.set c.2.1.toNat c.2.2⟩
def chg1 (ts : List Tg) (c : Trip) : List Tg := ts.map fun u => if u.id = c.1 then setN c u else u
def putT (ts : List Tg) (t : Tg) : List Tg := if (ts.any fun u => decide (u.id = t.id)) = true then ts.map (fun u => if u.id = t.id then t else u) else ts ++ [t]
def mixed (W : Wd) (D : Df) : List Tg := D.came.foldl putT (D.chg.foldl chg1 (base0 W D))
def insT (t : Tg) : List Tg → List Tg
  | [] => [t]
  | u :: l => if t.id ≤ u.id then t :: u :: l else u :: insT t l
def sortT (ts : List Tg) : List Tg := ts.foldr insT []
def behind (W : Wd) (D : Df) : List Tg := sortT (mixed W D)
/-- each change has its thing and its place -/
def Fits (W : Wd) (D : Df) : Prop := ∀ c ∈ D.chg, ∃ u ∈ W.ts, u.id = c.1 ∧ u.id ∉ D.gone ∧ 0 ≤ c.2.1 ∧ c.2.1 < u.ns.length
theorem insT_perm (t : Tg) : ∀ l : List Tg, (insT t l).Perm (t :: l)
  | [] => .refl _
  | u :: l => by
    unfold insT
    split
    · exact .refl _
    · exact ((insT_perm t l).cons u).trans (.swap t u l)
theorem sortT_perm : ∀ l : List Tg, (sortT l).Perm l
  | [] => .refl _
  | t :: l => (insT_perm t (sortT l)).trans ((sortT_perm l).cons t)
theorem insT_sorted (t : Tg) : ∀ l : List Tg, l.Pairwise (fun a b => a.id ≤ b.id) → (insT t l).Pairwise (fun a b => a.id ≤ b.id)
  | [], _ => List.pairwise_singleton _ _
  | u :: l, h => by
    unfold insT
    have h2 := List.pairwise_cons.mp h
    split
    · rename_i hle
      refine List.pairwise_cons.mpr ⟨fun x hx => ?_, h⟩
      rcases List.mem_cons.mp hx with rfl | hx
      · exact hle
      · exact Int.le_trans hle (h2.1 x hx)
    · rename_i hle
      refine List.pairwise_cons.mpr ⟨fun x hx => ?_, insT_sorted t l h2.2⟩
      rcases List.mem_cons.mp ((insT_perm t l).mem_iff.mp hx) with rfl | hx
      · omega
      · exact h2.1 x hx
theorem sortT_sorted : ∀ l : List Tg, (sortT l).Pairwise (fun a b => a.id ≤ b.id)
  | [] => .nil
  | t :: l => insT_sorted t _ (sortT_sorted l)
theorem chg1_ids (ts : List Tg) (c : Trip) : Tg.ids (chg1 ts c) = Tg.ids ts := by
  unfold chg1 Tg.ids
  rw [List.map_map]
  refine List.map_congr_left fun u _ => ?_
  show (if u.id = c.1 then setN c u else u).id = u.id
  split <;> rfl
theorem chgs_ids (cs : List Trip) : ∀ ts : List Tg, Tg.ids (cs.foldl chg1 ts) = Tg.ids ts := by
  induction cs with
  | nil => exact fun _ => rfl
  | cons c cs ih =>
    intro ts
    rw [List.foldl_cons, ih, chg1_ids]
theorem chg1_len {ts : List Tg} {c : Trip} {u : Tg} (h : u ∈ chg1 ts c) : ∃ u0 ∈ ts, u0.id = u.id ∧ u0.ns.length = u.ns.length ∧ u0.kd = u.kd := by
  obtain ⟨u0, h0, rfl⟩ := List.mem_map.mp h
  refine ⟨u0, h0, ?_⟩
  split
  · exact ⟨rfl, by show _ = (u0.ns.set _ _).length; rw [List.length_set], rfl⟩
  · exact ⟨rfl, rfl, rfl⟩
theorem chgs_len (cs : List Trip) : ∀ {ts : List Tg} {u : Tg}, u ∈ cs.foldl chg1 ts → ∃ u0 ∈ ts, u0.id = u.id ∧ u0.ns.length = u.ns.length ∧ u0.kd = u.kd := by
  induction cs with
  | nil => exact fun h => ⟨_, h, rfl, rfl, rfl⟩
  | cons c cs ih =>
    intro ts u h
    obtain ⟨u1, h1, a, b, d⟩ := ih h
    obtain ⟨u0, h0, a', b', d'⟩ := chg1_len h1
    exact ⟨u0, h0, a'.trans a, b'.trans b, d'.trans d⟩
theorem putT_nd {ts : List Tg} {t : Tg} (h : (Tg.ids ts).Nodup) : (Tg.ids (putT ts t)).Nodup := by
  unfold putT
  split
  · have e : Tg.ids (ts.map fun u => if u.id = t.id then t else u) = Tg.ids ts := by
      unfold Tg.ids
      rw [List.map_map]
      refine List.map_congr_left fun u _ => ?_
      show (if u.id = t.id then t else u).id = u.id
      split
      · rename_i z; exact z.symm
      · rfl
    rw [e]
    exact h
  · rename_i hn
    unfold Tg.ids
    rw [List.map_append]
    refine List.nodup_append.mpr ⟨h, by simp, fun a ha b hb => ?_⟩
    rw [List.map_cons, List.map_nil, List.mem_singleton] at hb
    obtain ⟨u, hu, rfl⟩ := List.mem_map.mp ha
    intro z
    exact hn (List.any_eq_true.mpr ⟨u, hu, decide_eq_true (z.trans hb)⟩)
theorem putT_len (ts : List Tg) (t : Tg) : (putT ts t).length ≤ ts.length + 1 := by
  unfold putT
  split
  · rw [List.length_map]; omega
  · rw [List.length_append]; exact Nat.le_refl _
theorem puts_nd (cs : List Tg) : ∀ {ts : List Tg}, (Tg.ids ts).Nodup → (Tg.ids (cs.foldl putT ts)).Nodup := by
  induction cs with
  | nil => exact fun h => h
  | cons c cs ih => exact fun h => ih (putT_nd h)
theorem puts_len (cs : List Tg) : ∀ ts : List Tg, (cs.foldl putT ts).length ≤ ts.length + cs.length := by
  induction cs with
  | nil => exact fun _ => Nat.le_refl _
  | cons c cs ih =>
    intro ts
    have := ih (putT ts c)
    have := putT_len ts c
    rw [List.foldl_cons, List.length_cons]
    omega
/-! ### rows of the dict of things -/
abbrev Rw := Tg × Addr × Addr
def kvsR (rws : List Rw) : List (Key × V) := rws.map fun r => (.inl r.1.id, .ref r.2.1)
def RowL (H : Hp) (r : Rw) : Prop := H r.2.1 = some (.lst [.str r.1.kd, .ref r.2.2]) ∧ H r.2.2 = some (.lst (r.1.ns.map V.int))
def RowA (K : PySem.W.Frag) (H : Hp) (r : Rw) : Prop := H r.2.1 = some (.lst [.str r.1.kd, .ref r.2.2]) ∧ (H r.2.2 = some (.lst (r.1.ns.map V.int)) ∨ SqT K H r.2.2 (r.1.ns.map V.int))
theorem RowL.ex {H H' : Hp} {r : Rw} (e : Ex H H') (h : RowL H r) : RowL H' r := ⟨e _ _ h.1, e _ _ h.2⟩
theorem RowA.ex {K : PySem.W.Frag} {H H' : Hp} {r : Rw} (e : Ex H H') (h : RowA K H r) : RowA K H' r := ⟨e _ _ h.1, h.2.elim (fun z => .inl (e _ _ z)) fun z => .inr (ex_t e z)⟩
theorem kvsR_val {rws : List Rw} {r : Rw} (hr : r ∈ rws) (nd : (Tg.ids (rws.map (·.1))).Nodup) : valV (kvsR rws) (.inl r.1.id : Key) = some (.ref r.2.1) := by
  induction rws with
  | nil => cases hr
  | cons x rws ih =>
    have nd2 : x.1.id ∉ Tg.ids (rws.map (·.1)) ∧ (Tg.ids (rws.map (·.1))).Nodup := List.nodup_cons.mp nd
    rcases List.mem_cons.mp hr with rfl | hr
    · exact valV_pos (p := (Sum.inl r.1.id, V.ref r.2.1)) rfl
    · show valV ((Sum.inl x.1.id, V.ref x.2.1) :: kvsR rws) _ = _
      rw [valV_neg (fun z => nd2.1 (by rw [Sum.inl.inj z]; exact List.mem_map_of_mem (List.mem_map_of_mem hr)))]
      exact ih hr nd2.2
theorem kvsR_no {rws : List Rw} {i : Int} (h : i ∉ Tg.ids (rws.map (·.1))) : valV (kvsR rws) (.inl i : Key) = none := by
  induction rws with
  | nil => rfl
  | cons x rws ih =>
    show valV ((Sum.inl x.1.id, V.ref x.2.1) :: kvsR rws) _ = _
    rw [valV_neg (fun z => h (by rw [← Sum.inl.inj z]; exact List.mem_cons_self ..))]
    exact ih fun z => h (List.mem_cons_of_mem _ z)
def putR (rws : List Rw) (r : Rw) : List Rw := if (rws.any fun x => decide (x.1.id = r.1.id)) = true then rws.map (fun x => if x.1.id = r.1.id then r else x) else rws ++ [r]
theorem putR_kvs (rws : List Rw) (r : Rw) : putK (kvsR rws) (.inl r.1.id : Key) (.ref r.2.1) = kvsR (putR rws r) := by
  have e : ((kvsR rws).any fun kv => decide (kv.1 = (.inl r.1.id : Key))) = rws.any fun x => decide (x.1.id = r.1.id) := by
    unfold kvsR
    rw [List.any_map]
    refine congrArg (fun f => rws.any f) (funext fun x => ?_)
    exact decide_eq_decide.mpr ⟨fun z => Sum.inl.inj z, fun z => congrArg Sum.inl z⟩
  unfold putK putR
  rw [e]
  split
  · unfold kvsR
    rw [List.map_map, List.map_map]
    refine List.map_congr_left fun x _ => ?_
    show (if (Sum.inl x.1.id : Key) = .inl r.1.id then ((Sum.inl x.1.id : Key), V.ref r.2.1) else (Sum.inl x.1.id, V.ref x.2.1)) = (Sum.inl (if x.1.id = r.1.id then r else x).1.id, V.ref (if x.1.id = r.1.id then r else x).2.1)
    by_cases h : x.1.id = r.1.id
    · rw [if_pos h, if_pos (congrArg Sum.inl h), h]
    · rw [if_neg h, if_neg (fun z => h (Sum.inl.inj z))]
  · unfold kvsR
    rw [List.map_append]
    rfl
theorem putR_fst (rws : List Rw) (r : Rw) : (putR rws r).map (·.1) = putT (rws.map (·.1)) r.1 := by
  unfold putR putT
  rw [List.any_map]
  show (if (rws.any fun x => decide (x.1.id = r.1.id)) = true then _ else _ : List Rw).map (·.1) = if (rws.any fun x => decide (x.1.id = r.1.id)) = true then _ else _
  split
  · rw [List.map_map, List.map_map]
    refine List.map_congr_left fun x _ => ?_
    show (if x.1.id = r.1.id then r else x).1 = if x.1.id = r.1.id then r.1 else x.1
    split <;> rfl
  · rw [List.map_append]; rfl
theorem putR_mem {rws : List Rw} {r x : Rw} (h : x ∈ putR rws r) : x = r ∨ x ∈ rws := by
  unfold putR at h
  split at h
  · obtain ⟨y, hy, rfl⟩ := List.mem_map.mp h
    split
    · exact .inl rfl
    · exact .inr hy
  · rcases List.mem_append.mp h with h | h
    · exact .inr h
    · exact .inl (List.mem_singleton.mp h)
def setR (c : Trip) (rws : List Rw) : List Rw := rws.map fun x => if x.1.id = c.1 then (setN c x.1, x.2) else x
theorem setR_kvs (c : Trip) (rws : List Rw) : kvsR (setR c rws) = kvsR rws := by
  unfold kvsR setR
  rw [List.map_map]
  refine List.map_congr_left fun x _ => ?_
  show ((Sum.inl (if x.1.id = c.1 then (setN c x.1, x.2) else x).1.id : Key), V.ref (if x.1.id = c.1 then (setN c x.1, x.2) else x).2.1) = _
  split <;> rfl
theorem setR_fst (c : Trip) (rws : List Rw) : (setR c rws).map (·.1) = chg1 (rws.map (·.1)) c := by
  unfold setR chg1
  rw [List.map_map, List.map_map]
  refine List.map_congr_left fun x _ => ?_
  show (if x.1.id = c.1 then (setN c x.1, x.2) else x).1 = if x.1.id = c.1 then setN c x.1 else x.1
  split <;> rfl
theorem setR_qs (c : Trip) (rws : List Rw) : (setR c rws).map (·.2.2) = rws.map (·.2.2) := by
  unfold setR
  rw [List.map_map]
  refine List.map_congr_left fun x _ => ?_
  show (if x.1.id = c.1 then (setN c x.1, x.2) else x).2.2 = x.2.2
  split <;> rfl
theorem str_ints {k : Str} {q : Addr} {ns : List Int} : ([V.str k, V.ref q] : List V) ≠ ns.map V.int := fun z => by
  cases ns with
  | nil => cases z
  | cons n ns => injection z with z _; cases z
theorem nd_inj {α β : Type} {f : α → β} : ∀ {l : List α}, (l.map f).Nodup → ∀ {x y : α}, x ∈ l → y ∈ l → f x = f y → x = y
  | a :: l, h, x, y, hx, hy, e => by
    have h2 := List.nodup_cons.mp h
    rcases List.mem_cons.mp hx with ex | mx
    · rcases List.mem_cons.mp hy with ey | my
      · rw [ex, ey]
      · exact absurd (by rw [← ex, e]; exact List.mem_map_of_mem my) h2.1
    · rcases List.mem_cons.mp hy with ey | my
      · exact absurd (by rw [← ey, ← e]; exact List.mem_map_of_mem mx) h2.1
      · exact nd_inj h2.2 mx my e
/-- the rows where one list of numbers has changed -/
theorem rows_set {H : Hp} {rws : List Rw} {r : Rw} {c : Trip} (hr : r ∈ rws) (hid : r.1.id = c.1) (nd : (Tg.ids (rws.map (·.1))).Nodup) (nq : (rws.map (·.2.2)).Nodup) (h : ∀ x ∈ rws, RowL H x) :
    ∀ x ∈ setR c rws, RowL (upd H r.2.2 (.lst ((setN c r.1).ns.map V.int))) x := fun x hx => by
  obtain ⟨y, hy, rfl⟩ := List.mem_map.mp hx
  obtain ⟨y1, y2⟩ := h y hy
  obtain ⟨r1, r2⟩ := h r hr
  have np : ∀ z ∈ rws, z.2.1 ≠ r.2.2 := fun z hz e => by
    have := (h z hz).1
    rw [e, r2] at this
    exact str_ints (HO.lst.inj (Option.some.inj this)).symm
  by_cases hyi : y.1.id = c.1
  · have e : y = r := by
      have nd' : (rws.map fun z => z.1.id).Nodup := by unfold Tg.ids at nd; rwa [List.map_map] at nd
      exact nd_inj nd' hy hr (hyi.trans hid.symm)
    subst e
    rw [if_pos hyi]
    exact ⟨by rw [upd_ne (np y hy)]; exact y1, upd_same⟩
  · rw [if_neg hyi]
    have nq2 : y.2.2 ≠ r.2.2 := fun e => hyi (by rw [nd_inj nq hy hr e]; exact hid)
    exact ⟨by rw [upd_ne (np y hy)]; exact y1, by rw [upd_ne nq2]; exact y2⟩
end Kz
set_option Elab.async false
set_option linter.all false
set_option maxRecDepth 100000
set_option maxHeartbeats 4000000
set_option exponentiation.threshold 500
namespace Kz
open PySem PySem.Spec PyProof.Rows L2 Evl Vr
local macro_rules | `(tactic| walk_at "sc") => `(tactic| first | (with_reducible assumption) | (with_reducible exact sc_mul (by omega)) | (with_reducible exact sc_mulr (by omega)) | (with_reducible exact sc_div (by omega) (by decide)) | (show (0 : Int) < _; omega) | (show _ ≠ (0 : Int); omega) | (with_reducible rfl) | decide)
local macro_rules | `(tactic| walk_at "sq") => `(tactic| first | assumption | exact sq_of (by assumption) | exact st_of (by assumption))
local macro_rules | `(tactic| walk_at "pl") => `(tactic| first | assumption | exact pl_int | exact pl_bl | exact pl_str | exact pl_non | exact pl_lst (by assumption) | exact pl_tup (by assumption) | exact pl_dK (by assumption))
local macro_rules | `(tactic| walk_at "rv") => `(tactic| first
  | with_reducible exact rv_I0
  | with_reducible exact ru_neg
  | ((with_reducible apply rv_I); walk_at "sc")
  | ((with_reducible apply rv_ixL); walk_at "sq"; first | rfl | assumption)
  | ((with_reducible apply rv_ixT); walk_at "sq"; first | rfl | assumption)
  | ((with_reducible apply rv_eq); rfl) | ((with_reducible apply rv_ne); rfl))
local macro_rules | `(tactic| walk_at "rc") => `(tactic| first
  | with_reducible exact rc_I1 | with_reducible exact rc_B1 | with_reducible exact rc_I2 | ((with_reducible apply rc_repr); walk_at "sc") | ((with_reducible apply rc_lenL); walk_at "sq")
  | ((with_reducible apply rc_isiInt); walk_at "pl") | ((with_reducible apply rc_isiBool); walk_at "pl"))
local macro_rules | `(tactic| walk_at "ea") => `(tactic| first
  | with_reducible exact ea_nil | ((with_reducible apply ea_cons); walk_at "ev"; walk_at "ea"))
local macro_rules | `(tactic| walk_at "pow") => `(tactic| first
  | with_reducible exact ev_pow (a := 10) (b := 9) (c := 1000000000) (by decide +kernel) (by decide +kernel)
  | with_reducible exact ev_pow (a := 10) (b := 10) (c := 10000000000) (by decide +kernel) (by decide +kernel)
  | with_reducible exact ev_pow (a := 10) (b := 12) (c := 1000000000000) (by decide +kernel) (by decide +kernel)
  | with_reducible exact ev_pow (a := 10) (b := 17) (c := 100000000000000000) (by decide +kernel) (by decide +kernel)
  | with_reducible exact ev_pow (a := 10) (b := 20) (c := 100000000000000000000) (by decide +kernel) (by decide +kernel)
  | with_reducible exact ev_pow (a := 10) (b := 29) (c := 100000000000000000000000000000) (by decide +kernel) (by decide +kernel)
  | with_reducible exact ev_pow (a := 10) (b := 30) (c := 1000000000000000000000000000000) (by decide +kernel) (by decide +kernel)
  | with_reducible exact ev_pow (a := 10) (b := 40) (c := 10000000000000000000000000000000000000000) (by decide +kernel) (by decide +kernel)
  | with_reducible exact ev_pow (a := 10) (b := 57) (c := 1000000000000000000000000000000000000000000000000000000000) (by decide +kernel) (by decide +kernel)
  | with_reducible exact ev_pow (a := 10) (b := 58) (c := 10000000000000000000000000000000000000000000000000000000000) (by decide +kernel) (by decide +kernel)
  | with_reducible exact ev_pow (a := 10) (b := 59) (c := 100000000000000000000000000000000000000000000000000000000000) (by decide +kernel) (by decide +kernel)
  | with_reducible exact ev_pow (a := 10) (b := 60) (c := 1000000000000000000000000000000000000000000000000000000000000) (by decide +kernel) (by decide +kernel))
local macro_rules | `(tactic| walk_at "call") => `(tactic| (intro H9 e9; first | exact ⟨_, rfl, rfl⟩ | exact ⟨_, _, rfl, rfl⟩ | exact ⟨_, _, _, rfl, rfl⟩ | exact ⟨_, rfl, by walk_at "pl", rfl⟩ | (refine ⟨_, _, _, rfl, ?_, rfl⟩; first | exact Plain.ex e9 (by assumption) | walk_at "pl") | (refine ⟨_, rfl, ?_, rfl⟩; first | exact Plain.ex e9 (by assumption) | walk_at "pl")))
local macro_rules | `(tactic| walk_at "ev") => `(tactic| first
  | with_reducible exact ev_c
  | exact ev_var rfl
  | walk_at "pow"
  | ((with_reducible apply ev_op); walk_at "ev"; walk_at "ev"; walk_at "rv")
  | ((with_reducible apply ev_un); walk_at "ev"; walk_at "rv")
  | ((with_reducible apply ev_cb); walk_at "ea"; walk_at "rc")
  | ((with_reducible apply ev_callP); walk_at "ea"; walk_at "call")
  | ((with_reducible apply ev_chain); walk_at "ev"; walk_at "ev"; walk_at "rv"; walk_at "ev"; walk_at "rv")
  | ((with_reducible apply ev_andV); walk_at "ev"; intro _; walk_at "ev")
  | ((with_reducible apply ev_orV); walk_at "ev"; intro _; walk_at "ev")
  | ((with_reducible apply ev_ite); walk_at "et"; intro _; walk_at "ev"; intro _; walk_at "ev")
  | ((with_reducible apply ev_notV); walk_at "ev"))
local macro_rules | `(tactic| walk_at "et") => `(tactic| first
  | ((with_reducible apply et_test); walk_at "ev")
  | ((with_reducible apply et_B); walk_at "ev")
  | ((with_reducible apply et_and); walk_at "et"; intro _; walk_at "et")
  | ((with_reducible apply et_or); walk_at "et"; intro _; walk_at "et")
  | ((with_reducible apply et_not); walk_at "et"))
open En Wo
section
variable {K : PySem.W.Frag} {H : Hp} {σ : L2.St} {te tl ta tk tv : TE} {t : TT} {a : Addr} {xs : List V} {D : Ends} {tz : TS} {d : PyData} {ds : List PyData}
/-- [kind, list(numbers)] -/
theorem row_new {k : Str} {ns : List Int} {rn : Addr} (h1 : Ev ta σ H (.str k)) (h2 : Ev tl σ H (.ref rn)) (hN : SqT K H rn (ns.map V.int)) :
    ∀ H1, Ex H H1 → ∀ Q : VK, (∀ p q H2, H1 p = none → H1 q = none → Ex H1 H2 → H2 p = some (.lst [.str k, .ref q]) → H2 q = some (.lst (ns.map V.int)) → Q (.ref p) H2) → tLst (tCons ta (tCons (tCB (rListS K) (tCons tl tNil)) tNil)) σ H1 Q := fun H1 e Q q =>
  h1 H1 e _ fun H2 e2 => h2 H2 (e.trans e2) _ fun H3 e3 => ⟨rn, ns.map V.int, rfl, .inr (ex_t ((e.trans e2).trans e3) hN), fun l hl => ⟨sz_of (by show 2 ≤ 100000; decide), fun p hp => by
    have ne : l ≠ p := fun z => by rw [← z, upd_same] at hp; cases hp
    exact q p l _ (fresh_back (e2.trans (e3.trans (Ex.new hl))) hp) (fresh_back (e2.trans e3) hl) ((e2.trans e3).trans ((Ex.new hl).trans (Ex.new hp))) upd_same (by rw [upd_ne ne]; exact upd_same)⟩⟩
theorem q_asg6u {i1 i4 i5 i6 : Nat} {p : Addr} {v1 v2 v3 v4 v5 v6 : V} (h : Ev te σ H (.ref p)) (hT : SqT K H p [v1, v2, v3, v4, v5, v6]) (k : ∀ H1, Ex H H1 → tz D ((((((σ.set i1 (some v1)).set i1 (some v2)).set i1 (some v3)).set i4 (some v4)).set i5 (some v5)).set i6 (some v6)) H1) : tSeq (tAsg te (gTup K 6 (gCons (gName i1) (gCons (gName i1) (gCons (gName i1) (gCons (gName i4) (gCons (gName i5) (gCons (gName i6) gNil)))))))) tz D σ H := q_asg6T h hT k
/-- list(d) sorted: the ids -/
theorem el_sortK {rws : List Rw} {Da : Addr} (h : Ev te σ H (.ref Da)) (hd : H Da = some (.dK (kvsR rws))) (hl : rws.length < 64) (nd : (Tg.ids (rws.map (·.1))).Nodup) : EvL (tCB (rSorted K) (tCons (tCB rListD (tCons te tNil)) tNil)) σ H ((Tg.ids (sortT (rws.map (·.1)))).map V.int) := fun H1 e Q q =>
  h H1 e _ fun H2 e2 => ⟨Da, kvsR rws, rfl, (e.trans e2) _ _ hd, fun l hl2 => ⟨l, Tg.ids (rws.map (·.1)), rfl, by
    have : (kvsR rws).map (fun kv => kV kv.1) = (Tg.ids (rws.map (·.1))).map V.int := by unfold kvsR Tg.ids; rw [List.map_map, List.map_map, List.map_map]; rfl
    rw [this]
    exact sq_of upd_same, by unfold Tg.ids; rw [List.length_map, List.length_map]; exact hl, fun ns' p pm ps hp => by
    have sm := (sortT_perm (rws.map (·.1))).map Tg.id
    have e1 : ns' = Tg.ids (sortT (rws.map (·.1))) := by
      have up : ∀ {l : List Int}, l.Pairwise (· ≤ ·) → l.Nodup → l.Pairwise (· < ·) := fun {l} h1 h2 => (h1.and h2).imp fun ⟨a, b⟩ => by omega
      refine Sl.sorted_one (up ps (pm.nodup_iff.mpr nd)) (up (List.pairwise_map.mpr (sortT_sorted _)) (sm.nodup_iff.mpr nd)) fun k => ?_
      exact (pm.mem_iff).trans (sm.mem_iff).symm
    rw [e1]
    exact q p _ (fresh_back (e2.trans (Ex.new hl2)) hp) (e2.trans ((Ex.new hl2).trans (Ex.new hp))) upd_same⟩⟩
/-- [e for x in a new list] -/
theorem ed_lcN {j : Nat} {vs : List Nat} (g : Nat → PyData) (hn : ∀ i, nl (g i) = true) (h : EvL tl σ H xs) (hz : xs.length ≤ 40000) (hw : ∀ x, wipe ((wipe σ vs).set j (some x)) vs = wipe σ vs)
    (he : ∀ (i : Nat) (x : V) H1, Ex H H1 → xs[i]? = some x → EvDt K te ((wipe σ vs).set j (some x)) H1 (g i)) : EvD2 K (tLc (iList K tl) (gName j) tYes te vs) σ H ((List.range xs.length).map g) := fun H0 e Q q => h H0 e _ fun a H1 ha e1 hx => ⟨a, rfl, ⟨xs, sq_of hx⟩, fun N hN => by
  refine lc_list (xs := xs) (Cd K H1 (fun _ => true) g N) ⟨Ex.new hN, [], upd_same, .nil⟩ (fun i H' _ p => sq_of (p.1 _ _ hx)) (fun i x H' hi p => ⟨hw x, cd_turn hn hN p (by have := (List.getElem?_eq_some_iff.mp hi).1; omega) et_yes fun _ => he i x H1 (e.trans e1) hi⟩) fun H' ⟨e2, ys, h2, hd⟩ => ?_
  rw [List.filter_eq_self.mpr (fun _ _ => rfl)] at hd
  exact q N ys H' (fresh_back e1 hN) (e1.trans e2) h2 hd⟩
theorem ew_tupN (h : EvD2 K te σ H ds) : EvDt K (tCB (rTupL K) (tCons te tNil)) σ H (.tuple ds) := fun H1 e Q q =>
  h H1 e _ fun l ys H2 _ e2 h2 hd => ⟨l, ys, rfl, sq_of h2, fun p hp => q _ _ (e2.trans (Ex.new hp)) (.tup (st_of upd_same) (daa_ex (Ex.new hp) _ _ hd))⟩
theorem ew_tupA {ns : List Int} {q : Addr} (h : Ev te σ H (.ref q)) (hq : H q = some (.lst (ns.map V.int)) ∨ SqT K H q (ns.map V.int)) : EvDt K (tCB (rTupA K) (tCons te tNil)) σ H (.tuple (ns.map .int)) := fun H1 e Q k =>
  h H1 e _ fun H2 e2 => ⟨q, ns.map V.int, rfl, by
    rcases hq with hq | hq
    · exact .inl ⟨sq_of ((e.trans e2) _ _ hq), fun p hp => k _ _ (e2.trans (Ex.new hp)) (.tup (st_of upd_same) (daa_int _))⟩
    · exact .inr ⟨ex_t (e.trans e2) hq, k _ _ e2 (.tup (ex_t (e.trans e2) hq) (daa_int _))⟩⟩
theorem s_dputN {p : Addr} {kvs : List (Key × V)} {k : Key} {xs : List V} (hd : H p = some (.dK kvs)) (h : EvL te σ H xs) (ho : ∀ H1, Ev ta σ H1 (.ref p)) (hi : ∀ H1, Ev tk σ H1 (kV k)) (hl : kvs.length < 100000) (kk : ∀ l H1, H l = none → Ex H H1 → H1 l = some (.lst xs) → D.nx σ (upd H1 p (.dK (putK kvs k (.ref l))))) : tAsg te (gSub ta tk rSetD) D σ H :=
  h H (Ex.refl H) _ fun l H1 n1 e1 h1 => ho H1 H1 (Ex.refl _) _ fun H2 e2 => hi H2 H2 (Ex.refl _) _ fun H3 e3 => ⟨p, _, rfl, DPut.k (((e1.trans e2).trans e3) _ _ hd) (sz_lt hl), kk l H3 n1 ((e1.trans e2).trans e3) ((e2.trans e3) _ _ h1)⟩
end
theorem upd_dk {K : PySem.W.Frag} {H : Hp} {Dd : Addr} {kvs : List (Key × V)} {o : HO} (hD : H Dd = some (.dK kvs)) : (∀ {b : Addr} {xs : List V}, SqT K H b xs → SqT K (upd H Dd o) b xs) ∧ (∀ {b : Addr} {xs : List V}, H b = some (.lst xs) → upd H Dd o b = some (.lst xs)) := by
  refine ⟨fun {b xs} h => ?_, fun {b xs} h => by rw [upd_ne (fun z => by rw [z, hD] at h; cases h)]; exact h⟩
  rcases h with (h | ⟨o, h⟩) | h
  · exact .inl (.inl (by rw [upd_ne (fun z => by rw [z, hD] at h; cases h)]; exact h))
  · exact .inl (.inr ⟨o, by rw [upd_ne (fun z => by rw [z, hD] at h; cases h)]; exact h⟩)
  · exact .inr h
mutual
theorem da_dk {K : PySem.W.Frag} {H : Hp} {Dd : Addr} {kvs : List (Key × V)} {o : HO} (hD : H Dd = some (.dK kvs)) : ∀ (d : PyData) (x : V), nl d = true → Da K H x d → Da K (upd H Dd o) x d
  | .none, _, _, h => by cases h; exact .non
  | .bool b, _, _, h => by cases h; exact .bl b
  | .int i, _, _, h => by cases h; exact .int i
  | .str x, _, _, h => by cases h; exact .str x
  | .list ds, _, n, _ => by cases n
  | .tuple ds, _, n, h => by cases h with | tup h1 h2 => exact .tup ((upd_dk hD).1 h1) (daa_dk hD ds _ n h2)
  | .dict _, _, n, _ => by cases n
theorem daa_dk {K : PySem.W.Frag} {H : Hp} {Dd : Addr} {kvs : List (Key × V)} {o : HO} (hD : H Dd = some (.dK kvs)) : ∀ (ds : List PyData) (xs : List V), nls ds = true → DaAll K H xs ds → DaAll K (upd H Dd o) xs ds
  | [], _, _, h => by cases h; exact .nil
  | d :: ds, _, n, h => by
    have n : (nl d && nls ds) = true := n
    rw [Bool.and_eq_true] at n
    cases h with | cons h1 h2 => exact .cons (da_dk hD d _ n.1 h1) (daa_dk hD ds _ n.2 h2)
end
section
variable {P : Program} {w : World} {K : PySem.W.Frag} {mg : Str → Option Value} {base : Heap}
/-- what is kept through the loops: the dict at Dd of the rows -/
structure TabL (K : PySem.W.Frag) (H0 H : Hp) (Dd : Addr) (rws : List Rw) (ts : List Tg) : Prop where
  fst : rws.map (·.1) = ts
  d : H Dd = some (.dK (kvsR rws))
  row : ∀ r ∈ rws, RowL H r
  nq : (rws.map (·.2.2)).Nodup
  new : ∀ r ∈ rws, H0 r.2.2 = none
structure TabA (K : PySem.W.Frag) (H : Hp) (Dd : Addr) (rws : List Rw) (ts : List Tg) : Prop where
  fst : rws.map (·.1) = ts
  d : H Dd = some (.dK (kvsR rws))
  row : ∀ r ∈ rws, RowA K H r
theorem TabL.ex {H0 H H' : Hp} {Dd : Addr} {rws : List Rw} {ts : List Tg} (e : Ex H H') (h : TabL K H0 H Dd rws ts) : TabL K H0 H' Dd rws ts := ⟨h.fst, e _ _ h.d, fun r hr => (h.row r hr).ex e, h.nq, h.new⟩
theorem TabA.ex {H H' : Hp} {Dd : Addr} {rws : List Rw} {ts : List Tg} (e : Ex H H') (h : TabA K H Dd rws ts) : TabA K H' Dd rws ts := ⟨h.fst, e _ _ h.d, fun r hr => (h.row r hr).ex e⟩
def kBehind (K : PySem.W.Frag) (C : Addr) (vs : List V) (H : Hp) (d : PyData) : Prop := ∃ (p : Addr) (x : V) (W : Wd) (D : Df), vs = [.ref p, x] ∧ WkAt K C H p W ∧ Da K H x D.d ∧ D.gone.length ≤ 1000 ∧ D.came.length ≤ 50 ∧ Fits W D ∧ d = .tuple ((behind W D).map tgD)
theorem base_filter (W : Wd) (D : Df) {i : Nat} {t : Tg} (ht : W.ts[i]? = some t) : (W.ts.take (i + 1)).filter (fun t => !decide (t.id ∈ D.gone)) = (W.ts.take i).filter (fun t => !decide (t.id ∈ D.gone)) ++ if decide (t.id ∈ D.gone) = true then [] else [t] := by
  rw [take_succ ht, List.filter_append, List.filter_cons, List.filter_nil]
  cases decide (t.id ∈ D.gone) <;> rfl
/-- the dict comprehension -/
theorem dc_rows {aT ag : Addr} {W : Wd} {D : Df} {rs : List Addr} {H : Hp} {σ : L2.St} {Q : VK} (hs3 : ∀ x y z, ((((wipe σ [6, 7, 8]).set 6 (some x)).set 7 (some y)).set 8 (some z))[3]? = some (some (.ref ag))) (hsn : ∀ x y z, ((((wipe σ [6, 7, 8]).set 6 (some x)).set 7 (some y)).set 8 (some z))[6]? = some (some x) ∧ ((((wipe σ [6, 7, 8]).set 6 (some x)).set 7 (some y)).set 8 (some z))[7]? = some (some y) ∧ ((((wipe σ [6, 7, 8]).set 6 (some x)).set 7 (some y)).set 8 (some z))[8]? = some (some z))
    (hw : ∀ x y z, wipe ((((wipe σ [6, 7, 8]).set 6 (some x)).set 7 (some y)).set 8 (some z)) [6, 7, 8] = wipe σ [6, 7, 8]) {tl : TE} (hl : Ev tl σ H (.ref aT)) (hT : SqT K H aT (rs.map V.ref)) (hR : RsAt K H rs W.ts) (few : W.ts.length ≤ 12) (nd : (Tg.ids W.ts).Nodup) (hG : SqT K H ag (D.gone.map V.int))
    (q : ∀ Dd H1 rws, H Dd = none → Ex H H1 → TabL K H H1 Dd rws (base0 W D) → Q (.ref Dd) H1) :
    tDc (iTup K tl) (gTup K 3 (gCons (gName 6) (gCons (gName 7) (gCons (gName 8) gNil)))) (tTest (tOp (rIn K true) (tVar 6) (tVar 3))) (tVar 6) (tLst (tCons (tVar 7) (tCons (tCB (rListS K) (tCons (tVar 8) tNil)) tNil))) [6, 7, 8] σ H Q :=
  hl H (Ex.refl H) _ fun H1 e1 => ⟨aT, rfl, ⟨_, ex_t e1 hT⟩, fun Dd hD => by
    refine dc_tup (xs := rs.map V.ref) (fun i H' => Ex H1 H' ∧ ∃ rws, TabL K H H' Dd rws ((W.ts.take i).filter fun t => !decide (t.id ∈ D.gone))) ⟨Ex.new hD, [], ⟨rfl, upd_same, (fun _ h => nomatch h), List.nodup_nil, (fun _ h => nomatch h)⟩⟩ (fun i H' _ p => ex_t (e1.trans p.1) hT) (fun i x H' hi p => ?_) fun H' ⟨e2, rws, hA⟩ => ?_
    · obtain ⟨e2, rws, hA⟩ := p
      obtain ⟨r', t, rfl, hr1, ht, hTg⟩ := hR.at hi
      have e12 := e1.trans e2
      obtain ⟨rn, hT', hN⟩ := hTg.ex e12
      have bf := base_filter W D ht
      obtain ⟨s6, s7, s8⟩ := hsn (.int t.id) (.str t.kd) (.ref rn)
      refine ⟨r', _, rfl, hT', rfl, _, _, rfl, _, _, rfl, _, _, rfl, rfl, hw _ _ _, ?_⟩
      have tst : EvT (tTest (tOp (rIn K true) (tVar 6) (tVar 3))) ((((wipe σ [6, 7, 8]).set 6 (some (.int t.id))).set 7 (some (.str t.kd))).set 8 (some (.ref rn))) H' (!decide (t.id ∈ D.gone)) := et_is (et_test (ev_op (ev_var s6) (ev_var (hs3 _ _ _)) (rv_niT (ex_t e12 hG) rfl (flat_ints _)))) (by rw [inV_ints])
      refine tst H' (Ex.refl _) _ fun H3 e3 => ?_
      have lt12 : i < W.ts.length := (List.getElem?_eq_some_iff.mp ht).1
      have lf := List.length_filter_le (fun t => !decide (t.id ∈ D.gone)) (W.ts.take i)
      rw [List.length_take] at lf
      have lr : rws.length ≤ 12 := by
        have := congrArg List.length hA.fst
        rw [List.length_map] at this
        omega
      cases hg : decide (t.id ∈ D.gone) with
      | true =>
        rw [if_neg (by decide)]
        rw [hg, if_pos rfl, List.append_nil] at bf
        rw [bf]
        exact ⟨e2.trans e3, rws, hA.ex e3⟩
      | false =>
        rw [if_pos (show (!false) = true from rfl)]
        rw [hg, if_neg (by decide)] at bf
        rw [bf]
        refine (ev_var s6) H3 (Ex.refl _) _ fun H4 e4 => ?_
        have e34 := e3.trans e4
        refine row_new (ev_var s7) (ev_var s8) (ex_t e34 hN) H4 (Ex.refl _) _ fun pp qq H5 np nq e5 hp hq => ?_
        have hA5 := hA.ex (e34.trans e5)
        have hA4 := hA.ex e34
        have hD5 := hA5.d
        have nid : t.id ∉ Tg.ids (rws.map (·.1)) := by
          rw [hA.fst]
          intro z
          obtain ⟨u, hu, hid⟩ := List.mem_map.mp z
          have hu2 : u ∈ W.ts.take i := (List.mem_filter.mp hu).1
          have ndt : (Tg.ids (W.ts.take (i + 1))).Nodup := ((List.take_sublist _ _).map _).nodup nd
          rw [take_succ ht] at ndt
          unfold Tg.ids at ndt
          rw [List.map_append] at ndt
          exact (List.nodup_append.mp ndt).2.2 _ (List.mem_map_of_mem hu2) _ (List.mem_singleton.mpr rfl) hid
        refine ⟨kvsR rws, .inl t.id, rfl, hD5, sz_lt (by unfold kvsR; rw [List.length_map]; omega), ?_, rws ++ [(t, pp, qq)], ?_⟩
        · intro b o hb
          rw [upd_ne (ne_of_none hb hD)]
          exact ((e2.trans e34).trans e5) _ _ hb
        · have u2 : ∀ {b : Addr} {xs : List V}, H5 b = some (.lst xs) → upd H5 Dd (.dK (putK (kvsR rws) (.inl t.id : Key) (.ref pp))) b = some (.lst xs) := fun h => (upd_dk (K := K) hD5).2 h
          refine ⟨by rw [List.map_append, hA.fst]; rfl, ?_, fun r hr => ?_, ?_, fun r hr => ?_⟩
          · rw [upd_same, putK_new _ (kvsR_no nid)]
            unfold kvsR
            rw [List.map_append]
            rfl
          · rcases List.mem_append.mp hr with hr | hr
            · exact ⟨u2 (hA5.row r hr).1, u2 (hA5.row r hr).2⟩
            · rw [List.mem_singleton.mp hr]
              exact ⟨u2 hp, u2 hq⟩
          · rw [List.map_append]
            refine List.nodup_append.mpr ⟨hA.nq, by simp, fun a ha b hb => ?_⟩
            rw [List.map_cons, List.map_nil, List.mem_singleton] at hb
            obtain ⟨r, hr, rfl⟩ := List.mem_map.mp ha
            intro z
            have := (hA4.row r hr).2
            rw [z, hb, nq] at this
            cases this
          · rcases List.mem_append.mp hr with hr | hr
            · exact hA.new r hr
            · rw [List.mem_singleton.mp hr]
              exact fresh_back ((e12.trans e34)) nq
    · have hlen : (rs.map V.ref).length = W.ts.length := by rw [List.length_map, hR.1]
      rw [hlen, List.take_of_length_le (Nat.le_refl _)] at hA
      exact q Dd H' rws (fresh_back e1 hD) (e1.trans e2) hA⟩
end
end Kz
set_option Elab.async false
set_option linter.all false
set_option maxRecDepth 100000
set_option maxHeartbeats 4000000
set_option exponentiation.threshold 500
namespace Kz
open PySem PySem.Spec PyProof.Rows L2 Evl Vr
local macro_rules | `(tactic| walk_at "sc") => `(tactic| first | (with_reducible assumption) | (with_reducible exact sc_mul (by omega)) | (with_reducible exact sc_mulr (by omega)) | (with_reducible exact sc_div (by omega) (by decide)) | (show (0 : Int) < _; omega) | (show _ ≠ (0 : Int); omega) | (with_reducible rfl) | decide)
local macro_rules | `(tactic| walk_at "sq") => `(tactic| first | assumption | exact sq_of (by assumption) | exact st_of (by assumption))
local macro_rules | `(tactic| walk_at "pl") => `(tactic| first | assumption | exact pl_int | exact pl_bl | exact pl_str | exact pl_non | exact pl_lst (by assumption) | exact pl_tup (by assumption) | exact pl_dK (by assumption))
local macro_rules | `(tactic| walk_at "rv") => `(tactic| first
  | with_reducible exact rv_I0
  | with_reducible exact ru_neg
  | ((with_reducible apply rv_I); walk_at "sc")
  | ((with_reducible apply rv_ixL); walk_at "sq"; first | rfl | assumption)
  | ((with_reducible apply rv_ixT); walk_at "sq"; first | rfl | assumption)
  | ((with_reducible apply rv_eq); rfl) | ((with_reducible apply rv_ne); rfl))
local macro_rules | `(tactic| walk_at "rc") => `(tactic| first
  | with_reducible exact rc_I1 | with_reducible exact rc_B1 | with_reducible exact rc_I2 | ((with_reducible apply rc_repr); walk_at "sc") | ((with_reducible apply rc_lenL); walk_at "sq")
  | ((with_reducible apply rc_isiInt); walk_at "pl") | ((with_reducible apply rc_isiBool); walk_at "pl"))
local macro_rules | `(tactic| walk_at "ea") => `(tactic| first
  | with_reducible exact ea_nil | ((with_reducible apply ea_cons); walk_at "ev"; walk_at "ea"))
local macro_rules | `(tactic| walk_at "pow") => `(tactic| first
  | with_reducible exact ev_pow (a := 10) (b := 9) (c := 1000000000) (by decide +kernel) (by decide +kernel)
  | with_reducible exact ev_pow (a := 10) (b := 10) (c := 10000000000) (by decide +kernel) (by decide +kernel)
  | with_reducible exact ev_pow (a := 10) (b := 12) (c := 1000000000000) (by decide +kernel) (by decide +kernel)
  | with_reducible exact ev_pow (a := 10) (b := 17) (c := 100000000000000000) (by decide +kernel) (by decide +kernel)
  | with_reducible exact ev_pow (a := 10) (b := 20) (c := 100000000000000000000) (by decide +kernel) (by decide +kernel)
  | with_reducible exact ev_pow (a := 10) (b := 29) (c := 100000000000000000000000000000) (by decide +kernel) (by decide +kernel)
  | with_reducible exact ev_pow (a := 10) (b := 30) (c := 1000000000000000000000000000000) (by decide +kernel) (by decide +kernel)
  | with_reducible exact ev_pow (a := 10) (b := 40) (c := 10000000000000000000000000000000000000000) (by decide +kernel) (by decide +kernel)
  | with_reducible exact ev_pow (a := 10) (b := 57) (c := 1000000000000000000000000000000000000000000000000000000000) (by decide +kernel) (by decide +kernel)
  | with_reducible exact ev_pow (a := 10) (b := 58) (c := 10000000000000000000000000000000000000000000000000000000000) (by decide +kernel) (by decide +kernel)
  | with_reducible exact ev_pow (a := 10) (b := 59) (c := 100000000000000000000000000000000000000000000000000000000000) (by decide +kernel) (by decide +kernel)
  | with_reducible exact ev_pow (a := 10) (b := 60) (c := 1000000000000000000000000000000000000000000000000000000000000) (by decide +kernel) (by decide +kernel))
local macro_rules | `(tactic| walk_at "call") => `(tactic| (intro H9 e9; first | exact ⟨_, rfl, rfl⟩ | exact ⟨_, _, rfl, rfl⟩ | exact ⟨_, _, _, rfl, rfl⟩ | exact ⟨_, rfl, by walk_at "pl", rfl⟩ | (refine ⟨_, _, _, rfl, ?_, rfl⟩; first | exact Plain.ex e9 (by assumption) | walk_at "pl") | (refine ⟨_, rfl, ?_, rfl⟩; first | exact Plain.ex e9 (by assumption) | walk_at "pl")))
local macro_rules | `(tactic| walk_at "ev") => `(tactic| first
  | with_reducible exact ev_c
  | exact ev_var rfl
  | walk_at "pow"
  | ((with_reducible apply ev_op); walk_at "ev"; walk_at "ev"; walk_at "rv")
  | ((with_reducible apply ev_un); walk_at "ev"; walk_at "rv")
  | ((with_reducible apply ev_cb); walk_at "ea"; walk_at "rc")
  | ((with_reducible apply ev_callP); walk_at "ea"; walk_at "call")
  | ((with_reducible apply ev_chain); walk_at "ev"; walk_at "ev"; walk_at "rv"; walk_at "ev"; walk_at "rv")
  | ((with_reducible apply ev_andV); walk_at "ev"; intro _; walk_at "ev")
  | ((with_reducible apply ev_orV); walk_at "ev"; intro _; walk_at "ev")
  | ((with_reducible apply ev_ite); walk_at "et"; intro _; walk_at "ev"; intro _; walk_at "ev")
  | ((with_reducible apply ev_notV); walk_at "ev"))
local macro_rules | `(tactic| walk_at "et") => `(tactic| first
  | ((with_reducible apply et_test); walk_at "ev")
  | ((with_reducible apply et_B); walk_at "ev")
  | ((with_reducible apply et_and); walk_at "et"; intro _; walk_at "et")
  | ((with_reducible apply et_or); walk_at "et"; intro _; walk_at "et")
  | ((with_reducible apply et_not); walk_at "et"))
open En Wo
theorem q_run {σ : L2.St} {H : Hp} {te : TE} {D : Ends} {tz : TS} {i : Nat} (h : te σ H (fun v H1 => tz D (σ.set i (some v)) H1)) : tSeq (tAsg te (gName i)) tz D σ H := h
section
variable {P : Program} {w : World} {K : PySem.W.Frag} {mg : Str → Option Value} {base : Heap}
theorem base_ids (W : Wd) (D : Df) : (base0 W D).length ≤ W.ts.length := List.length_filter_le _ _
theorem ok_things_behind (T : Txt K mg w) : FnOk P w K mg base CX0 1 T.a_things_behind T.fd_things_behind ["world", "told"] (Ddata K (kBehind K T.C_World)) := by
  refine T.F_things_behind.ok sc_things_behind (fun vs H Q E h => ?_) (fun cdv A outer s H vs Q E hr h => ?_)
  · obtain ⟨_, ⟨_, _, _, _, rfl, _⟩, _⟩ := h; rfl
  · obtain ⟨_, ⟨p, x, W, D, rfl, hW, hD, l1, l2, hfit, rfl⟩, q⟩ := h
    refine ⟨_, (pss_cons (ps_asg (pv 1) (pg_tup rfl (pgs_cons (pg_name (i := 2) sc_things_behind.nd rfl (.inl rfl)) (pgs_cons (pg_name (i := 2) sc_things_behind.nd rfl (.inl rfl)) (pgs_cons (pg_name (i := 2) sc_things_behind.nd rfl (.inl rfl)) (pgs_cons (pg_name (i := 3) sc_things_behind.nd rfl (.inr rfl)) (pgs_cons (pg_name (i := 4) sc_things_behind.nd rfl (.inl rfl)) (pgs_cons (pg_name (i := 5) sc_things_behind.nd rfl (.inl rfl)) pgs_nil))))))))
  (pss_cons (ps_set (i := 9) sc_things_behind.nd rfl (.inr rfl) (pe_dc (own := [("thing", 6), ("kind", 7), ("numbers", 8)]) (g := gTup _ 3 (gCons (gName 6) (gCons (gName 7) (gCons (gName 8) gNil)))) (by rfl) sc_things_behind.nd (pi_tup (pe_fld (pv 0) rfl)) (blkOk_by (own := [("thing", 6), ("kind", 7), ("numbers", 8)]) (N := ["world", "told", "_", "gone", "came", "changed", "thing", "kind", "numbers", "things", "at", "number"]) (sc := defScope s_things_behind) (by decide +kernel)) (fun _ _ _ _ _ => pg_tup rfl (pgs_cons (pg_name (i := 6) sc_things_behind.nd rfl (by first | exact Or.inl rfl | exact Or.inr rfl)) (pgs_cons (pg_name (i := 7) sc_things_behind.nd rfl (by first | exact Or.inl rfl | exact Or.inr rfl)) (pgs_cons (pg_name (i := 8) sc_things_behind.nd rfl (by first | exact Or.inl rfl | exact Or.inr rfl)) pgs_nil)))) (fun _ _ _ _ _ => (pts_one (pt_cmpR (op_notIn_seqK (K := K) rfl) (pv 6) (pv 3) (by rfl)))) (fun _ _ _ _ _ => (pv 6)) (fun _ _ _ _ _ => (pe_lst (pa_cons (pv 7) (pa_cons (pe_callTy (c_listSK (K := K) rfl) (by rfl) T.z_list (by decide +kernel) (pa_cons (pv 8) pa_nil)) pa_nil))))))
  (pss_cons (ps_for PassesOwn.never rfl (pi_tup (pv 5)) (pg_tup rfl (pgs_cons (pg_name (i := 6) sc_things_behind.nd rfl (.inl rfl)) (pgs_cons (pg_name (i := 10) sc_things_behind.nd rfl (.inl rfl)) (pgs_cons (pg_name (i := 11) sc_things_behind.nd rfl (.inl rfl)) pgs_nil)))) (pss_one (ps_asg (pv 11) (pg_sub (pe_ix ix_list (pe_dget (hu_of hr) (pv 9) (pv 6) (fun _ _ => rfl)) pe_int (fun _ _ => rfl)) (pv 10) set_list))))
  (pss_cons (ps_for PassesOwn.never rfl (pi_tup (pv 4)) (pg_tup rfl (pgs_cons (pg_name (i := 6) sc_things_behind.nd rfl (.inl rfl)) (pgs_cons (pg_name (i := 7) sc_things_behind.nd rfl (.inl rfl)) (pgs_cons (pg_name (i := 8) sc_things_behind.nd rfl (.inl rfl)) pgs_nil)))) (pss_one (ps_asg (pe_lst (pa_cons (pv 7) (pa_cons (pv 8) pa_nil))) (pg_sub (pv 9) (pv 6) (set_dict (hu_of hr))))))
  (pss_one (ps_ret (pe_callTy c_tupL (by rfl) T.z_tuple (by decide +kernel) (pa_cons (pe_lc (own := [("thing", 6)]) (g := gName 6) (by rfl) sc_things_behind.nd (pi_list (pe_callB cr_sorted (by rfl) T.z_sorted (by decide +kernel) (pa_cons (pe_callTy (call_list_dK rfl) (by rfl) T.z_list (by decide +kernel) (pa_cons (pv 9) pa_nil)) pa_nil))) (blkOk_by (own := [("thing", 6)]) (N := ["world", "told", "_", "gone", "came", "changed", "thing", "kind", "numbers", "things", "at", "number"]) (sc := defScope s_things_behind) (by decide +kernel)) (fun _ _ _ _ _ => pg_name (i := 6) sc_things_behind.nd rfl (by first | exact Or.inl rfl | exact Or.inr rfl)) (fun _ _ _ _ _ => pts_nil) (fun _ _ _ _ _ => (pe_tup (pa_cons (pv 6) (pa_cons (pe_ix (ix_listK (K := K) rfl) (pe_dget (hu_of hr) (pv 9) (pv 6) (fun _ _ => rfl)) pe_int (fun _ _ => rfl)) (pa_cons (pe_callTy (c_tupAK (K := K) rfl) (by rfl) T.z_tuple (by decide +kernel) (pa_cons (pe_ix (ix_listK (K := K) rfl) (pe_dget (hu_of hr) (pv 9) (pv 6) (fun _ _ => rfl)) pe_int (fun _ _ => rfl)) pa_nil)) pa_nil)))))) pa_nil)))))))), ?_⟩
    obtain ⟨r, ag, ac, ah, gs, cs, hs, rfl, hX, hG, rfl, hC, hCd, hH, hHd⟩ := hD.df
    obtain ⟨dx, aT, aO, aD, rs, hob, hT, hR, _⟩ := hW.at_.ob
    have few := hW.few
    have lb := base_ids W D
    have ndb : (Tg.ids (base0 W D)).Nodup := (List.filter_sublist.map _).nodup hW.nd
    refine q_asg6u (ev_var rfl) hX fun H1 e1 => ?_
    refine q_run (dc_rows (tl := tFld K (tVar 0) "things") (σ := [some (.ref p), some (.ref r), some (.int D.l), some (.ref ag), some (.ref ac), some (.ref ah), none, none, none, none, none, none]) (W := W) (D := D) (fun _ _ _ => rfl) (fun _ _ _ => ⟨rfl, rfl, rfl⟩) (fun _ _ _ => rfl) (ev_fld (ev_var rfl) (e1 _ _ hob) T.cl_World T.n_World_things rfl) (ex_t e1 hT) (hR.ex e1) few hW.nd (ex_t e1 hG) fun Dd H2 rws nD e2 hA => ?_)
    have e12 := e1.trans e2
    have nD0 := fresh_back e1 nD
    refine q_forT (xs := hs) (ev_var rfl) (ex_t e12 hH)
      (fun i σ' H' => (∃ a6 a10 a11, σ' = [some (.ref p), some (.ref r), some (.int D.l), some (.ref ag), some (.ref ac), some (.ref ah), a6, none, none, some (.ref Dd), a10, a11]) ∧ Ex H H' ∧ SqT K H' ah hs ∧ DaAll K H' hs (D.chg.map tripD) ∧ SqT K H' ac cs ∧ DaAll K H' cs (D.came.map tgD) ∧ ∃ rws, TabL K H H' Dd rws ((D.chg.take i).foldl chg1 (base0 W D)))
      (fun H3 e3 => ⟨⟨none, none, none, rfl⟩, e12.trans e3, ex_t (e12.trans e3) hH, daa_ex (e12.trans e3) _ _ hHd, ex_t (e12.trans e3) hC, daa_ex (e12.trans e3) _ _ hCd, rws, (TabL.ex e3 ⟨hA.fst, hA.d, hA.row, hA.nq, fun r hr => fresh_back e1 (hA.new r hr)⟩)⟩) (fun i σ' H' _ h => h.2.2.1) (fun i x σ' H' hx h => ?_) fun σ' H' h => ?_
    · obtain ⟨⟨a6, a10, a11, rfl⟩, e3, hH3, hHd3, hC3, hCd3, rws, hA⟩ := h
      obtain ⟨c, hc, hda⟩ := hHd3.map_at hx
      obtain ⟨r', rfl, hT3⟩ := da_trip hda
      refine ⟨r', _, rfl, hT3, rfl, _, _, rfl, _, _, rfl, _, _, rfl, rfl, ?_⟩
      have hm := List.mem_of_getElem? hc
      obtain ⟨u0, hu0, hid0, hng, c0, cl⟩ := hfit c hm
      have hib : u0.id ∈ Tg.ids ((D.chg.take i).foldl chg1 (base0 W D)) := by
        rw [chgs_ids]
        exact List.mem_map_of_mem (List.mem_filter.mpr ⟨hu0, by rw [decide_eq_false hng]; rfl⟩)
      obtain ⟨u, hu, hid⟩ := List.mem_map.mp hib
      obtain ⟨u1, hu1, i1, ln1, _⟩ := chgs_len _ hu
      have hu1W := (List.mem_filter.mp hu1).1
      have e10 : u1 = u0 := nd_inj (f := Tg.id) (l := W.ts) hW.nd hu1W hu0 (i1.trans hid)
      rw [← hA.fst] at hu
      obtain ⟨rw0, hrw, hfu⟩ := List.mem_map.mp hu
      have hri : rw0.1.id = c.1 := by rw [hfu, hid, hid0]
      have nd' : (Tg.ids (rws.map (·.1))).Nodup := by rw [hA.fst, chgs_ids]; exact ndb
      obtain ⟨g1, g2⟩ := hA.row rw0 hrw
      have hval := kvsR_val hrw nd'
      rw [hri] at hval
      have hat : (c.2.1.toNat : Int) = c.2.1 := Int.toNat_of_nonneg c0
      have hlt : c.2.1.toNat < (rw0.1.ns.map V.int).length := by
        rw [List.length_map, hfu, ← ln1, e10]
        omega
      refine s_setL (v := .int c.2.2) (l := rw0.2.2) (j := c.2.1.toNat) g2 (ev_var rfl) (ev_op (ev_dget (k := .inl c.1) (ev_var rfl) (ev_var rfl) hA.d hval) ev_c (rv_ixL (sq_of g1) rfl)) (ev_is (ev_var rfl) (by rw [hat])) hlt fun H4 e4 => ?_
      have g2' : H4 rw0.2.2 = some (.lst (rw0.1.ns.map V.int)) := e4 _ _ g2
      have es : (rw0.1.ns.map V.int).set c.2.1.toNat (V.int c.2.2) = (setN c rw0.1).ns.map V.int := by
        show _ = (rw0.1.ns.set c.2.1.toNat c.2.2).map V.int
        rw [List.map_set]
      rw [es]
      have hA4 := hA.ex e4
      have nq0 := hA.new rw0 hrw
      refine ⟨⟨_, _, _, rfl⟩, Ex.mut (e3.trans e4) nq0, sqt_lup g2' (ex_t e4 hH3), daa_lup g2' _ _ (nls_trips _) (daa_ex e4 _ _ hHd3), sqt_lup g2' (ex_t e4 hC3), daa_lup g2' _ _ (nls_tgs _) (daa_ex e4 _ _ hCd3), setR c rws, ?_, ?_, rows_set hrw hri nd' hA.nq hA4.row, ?_, fun z hz => ?_⟩
      · rw [setR_fst, hA.fst, take_succ hc, List.foldl_append]
        rfl
      · have nDd : Dd ≠ rw0.2.2 := fun z => by rw [← z, hA4.d] at g2'; cases g2'
        rw [upd_ne nDd, hA4.d, setR_kvs]
      · rw [setR_qs]
        exact hA.nq
      · have : z.2.2 ∈ rws.map (·.2.2) := by rw [← setR_qs c]; exact List.mem_map_of_mem hz
        obtain ⟨y, hy, hyq⟩ := List.mem_map.mp this
        rw [← hyq]
        exact hA.new y hy
    · obtain ⟨⟨a6, a10, a11, rfl⟩, e3, hH3, hHd3, hC3, hCd3, rws, hA⟩ := h
      have hlh : hs.length = D.chg.length := by have := hHd3.len; rwa [List.length_map] at this
      rw [hlh, List.take_of_length_le (Nat.le_refl _)] at hA
      have ndc : (Tg.ids (D.chg.foldl chg1 (base0 W D))).Nodup := by rw [chgs_ids]; exact ndb
      have lenc : (D.chg.foldl chg1 (base0 W D)).length ≤ 12 := by
        have : (Tg.ids (D.chg.foldl chg1 (base0 W D))).length = (Tg.ids (base0 W D)).length := by rw [chgs_ids]
        rw [tg_len, tg_len] at this
        omega
      refine q_forT (xs := cs) (ev_var rfl) hC3
        (fun i σ' H' => (∃ a6 a7 a8 a10 a11, σ' = [some (.ref p), some (.ref r), some (.int D.l), some (.ref ag), some (.ref ac), some (.ref ah), a6, a7, a8, some (.ref Dd), a10, a11]) ∧ Ex H H' ∧ SqT K H' ac cs ∧ DaAll K H' cs (D.came.map tgD) ∧ ∃ rws, TabA K H' Dd rws ((D.came.take i).foldl putT (D.chg.foldl chg1 (base0 W D))))
        (fun H4 e4 => ⟨⟨_, _, _, _, _, rfl⟩, e3.trans e4, ex_t e4 hC3, daa_ex e4 _ _ hCd3, rws, TabA.ex e4 ⟨hA.fst, hA.d, fun r hr => ⟨(hA.row r hr).1, .inl (hA.row r hr).2⟩⟩⟩) (fun i σ' H' _ h => h.2.2.1) (fun i x σ' H' hx h => ?_) fun σ' H' h => ?_
      · obtain ⟨⟨b6, b7, b8, b10, b11, rfl⟩, e4, hC4, hCd4, rws, hA⟩ := h
        obtain ⟨t, ht, hda⟩ := hCd4.map_at hx
        obtain ⟨r', rfl, rn, hT4, hN4⟩ := da_tgat hda
        refine ⟨r', _, rfl, hT4, rfl, _, _, rfl, _, _, rfl, _, _, rfl, rfl, ?_⟩
        have lr : rws.length ≤ 62 := by
          have z := puts_len (D.came.take i) (D.chg.foldl chg1 (base0 W D))
          rw [← hA.fst, List.length_map, List.length_take] at z
          omega
        refine s_dputN (k := .inl t.id) hA.d (el_lst (ea_cons (ev_var rfl) (ea_cons (ev_var rfl) ea_nil)) (by show 2 ≤ 100000; decide)) (fun _ => ev_var rfl) (fun _ => ev_var rfl) (by unfold kvsR; rw [List.length_map]; omega) fun l H5 n5 e5 h5 => ?_
        have hA5 := hA.ex e5
        have hkv := putR_kvs rws (t, l, rn)
        rw [show putK (kvsR rws) (.inl t.id : Key) (.ref l) = kvsR (putR rws (t, l, rn)) from hkv]
        have u1 : ∀ {b : Addr} {xs : List V}, SqT K H5 b xs → SqT K (upd H5 Dd (.dK (kvsR (putR rws (t, l, rn))))) b xs := fun h => (upd_dk hA5.d).1 h
        have u2 : ∀ {b : Addr} {xs : List V}, H5 b = some (.lst xs) → upd H5 Dd (.dK (kvsR (putR rws (t, l, rn)))) b = some (.lst xs) := fun h => (upd_dk (K := K) hA5.d).2 h
        refine ⟨⟨_, _, _, _, _, rfl⟩, Ex.mut (e4.trans e5) nD0, u1 (ex_t e5 hC4), daa_dk hA5.d _ _ (nls_tgs _) (daa_ex e5 _ _ hCd4), putR rws (t, l, rn), ?_, upd_same, fun z hz => ?_⟩
        · rw [putR_fst, hA.fst, take_succ ht, List.foldl_append]
          rfl
        · rcases putR_mem hz with rfl | hz
          · exact ⟨u2 h5, .inr (u1 (ex_t e5 hN4))⟩
          · obtain ⟨g1, g2⟩ := hA5.row z hz
            exact ⟨u2 g1, g2.elim (fun w => .inl (u2 w)) fun w => .inr (u1 w)⟩
      · obtain ⟨⟨b6, b7, b8, b10, b11, rfl⟩, e4, hC4, hCd4, rws, hA⟩ := h
        have hlc : cs.length = D.came.length := by have := hCd4.len; rwa [List.length_map] at this
        rw [hlc, List.take_of_length_le (Nat.le_refl _)] at hA
        have hfst : rws.map (·.1) = mixed W D := hA.fst
        have ndm : (Tg.ids (mixed W D)).Nodup := puts_nd _ ndc
        have lenm : (mixed W D).length ≤ 62 := by
          have z := puts_len D.came (D.chg.foldl chg1 (base0 W D))
          unfold mixed
          omega
        have lenr : rws.length ≤ 62 := by have z := congrArg List.length hfst; rw [List.length_map] at z; omega
        have hsl := (sortT_perm (mixed W D)).length_eq
        have hlb : ((Tg.ids (behind W D)).map V.int).length = (behind W D).length := by rw [List.length_map, tg_len]
        have hres : (List.range ((Tg.ids (behind W D)).map V.int).length).map (fun i => tgD ((behind W D).getD i ⟨0, "", []⟩)) = (behind W D).map tgD := by
          rw [hlb]
          apply List.ext_getElem?
          intro i
          rw [List.getElem?_map, List.getElem?_map]
          by_cases hi : i < (behind W D).length
          · rw [List.getElem?_range hi, List.getElem?_eq_getElem hi]
            show some (tgD ((behind W D).getD i _)) = _
            rw [List.getD_eq_getElem?_getD, List.getElem?_eq_getElem hi]
            rfl
          · rw [List.getElem?_eq_none (by rw [List.length_range]; omega), List.getElem?_eq_none (by omega)]
            rfl
        refine s_retW2 (d := .tuple ((behind W D).map tgD)) (ew_tupN ?_) fun v H5 e5 h5 => q v H5 (e4.trans e5) h5
        rw [← hres]
        refine ed_lcN (fun i => tgD ((behind W D).getD i ⟨0, "", []⟩)) (fun i => nl_tg _) (el_is (el_sortK (ev_var rfl) hA.d (by omega) (by rw [hfst]; exact ndm)) (by rw [hfst]; rfl)) (by rw [hlb]; show (sortT (mixed W D)).length ≤ _; omega) (fun _ => rfl) fun i x H5 e5 hx => ?_
        have hi : i < (behind W D).length := by have := (List.getElem?_eq_some_iff.mp hx).1; rwa [hlb] at this
        have hxi := int_get hx
        have hti : (behind W D).getD i ⟨0, "", []⟩ = (behind W D)[i] := by rw [List.getD_eq_getElem?_getD, List.getElem?_eq_getElem hi]; rfl
        have hidi : (Tg.ids (behind W D)).getD i 0 = (behind W D)[i].id := by
          unfold Tg.ids
          rw [List.getD_eq_getElem?_getD, List.getElem?_map, List.getElem?_eq_getElem hi]
          rfl
        rw [hti]
        rw [hidi] at hxi
        subst hxi
        have hmt : (behind W D)[i] ∈ mixed W D := (sortT_perm (mixed W D)).mem_iff.mp (List.getElem_mem hi)
        generalize (behind W D)[i] = t at hmt ⊢
        rw [← hfst] at hmt
        obtain ⟨rw0, hrw, rfl⟩ := List.mem_map.mp hmt
        have hA5 := hA.ex e5
        have hval := kvsR_val hrw (by rw [hfst]; exact ndm)
        obtain ⟨g1, g2⟩ := hA5.row rw0 hrw
        exact ew_tup (ea_w1 (ew_ev (ev_var rfl) fun _ _ => .int _) (ea_w1 (ew_ev (ev_op (ev_dget (k := .inl rw0.1.id) (ev_var rfl) (ev_var rfl) hA5.d hval) ev_c (rv_ixL (v := .str rw0.1.kd) (sq_of g1) rfl)) fun _ _ => .str _) (ea_w1 (ew_tupA (ev_op (ev_dget (k := .inl rw0.1.id) (ev_var rfl) (ev_var rfl) hA5.d hval) ev_c (rv_ixL (v := .ref rw0.2.2) (sq_of g1) rfl)) g2) ea_w0))) (by show 3 ≤ 100000; decide)
end
end Kz
set_option Elab.async false
set_option linter.all false
set_option maxRecDepth 100000
set_option maxHeartbeats 4000000
set_option exponentiation.threshold 500
namespace Kz
open PySem PySem.Spec PyProof.Rows L2 Evl Vr
local macro_rules | `(tactic| walk_at "sc") => `(tactic| first | (with_reducible assumption) | (with_reducible exact sc_mul (by omega)) | (with_reducible exact sc_mulr (by omega)) | (with_reducible exact sc_div (by omega) (by decide)) | (show (0 : Int) < _; omega) | (show _ ≠ (0 : Int); omega) | (with_reducible rfl) | decide)
local macro_rules | `(tactic| walk_at "sq") => `(tactic| first | assumption | exact sq_of (by assumption) | exact st_of (by assumption))
local macro_rules | `(tactic| walk_at "pl") => `(tactic| first | assumption | exact pl_int | exact pl_bl | exact pl_str | exact pl_non | exact pl_lst (by assumption) | exact pl_tup (by assumption) | exact pl_dK (by assumption))
local macro_rules | `(tactic| walk_at "rv") => `(tactic| first
  | with_reducible exact rv_I0
  | with_reducible exact ru_neg
  | ((with_reducible apply rv_I); walk_at "sc")
  | ((with_reducible apply rv_ixL); walk_at "sq"; first | rfl | assumption)
  | ((with_reducible apply rv_ixT); walk_at "sq"; first | rfl | assumption)
  | ((with_reducible apply rv_eq); rfl) | ((with_reducible apply rv_ne); rfl))
local macro_rules | `(tactic| walk_at "rc") => `(tactic| first
  | with_reducible exact rc_I1 | with_reducible exact rc_B1 | with_reducible exact rc_I2 | ((with_reducible apply rc_repr); walk_at "sc") | ((with_reducible apply rc_lenL); walk_at "sq")
  | ((with_reducible apply rc_isiInt); walk_at "pl") | ((with_reducible apply rc_isiBool); walk_at "pl"))
local macro_rules | `(tactic| walk_at "ea") => `(tactic| first
  | with_reducible exact ea_nil | ((with_reducible apply ea_cons); walk_at "ev"; walk_at "ea"))
local macro_rules | `(tactic| walk_at "pow") => `(tactic| first
  | with_reducible exact ev_pow (a := 10) (b := 9) (c := 1000000000) (by decide +kernel) (by decide +kernel)
  | with_reducible exact ev_pow (a := 10) (b := 10) (c := 10000000000) (by decide +kernel) (by decide +kernel)
  | with_reducible exact ev_pow (a := 10) (b := 12) (c := 1000000000000) (by decide +kernel) (by decide +kernel)
  | with_reducible exact ev_pow (a := 10) (b := 17) (c := 100000000000000000) (by decide +kernel) (by decide +kernel)
  | with_reducible exact ev_pow (a := 10) (b := 20) (c := 100000000000000000000) (by decide +kernel) (by decide +kernel)
  | with_reducible exact ev_pow (a := 10) (b := 29) (c := 100000000000000000000000000000) (by decide +kernel) (by decide +kernel)
  | with_reducible exact ev_pow (a := 10) (b := 30) (c := 1000000000000000000000000000000) (by decide +kernel) (by decide +kernel)
  | with_reducible exact ev_pow (a := 10) (b := 40) (c := 10000000000000000000000000000000000000000) (by decide +kernel) (by decide +kernel)
  | with_reducible exact ev_pow (a := 10) (b := 57) (c := 1000000000000000000000000000000000000000000000000000000000) (by decide +kernel) (by decide +kernel)
  | with_reducible exact ev_pow (a := 10) (b := 58) (c := 10000000000000000000000000000000000000000000000000000000000) (by decide +kernel) (by decide +kernel)
  | with_reducible exact ev_pow (a := 10) (b := 59) (c := 100000000000000000000000000000000000000000000000000000000000) (by decide +kernel) (by decide +kernel)
  | with_reducible exact ev_pow (a := 10) (b := 60) (c := 1000000000000000000000000000000000000000000000000000000000000) (by decide +kernel) (by decide +kernel))
local macro_rules | `(tactic| walk_at "call") => `(tactic| (intro H9 e9; first | exact ⟨_, rfl, rfl⟩ | exact ⟨_, _, rfl, rfl⟩ | exact ⟨_, _, _, rfl, rfl⟩ | exact ⟨_, rfl, by walk_at "pl", rfl⟩ | (refine ⟨_, _, _, rfl, ?_, rfl⟩; first | exact Plain.ex e9 (by assumption) | walk_at "pl") | (refine ⟨_, rfl, ?_, rfl⟩; first | exact Plain.ex e9 (by assumption) | walk_at "pl")))
local macro_rules | `(tactic| walk_at "ev") => `(tactic| first
  | with_reducible exact ev_c
  | exact ev_var rfl
  | walk_at "pow"
  | ((with_reducible apply ev_op); walk_at "ev"; walk_at "ev"; walk_at "rv")
  | ((with_reducible apply ev_un); walk_at "ev"; walk_at "rv")
  | ((with_reducible apply ev_cb); walk_at "ea"; walk_at "rc")
  | ((with_reducible apply ev_callP); walk_at "ea"; walk_at "call")
  | ((with_reducible apply ev_chain); walk_at "ev"; walk_at "ev"; walk_at "rv"; walk_at "ev"; walk_at "rv")
  | ((with_reducible apply ev_andV); walk_at "ev"; intro _; walk_at "ev")
  | ((with_reducible apply ev_orV); walk_at "ev"; intro _; walk_at "ev")
  | ((with_reducible apply ev_ite); walk_at "et"; intro _; walk_at "ev"; intro _; walk_at "ev")
  | ((with_reducible apply ev_notV); walk_at "ev"))
local macro_rules | `(tactic| walk_at "et") => `(tactic| first
  | ((with_reducible apply et_test); walk_at "ev")
  | ((with_reducible apply et_B); walk_at "ev")
  | ((with_reducible apply et_and); walk_at "et"; intro _; walk_at "et")
  | ((with_reducible apply et_or); walk_at "et"; intro _; walk_at "et")
  | ((with_reducible apply et_not); walk_at "et"))
open En Wo
/-- an own exception that keeps one value -/
def FErr (C : Addr) (f : Str) (v : V) (E : XK) (H : Hp) : Prop := ∀ d H', Ex H H' → H' d = some (.xd [(f, v)]) → E (.ref C) (some d) H'
theorem FErr.ex {C : Addr} {f : Str} {v : V} {E : XK} {H H1 : Hp} (e : Ex H H1) (h : FErr C f v E H) : FErr C f v E H1 := fun d H' e' hd => h d H' (e.trans e') hd
def DErr (K : PySem.W.Frag) (C : Addr) (f : Str) (dt : PyData) (E : XK) (H : Hp) : Prop := ∀ v d H', Ex H H' → H' d = some (.xd [(f, v)]) → Da K H' v dt → E (.ref C) (some d) H'
theorem DErr.ex {K : PySem.W.Frag} {C : Addr} {f : Str} {dt : PyData} {E : XK} {H H1 : Hp} (e : Ex H H1) (h : DErr K C f dt E H) : DErr K C f dt E H1 := fun v d H' e' hd => h v d H' (e.trans e') hd
def PErr (C : Addr) (E : XK) (H : Hp) : Prop := ∀ H', Ex H H' → E (.ref C) none H'
theorem PErr.ex {C : Addr} {E : XK} {H H1 : Hp} (e : Ex H H1) (h : PErr C E H) : PErr C E H1 := fun H' e' => h H' (e.trans e')
def spField (C : Addr) (f : Str) : Sp := fun vs H Q _ => ∃ (a : Addr) (v : V), vs = [.ref a, v] ∧ H a = some (exo a C none) ∧ ∀ d, H d = none → d ≠ a → Q .non (upd (upd H d (exd d [(f, v)])) a (exo a C (some d)))
theorem field_ex {H1 : Hp} {a d C : Addr} {f : Str} {v : V} (ha : H1 a = none) (hd : (upd H1 a (exo a C none)) d = none) (hne : d ≠ a) : Ex H1 (upd (del (upd (upd (upd H1 a (exo a C none)) d (exd d [(f, v)])) a (exo a C (some d))) a) d (.xd [(f, v)])) := fun b o hb => by
  rw [upd_ne hne] at hd
  have h1 : b ≠ d := fun z => by rw [z, hd] at hb; cases hb
  have h2 : b ≠ a := fun z => by rw [z, ha] at hb; cases hb
  rw [upd_ne h1, del_ne h2, upd_ne h2, upd_ne h1, upd_ne h2]
  exact hb
theorem mk_fieldA {σ : L2.St} {H : Hp} {C : Addr} {f : Str} {ts : TA} {Q : XK} {P : V → Hp → Prop} (ha : ∀ H1, Ex H H1 → ∀ R : List V → Hp → Prop, (∀ v H2, Ex H1 H2 → P v H2 → R [v] H2) → ts σ H1 R) (hP : ∀ v H1 H2, Ex H1 H2 → P v H1 → P v H2) (h : ∀ v d H', Ex H H' → H' d = some (.xd [(f, v)]) → P v H' → Q (.ref C) (some d) H') : tMkO C (spField C f) [] ts σ H Q := by
  refine ha H (Ex.refl H) _ fun v H1 e1 pv => ⟨by show 1 ≤ 1000; decide, fun a ha => ⟨a, v, rfl, upd_same, fun d hd hne => ⟨rfl, d, [(f, v)], upd_same, by rw [upd_ne hne, upd_same], by rw [upd_ne hne] at hd; exact hd, ?_⟩⟩⟩
  have e := field_ex (v := v) (f := f) (C := C) ha hd hne
  exact h v d _ (e1.trans e) upd_same (hP v _ _ e pv)
theorem mk_field {σ : L2.St} {H : Hp} {C : Addr} {f : Str} {v : V} {ts : TA} {Q : XK} (ha : EvA ts σ H [v]) (h : FErr C f v Q H) : tMkO C (spField C f) [] ts σ H Q :=
  mk_fieldA (P := fun u _ => u = v) (fun H1 e R r => ha H1 e R fun H2 e2 => r v H2 e2 rfl) (fun _ _ _ _ z => z) fun u d H' e hd hu => by subst hu; exact h d H' e hd
theorem mk_fieldD {K : PySem.W.Frag} {σ : L2.St} {H : Hp} {C : Addr} {f : Str} {dt : PyData} {te : TE} {Q : XK} (ha : EvDt K te σ H dt) (h : DErr K C f dt Q H) : tMkO C (spField C f) [] (tCons te tNil) σ H Q :=
  mk_fieldA (P := fun u H' => Da K H' u dt) (fun H1 e R r => ha H1 e _ fun v H2 e2 hv => r v H2 e2 hv) (fun v _ _ e z => da_ex e _ _ z) fun u d H' e hd hu => h u d H' e hd hu
theorem kitF {K : PySem.W.Frag} {C : Addr} {n : String} (c : (PySem.W.clsIn K C).isSome = true) (y : PySem.W.typeIn K (.ref C) = some (.type "type")) (h : PySem.W.subIn K (.type n) (.ref C) = some false) : PySem.W.kitOne K (.type n) (.ref C) = some false := by
  unfold PySem.W.kitOne PySem.W.kitCls
  rw [if_neg (by simp)]
  show (if ((PySem.W.clsIn K C).isSome && PySem.W.typeIn K (.ref C) == some (.type "type")) = true then PySem.W.subIn K (.type n) (.ref C) else none) = some false
  rw [c, y, h]
  simp
section
variable {P : Program} {w : World} {K : PySem.W.Frag} {mg : Str → Option Value} {base : Heap}
theorem ok_given (T : Txt K mg w) : FnOk P w K mg base CX0 1 T.a_InvalidNumber___init__ T.fd_InvalidNumber___init__ ["self", "given"] (spField T.C_IN "given") := by
  refine T.F_InvalidNumber___init__.ok sc_InvalidNumber___init__ (fun vs H Q E h => ?_) (fun cdv A outer s H vs Q E hr h => ?_)
  · obtain ⟨_, _, rfl, _⟩ := h; rfl
  · obtain ⟨a, v, rfl, ha, q⟩ := h
    refine ⟨_, (pss_one (ps_osK PySem.Xk.bsIndex (pv 0) (pv 1))), ?_⟩
    exact ⟨v, rfl, .ref a, rfl, a, T.C_IN, rfl, T.o_IN, T.f_IN, ha, fun d hd hne => q d hd hne⟩
theorem ok_reason (T : Txt K mg w) : FnOk P w K mg base CX0 1 T.a_Refused___init__ T.fd_Refused___init__ ["self", "reason"] (spField T.C_RE "reason") := by
  refine T.F_Refused___init__.ok sc_Refused___init__ (fun vs H Q E h => ?_) (fun cdv A outer s H vs Q E hr h => ?_)
  · obtain ⟨_, _, rfl, _⟩ := h; rfl
  · obtain ⟨a, v, rfl, ha, q⟩ := h
    refine ⟨_, (pss_one (ps_osK PySem.Xk.bsArith (pv 0) (pv 1))), ?_⟩
    exact ⟨v, rfl, .ref a, rfl, a, T.C_RE, rfl, T.o_RE, T.f_RE, ha, fun d hd hne => q d hd hne⟩
/-- data is no world -/
theorem Da.noW (T : Txt K mg w) {H : Hp} {v : V} {d : PyData} (h : Da K H v d) : RC (rIsi K) [v, .ref T.C_World] H (.bl false) := fun H1 e Q q => by
  have h0 := da_ex e _ _ h
  clear h
  cases h0 with
  | non => exact ⟨_, .ref T.C_World, _, .ref T.C_World, false, rfl, .own _, .base .non, kitF T.hc_World T.hy_World T.hs_World_NoneType, q H1 (Ex.refl H1)⟩
  | bl b => exact ⟨_, .ref T.C_World, _, .ref T.C_World, false, rfl, .own _, .base (.bl b), kitF T.hc_World T.hy_World T.hs_World_bool, q H1 (Ex.refl H1)⟩
  | int i => exact ⟨_, .ref T.C_World, _, .ref T.C_World, false, rfl, .own _, .base (.int i), kitF T.hc_World T.hy_World T.hs_World_int, q H1 (Ex.refl H1)⟩
  | str x => exact ⟨_, .ref T.C_World, _, .ref T.C_World, false, rfl, .own _, .base (.str x), kitF T.hc_World T.hy_World T.hs_World_str, q H1 (Ex.refl H1)⟩
  | lst h _ => exact ⟨_, .ref T.C_World, _, .ref T.C_World, false, rfl, .own _, .base (.lst h), kitF T.hc_World T.hy_World T.hs_World_list, q H1 (Ex.refl H1)⟩
  | tup h _ => exact ⟨_, .ref T.C_World, _, .ref T.C_World, false, rfl, .own _, tyx_tup h, kitF T.hc_World T.hy_World T.hs_World_tuple, q H1 (Ex.refl H1)⟩
  | dic h => exact ⟨_, .ref T.C_World, _, .ref T.C_World, false, rfl, .own _, .base (.dK h), kitF T.hc_World T.hy_World T.hs_World_dict, q H1 (Ex.refl H1)⟩
/-- a world is there, or data that is none -/
def spNeedW (K : PySem.W.Frag) (C CW : Addr) : Sp := fun vs H Q E => ∃ v, vs = [v] ∧ ((∃ p W, v = .ref p ∧ WdAt K C H p W ∧ ∀ H', Ex H H' → Q .non H') ∨ (∃ d, Da K H v d ∧ PErr CW E H))
theorem ok_need_world (T : Txt K mg w) : FnOk P w K mg base (L2.CX P w) 2 T.a_need_world T.fd_need_world ["value"] (spNeedW K T.C_World T.C_WE) := by
  refine T.F_need_world.okX sc_need_world (fun vs H Q E h => ?_) (fun cdv A outer s H vs Q E hr h => ?_)
  · obtain ⟨_, rfl, _⟩ := h; rfl
  · obtain ⟨v, rfl, h⟩ := h
    refine ⟨_, (pss_one (ps_if (pt_not (pt_val (pe_callB call_isi (by rfl) T.z_isinstance (by decide +kernel) (pa_cons (pv 0) (pa_cons (pe_glob (v := .ref _) rfl T.g_World rfl) pa_nil))))) (pss_one (ps_raise (W := fun cls d _ H => E cls d H) rfl (takes_of rfl rfl rfl rfl) (pmk_own PySem.F.excBase_ValueError T.x_WE T.g_InvalidWorld T.k_WE (raises_own T.e_WE T.y_WE) (by rfl)))) pss_nil)), ?_⟩
    rcases h with ⟨p, W, rfl, hW, q⟩ | ⟨d, hd, q⟩
    · obtain ⟨dx, aT, aO, aD, rs, hob, _⟩ := hW.ob
      exact s_when (b := false) (et_is (et_not (et_B (ev_cb (vs := [.ref p, .ref T.C_World]) (by walk_at "ea") (rc_isiW T hob)))) rfl) (fun h => by cases h) (fun _ H1 e1 => q H1 e1)
    · exact s_when (b := true) (et_is (et_not (et_B (ev_cb (vs := [v, .ref T.C_World]) (by walk_at "ea") (hd.noW T)))) rfl) (fun _ H1 e1 => q H1 e1) (fun h => by cases h)
def spWithin (K : PySem.W.Frag) (CN : Addr) : Sp := fun vs H Q E => ∃ v lo hi, vs = [v, .int lo, .int hi] ∧ Plain K H v ∧ (isWithin lo hi v = true → ∀ H', Ex H H' → Q .non H') ∧ (isWithin lo hi v = false → FErr CN "given" v E H)
theorem ok_need_within (T : Txt K mg w) : FnOk P w K mg base (L2.CX P w) 3 T.a_need_within T.fd_need_within ["value", "low", "high"] (spWithin K T.C_IN) := by
  have G_is_within := ok_is_within (P := P) (w := w) (base := base) T
  have G_InvalidNumber___init__ := ok_given (P := P) (w := w) (base := base) T
  refine T.F_need_within.okX sc_need_within (fun vs H Q E h => ?_) (fun cdv A outer s H vs Q E hr h => ?_)
  · obtain ⟨_, _, _, rfl, _⟩ := h; rfl
  · obtain ⟨v, lo, hi, rfl, hp, q1, q2⟩ := h
    refine ⟨_, (pss_one (ps_if (pt_not (pt_val (pe_call G_is_within (hr.mono (by decide)) (by rfl) T.g_is_within T.F_is_within.kp T.b_is_within .nil pass0 (pa_cons (pv 0) (pa_cons (pv 1) (pa_cons (pv 2) pa_nil)))))) (pss_one (ps_raise (W := fun cls d _ H => E cls d H) rfl (takes_of rfl rfl rfl rfl) (pmk_oxK PySem.Xk.bsIndex T.o_IN T.i_IN T.t_IN G_InvalidNumber___init__ (hr.mono (by decide)) T.b_InvalidNumber___init__ .nil pass0 (by rfl) T.g_InvalidNumber (pa_cons (pv 0) pa_nil)))) pss_nil)), ?_⟩
    refine s_when (b := !isWithin lo hi v) (et_not (et_B (ev_callP (vs := [v, .int lo, .int hi]) (by walk_at "ea") fun H1 e1 => ⟨v, lo, hi, rfl, hp.ex e1, rfl⟩))) (fun hb H1 e1 => ?_) fun hb H1 e1 => q1 (nf hb) H1 e1
    exact mk_field (ea_cons (ev_var rfl) ea_nil) (FErr.ex e1 (q2 (nt hb)))
theorem ok_in_seqX (T : Txt K mg w) : FnOk P w K mg base CX0 1 T.a_are_in_sequence T.fd_are_in_sequence ["things", "next_id"] (Pure fun vs H z => ∃ (a : Addr) (ts : List Tg) (n : Int), vs = [.ref a, .int n] ∧ TsAt K H a ts ∧ ts.length ≤ 1000 ∧ z = .bl (ascI (Tg.ids ts ++ [n]))) := by
  refine T.F_are_in_sequence.ok sc_are_in_sequence (fun vs H Q E h => ?_) (fun cdv A outer s H vs Q E hr h => ?_)
  · obtain ⟨_, ⟨_, _, _, rfl, _⟩, _⟩ := h; rfl
  · obtain ⟨_, ⟨a, ts, n, rfl, ⟨rs, hT, hR⟩, hl, rfl⟩, q⟩ := h
    refine ⟨_, (pss_cons (ps_set (i := 2) sc_are_in_sequence.nd rfl (.inl rfl) (pe_op op_cat (pe_lc (own := [("thing", 3)]) (g := gName 3) (by rfl) sc_are_in_sequence.nd (pi_tup (pv 0)) (blkOk_by (own := [("thing", 3)]) (N := ["things", "next_id", "ids", "thing", "low", "high"]) (sc := defScope s_are_in_sequence) (by decide +kernel)) (fun _ _ _ _ _ => pg_name (i := 3) sc_are_in_sequence.nd rfl (by first | exact Or.inl rfl | exact Or.inr rfl)) (fun _ _ _ _ _ => pts_nil) (fun _ _ _ _ _ => (pe_ix (ix_tupK (K := K) rfl) (pv 3) pe_int (fun _ _ => rfl)))) (pe_lst (pa_cons (pv 1) pa_nil))))
  (pss_one (ps_ret (pe_callB (cr_all rfl) (by rfl) T.z_all (by decide +kernel) (pa_cons (pe_lc (own := [("low", 4), ("high", 5)]) (g := gTup _ 2 (gCons (gName 4) (gCons (gName 5) gNil))) (by rfl) sc_are_in_sequence.nd (pi_zip rfl T.z_zip (pa_cons (pv 2) (pa_cons (pe_slice sl_list (pv 2) (po_some pe_int) po_none) pa_nil))) (blkOk_by (own := [("low", 4), ("high", 5)]) (N := ["things", "next_id", "ids", "thing", "low", "high"]) (sc := defScope s_are_in_sequence) (by decide +kernel)) (fun _ _ _ _ _ => pg_tup rfl (pgs_cons (pg_name (i := 4) sc_are_in_sequence.nd rfl (by first | exact Or.inl rfl | exact Or.inr rfl)) (pgs_cons (pg_name (i := 5) sc_are_in_sequence.nd rfl (by first | exact Or.inl rfl | exact Or.inr rfl)) pgs_nil))) (fun _ _ _ _ _ => pts_nil) (fun _ _ _ _ _ => (pe_cmpR op_lt (pv 4) (pv 5) (nomark _)))) pa_nil))))), ?_⟩
    have e0 : (Tg.ids ts ++ [n]).map V.int = (ts.filter fun _ => true).map (fun t => V.int t.id) ++ [V.int n] := by
      rw [List.filter_eq_self.mpr (fun _ _ => rfl), List.map_append]
      unfold Tg.ids
      rw [List.map_map]
      rfl
    refine q_asgL (xs := (Tg.ids ts ++ [n]).map V.int) ?_ fun L H1 n1 e1 h1 => ?_
    · rw [e0]
      exact el_cat (el_lcTs (fun _ => true) (fun _ t => V.int t.id) (fun t => V.int t.id) (ev_var rfl) hT hR (by omega) (fun _ => rfl) (fun r t H1 e1 _ _ => et_yes) fun r t H1 e1 hA _ _ => ev_tg0 (ev_var rfl) hA) (el_lst (by walk_at "ea") (by show 1 ≤ 100000; decide)) (by
        rw [List.length_map, List.filter_eq_self.mpr (fun _ _ => rfl)]
        show ts.length + 1 ≤ 100000
        omega)
    · generalize hns : Tg.ids ts ++ [n] = ns at h1 q
      have hln : ns.length ≤ 1001 := by rw [← hns, List.length_append, tg_len]; show ts.length + 1 ≤ _; omega
      refine s_ret (v := .bl (ascI ns)) (ev_is (ev_allN (bs := (List.range (ns.length - 1)).map fun i => decide (ns.getD i 0 < ns.getD (i + 1) 0)) ?_) (by rw [asc_range (fun x y => decide (x < y)) 0]; rfl)) fun H2 e2 => q H2 (e1.trans e2)
      have e := asc_given ns (ns.map V.int).length (by simp)
      have e2 : ((ns.map V.int).drop 1).length = (ns.map V.int).length - 1 := by simp
      rw [← e, ← e2]
      refine el_lcZip (fun _ => true) _ (ap_mono (ap_cons (ev_var rfl) (ap_consL (el_sl (lo := some 1) (hi := none) (ev_var rfl) (eo_some ev_c) eo_none (sq_of h1)) ap_nil)) fun vs H1 e1 ⟨_, h2, b, _, h3, h4, h5⟩ => ⟨L, b, by rw [h2, h3, h5], ex_l e1 (sq_of h1), by rw [← cut1]; exact sq_of h4⟩) (by simp; omega) (fun _ _ => rfl) (fun i x y H1 e1 hx hy => et_yes) fun i x y H1 e1 hx hy _ => ?_
      rw [int_get hx]
      rw [drop_get] at hy
      rw [int_get hy]
      exact ev_op (ev_var rfl) (ev_var rfl) rv_I0
end
end Kz
set_option Elab.async false
set_option linter.all false
set_option maxRecDepth 100000
set_option maxHeartbeats 4000000
set_option exponentiation.threshold 500
namespace Kz
open PySem PySem.Spec PyProof.Rows L2 Evl Vr
local macro_rules | `(tactic| walk_at "sc") => `(tactic| first | (with_reducible assumption) | (with_reducible exact sc_mul (by omega)) | (with_reducible exact sc_mulr (by omega)) | (with_reducible exact sc_div (by omega) (by decide)) | (show (0 : Int) < _; omega) | (show _ ≠ (0 : Int); omega) | (with_reducible rfl) | decide)
local macro_rules | `(tactic| walk_at "sq") => `(tactic| first | assumption | exact sq_of (by assumption) | exact st_of (by assumption))
local macro_rules | `(tactic| walk_at "pl") => `(tactic| first | assumption | exact pl_int | exact pl_bl | exact pl_str | exact pl_non | exact pl_lst (by assumption) | exact pl_tup (by assumption) | exact pl_dK (by assumption))
local macro_rules | `(tactic| walk_at "rv") => `(tactic| first
  | with_reducible exact rv_I0
  | with_reducible exact ru_neg
  | ((with_reducible apply rv_I); walk_at "sc")
  | ((with_reducible apply rv_ixL); walk_at "sq"; first | rfl | assumption)
  | ((with_reducible apply rv_ixT); walk_at "sq"; first | rfl | assumption)
  | ((with_reducible apply rv_eq); rfl) | ((with_reducible apply rv_ne); rfl))
local macro_rules | `(tactic| walk_at "rc") => `(tactic| first
  | with_reducible exact rc_I1 | with_reducible exact rc_B1 | with_reducible exact rc_I2 | ((with_reducible apply rc_repr); walk_at "sc") | ((with_reducible apply rc_lenL); walk_at "sq")
  | ((with_reducible apply rc_isiInt); walk_at "pl") | ((with_reducible apply rc_isiBool); walk_at "pl"))
local macro_rules | `(tactic| walk_at "ea") => `(tactic| first
  | with_reducible exact ea_nil | ((with_reducible apply ea_cons); walk_at "ev"; walk_at "ea"))
local macro_rules | `(tactic| walk_at "pow") => `(tactic| first
  | with_reducible exact ev_pow (a := 10) (b := 9) (c := 1000000000) (by decide +kernel) (by decide +kernel)
  | with_reducible exact ev_pow (a := 10) (b := 10) (c := 10000000000) (by decide +kernel) (by decide +kernel)
  | with_reducible exact ev_pow (a := 10) (b := 12) (c := 1000000000000) (by decide +kernel) (by decide +kernel)
  | with_reducible exact ev_pow (a := 10) (b := 17) (c := 100000000000000000) (by decide +kernel) (by decide +kernel)
  | with_reducible exact ev_pow (a := 10) (b := 20) (c := 100000000000000000000) (by decide +kernel) (by decide +kernel)
  | with_reducible exact ev_pow (a := 10) (b := 29) (c := 100000000000000000000000000000) (by decide +kernel) (by decide +kernel)
  | with_reducible exact ev_pow (a := 10) (b := 30) (c := 1000000000000000000000000000000) (by decide +kernel) (by decide +kernel)
  | with_reducible exact ev_pow (a := 10) (b := 40) (c := 10000000000000000000000000000000000000000) (by decide +kernel) (by decide +kernel)
  | with_reducible exact ev_pow (a := 10) (b := 57) (c := 1000000000000000000000000000000000000000000000000000000000) (by decide +kernel) (by decide +kernel)
  | with_reducible exact ev_pow (a := 10) (b := 58) (c := 10000000000000000000000000000000000000000000000000000000000) (by decide +kernel) (by decide +kernel)
  | with_reducible exact ev_pow (a := 10) (b := 59) (c := 100000000000000000000000000000000000000000000000000000000000) (by decide +kernel) (by decide +kernel)
  | with_reducible exact ev_pow (a := 10) (b := 60) (c := 1000000000000000000000000000000000000000000000000000000000000) (by decide +kernel) (by decide +kernel))
local macro_rules | `(tactic| walk_at "call") => `(tactic| (intro H9 e9; first | exact ⟨_, rfl, rfl⟩ | exact ⟨_, _, rfl, rfl⟩ | exact ⟨_, _, _, rfl, rfl⟩ | exact ⟨_, rfl, by walk_at "pl", rfl⟩ | (refine ⟨_, _, _, rfl, ?_, rfl⟩; first | exact Plain.ex e9 (by assumption) | walk_at "pl") | (refine ⟨_, rfl, ?_, rfl⟩; first | exact Plain.ex e9 (by assumption) | walk_at "pl")))
local macro_rules | `(tactic| walk_at "ev") => `(tactic| first
  | with_reducible exact ev_c
  | exact ev_var rfl
  | walk_at "pow"
  | ((with_reducible apply ev_op); walk_at "ev"; walk_at "ev"; walk_at "rv")
  | ((with_reducible apply ev_un); walk_at "ev"; walk_at "rv")
  | ((with_reducible apply ev_cb); walk_at "ea"; walk_at "rc")
  | ((with_reducible apply ev_callP); walk_at "ea"; walk_at "call")
  | ((with_reducible apply ev_chain); walk_at "ev"; walk_at "ev"; walk_at "rv"; walk_at "ev"; walk_at "rv")
  | ((with_reducible apply ev_andV); walk_at "ev"; intro _; walk_at "ev")
  | ((with_reducible apply ev_orV); walk_at "ev"; intro _; walk_at "ev")
  | ((with_reducible apply ev_ite); walk_at "et"; intro _; walk_at "ev"; intro _; walk_at "ev")
  | ((with_reducible apply ev_notV); walk_at "ev"))
local macro_rules | `(tactic| walk_at "et") => `(tactic| first
  | ((with_reducible apply et_test); walk_at "ev")
  | ((with_reducible apply et_B); walk_at "ev")
  | ((with_reducible apply et_and); walk_at "et"; intro _; walk_at "et")
  | ((with_reducible apply et_or); walk_at "et"; intro _; walk_at "et")
  | ((with_reducible apply et_not); walk_at "et"))
open En Wo
section
variable {K : PySem.W.Frag} {H : Hp} {σ : L2.St} {te : TE} {ts : TA} {D : Ends} {tz : TS} {ds : List PyData} {vs : List V} {sp : Sp} {E : XK}
theorem q_dropX (ha : EvA ts σ H vs) (h : ∀ H1, Ex H H1 → sp vs H1 (fun _ H2 => tz D σ H2) E) : tSeq (tDrop (tCall sp [] E ts)) tz D σ H := ha H (Ex.refl H) _ fun H1 e1 => by
  rw [List.append_nil]
  exact h H1 e1
theorem q_asgD2 {i : Nat} (h : EvD2 K te σ H ds) (k : ∀ l ys H1, H l = none → Ex H H1 → H1 l = some (.lst ys) → DaAll K H1 ys ds → tz D (σ.set i (some (.ref l))) H1) : tSeq (tAsg te (gName i)) tz D σ H := h H (Ex.refl H) _ k
end
theorem daa_ints' {K : PySem.W.Frag} {H : Hp} {xs : List V} {ns : List Int} (h : DaAll K H xs (ns.map .int)) : xs = ns.map V.int := by
  have z := daa_ints h fun d hd => by obtain ⟨n, _, rfl⟩ := List.mem_map.mp hd; exact ⟨n, rfl⟩
  have e : (ns.map PyData.int).map intD = ns := by rw [List.map_map]; exact List.map_id _
  rwa [e] at z
/-- how differences are told, or refused -/
def spDiffer (K : PySem.W.Frag) (C CW : Addr) : Sp := fun vs H Q E => ∃ v u, vs = [v, u] ∧ ((∃ d, Da K H v d ∧ PErr CW E H) ∨ (∃ p A, v = .ref p ∧ WkAt K C H p A ∧ ((∃ d, Da K H u d ∧ PErr CW E H) ∨ (∃ r B, u = .ref r ∧ WkAt K C H r B ∧ ∀ z H', Ex H H' → Da K H' z (difOf A B).d → Q z H'))))
def spSize (K : PySem.W.Frag) (CO : Addr) : Sp := fun vs H _ E => ∃ (x : V) (d : PyData), vs = [x] ∧ Da K H x d ∧ sm d = true ∧ diffD d = false ∧ PErr CO E H
/-- how a difference is put on a world -/
def apOut (K : PySem.W.Frag) (C CR : Addr) (W : Wd) (D : Df) (Q : VK) (E : XK) (H : Hp) : Prop :=
  (unfit W D ≠ [] ∧ ∀ m, m ∈ unfit W D → (∀ j ∈ unfit W D, m ≤ j) → DErr K CR "reason" (.tuple [.str "fit", .int m]) E H) ∨
  (unfit W D = [] ∧ Fits W D ∧ (decide ((behind W D).length ≤ 12) && ascI (Tg.ids (behind W D) ++ [D.n])) = false ∧ DErr K CR "reason" (.tuple [.str "world"]) E H) ∨
  (unfit W D = [] ∧ Fits W D ∧ (behind W D).length ≤ 12 ∧ ascI (Tg.ids (behind W D) ++ [D.n]) = true ∧ ∀ p H', H p = none → Ex H H' → WdAt K C H' p ⟨D.t, D.n, D.l, behind W D⟩ → Q (.ref p) H')
def spApplied (K : PySem.W.Frag) (C CW CO CR : Addr) : Sp := fun vs H Q E => ∃ (v x : V) (d : PyData), vs = [v, x] ∧ Da K H x d ∧ sm d = true ∧ ((∃ e, Da K H v e ∧ PErr CW E H) ∨
  (∃ p W, v = .ref p ∧ WkAt K C H p W ∧ ((diffD d = false ∧ PErr CO E H) ∨ (diffD d = true ∧ ∃ D : Df, d = D.d ∧ D.gone.length ≤ 1000 ∧ D.chg.length ≤ 1000 ∧ D.came.length ≤ 50 ∧ apOut K C CR W D Q E H))))
section
variable {P : Program} {w : World} {K : PySem.W.Frag} {mg : Str → Option Value} {base : Heap}
theorem ok_difference (T : Txt K mg w) : FnOk P w K mg base (L2.CX P w) 5 T.a_difference T.fd_difference ["one", "other"] (spDiffer K T.C_World T.C_WE) := by
  have G_need_world := ok_need_world (P := P) (w := w) (base := base) T
  have G_difference_of := ok_difference_of (P := P) (w := w) (base := base) T
  refine T.F_difference.okX sc_difference (fun vs H Q E h => ?_) (fun cdv A outer s H vs Q E hr h => ?_)
  · obtain ⟨_, _, rfl, _⟩ := h; rfl
  · obtain ⟨v, u, rfl, h⟩ := h
    refine ⟨_, (pss_cons (ps_expr (pe_call G_need_world (hr.mono (by decide)) (by rfl) T.g_need_world T.F_need_world.kp T.b_need_world .nil (passes_call (W := fun cls d _ H => E cls d H) (takes_of rfl rfl rfl rfl) (fun _ _ _ _ h => h)) (pa_cons (pv 0) pa_nil)))
  (pss_cons (ps_expr (pe_call G_need_world (hr.mono (by decide)) (by rfl) T.g_need_world T.F_need_world.kp T.b_need_world .nil (passes_call (W := fun cls d _ H => E cls d H) (takes_of rfl rfl rfl rfl) (fun _ _ _ _ h => h)) (pa_cons (pv 1) pa_nil)))
  (pss_one (ps_ret (pe_call G_difference_of (hr.mono (by decide)) (by rfl) T.g_difference_of T.F_difference_of.kp T.b_difference_of .nil pass0 (pa_cons (pv 0) (pa_cons (pv 1) pa_nil))))))), ?_⟩
    rcases h with ⟨d, hd, q⟩ | ⟨p, A, rfl, hA, h⟩
    · exact q_dropX (ea_cons (ev_var rfl) ea_nil) fun H1 e1 => ⟨v, rfl, .inr ⟨d, da_ex e1 _ _ hd, q.ex e1⟩⟩
    · refine q_dropX (ea_cons (ev_var rfl) ea_nil) fun H1 e1 => ⟨_, rfl, .inl ⟨p, A, rfl, hA.at_.ex e1, fun H2 e2 => ?_⟩⟩
      have e12 := e1.trans e2
      rcases h with ⟨d, hd, q⟩ | ⟨r, B, rfl, hB, q⟩
      · exact q_dropX (ea_cons (ev_var rfl) ea_nil) fun H3 e3 => ⟨u, rfl, .inr ⟨d, da_ex (e12.trans e3) _ _ hd, q.ex (e12.trans e3)⟩⟩
      · refine q_dropX (ea_cons (ev_var rfl) ea_nil) fun H3 e3 => ⟨_, rfl, .inl ⟨r, B, rfl, hB.at_.ex (e12.trans e3), fun H4 e4 => ?_⟩⟩
        have e14 := (e12.trans e3).trans e4
        exact s_retW2 (ew_callD (vs := [.ref p, .ref r]) (by walk_at "ea") fun H5 e5 => ⟨p, r, A, B, rfl, hA.ex (e14.trans e5), hB.ex (e14.trans e5), rfl⟩) fun z H5 e5 hz => q z H5 (e14.trans e5) hz
theorem ok_size (T : Txt K mg w) : FnOk P w K mg base (L2.CX P w) 8 T.a_size T.fd_size ["told"] (spSize K T.C_OE) := by
  have G_is_difference := ok_is_difference (P := P) (w := w) (base := base) T
  refine T.F_size.okX sc_size (fun vs H Q E h => ?_) (fun cdv A outer s H vs Q E hr h => ?_)
  · obtain ⟨_, _, rfl, _⟩ := h; rfl
  · obtain ⟨x, d, rfl, hd, hs, hn, q⟩ := h
    refine ⟨_, (pss_cons (ps_if (pt_not (pt_val (pe_call G_is_difference (hr.mono (by decide)) (by rfl) T.g_is_difference T.F_is_difference.kp T.b_is_difference .nil pass0 (pa_cons (pv 0) pa_nil)))) (pss_one (ps_raise (W := fun cls d _ H => E cls d H) rfl (takes_of rfl rfl rfl rfl) (pmk_own PySem.F.excBase_ValueError T.x_OE T.g_InvalidOperation T.k_OE (raises_own T.e_OE T.y_OE) (by rfl)))) pss_nil)
  (pss_cons (ps_asg (pv 0) (pg_tup rfl (pgs_cons (pg_name (i := 1) sc_size.nd rfl (.inl rfl)) (pgs_cons (pg_name (i := 1) sc_size.nd rfl (.inl rfl)) (pgs_cons (pg_name (i := 1) sc_size.nd rfl (.inl rfl)) (pgs_cons (pg_name (i := 2) sc_size.nd rfl (.inl rfl)) (pgs_cons (pg_name (i := 3) sc_size.nd rfl (.inl rfl)) (pgs_cons (pg_name (i := 4) sc_size.nd rfl (.inl rfl)) pgs_nil))))))))
  (pss_one (ps_ret (pe_op op_add (pe_op op_add (pe_op op_add (pe_glob (v := .int (3)) rfl T.g_LEAST_SIZE ⟨_, rfl⟩) (pe_callB c_len (by rfl) T.z_len PySem.boot_len (pa_cons (pv 2) pa_nil))) (pe_callB c_len (by rfl) T.z_len PySem.boot_len (pa_cons (pv 4) pa_nil))) (pe_callB (cr_sum rfl) (by rfl) T.z_sum (by decide +kernel) (pa_cons (pe_lc (own := [("_", 1), ("numbers", 5)]) (g := gTup _ 3 (gCons (gName 1) (gCons (gName 1) (gCons (gName 5) gNil)))) (by rfl) sc_size.nd (pi_tup (pv 3)) (blkOk_by (own := [("_", 1), ("numbers", 5)]) (N := ["told", "_", "gone", "came", "changed", "numbers"]) (sc := defScope s_size) (by decide +kernel)) (fun _ _ _ _ _ => pg_tup rfl (pgs_cons (pg_name (i := 1) sc_size.nd rfl (by first | exact Or.inl rfl | exact Or.inr rfl)) (pgs_cons (pg_name (i := 1) sc_size.nd rfl (by first | exact Or.inl rfl | exact Or.inr rfl)) (pgs_cons (pg_name (i := 5) sc_size.nd rfl (by first | exact Or.inl rfl | exact Or.inr rfl)) pgs_nil)))) (fun _ _ _ _ _ => pts_nil) (fun _ _ _ _ _ => (pe_op op_add pe_int (pe_callB (c_lenK (K := K) rfl) (by rfl) T.z_len PySem.boot_len (pa_cons (pv 5) pa_nil))))) pa_nil))))))), ?_⟩
    exact q_when (b := true) (et_is (et_not (et_B (ev_callP (vs := [x]) (by walk_at "ea") fun H1 e1 => kj_of e1 hd hs hn))) rfl) (fun _ H1 e1 => q H1 e1) fun h => by cases h
theorem ok_applied (T : Txt K mg w) : FnOk P w K mg base (L2.CX P w) 10 T.a_applied T.fd_applied ["world", "told"] (spApplied K T.C_World T.C_WE T.C_OE T.C_RE) := by
  have G_need_world := ok_need_world (P := P) (w := w) (base := base) T
  have G_is_difference := ok_is_difference (P := P) (w := w) (base := base) T
  have G_ids_that_fail := ok_ids_that_fail (P := P) (w := w) (base := base) T
  have G_things_behind := ok_things_behind (P := P) (w := w) (base := base) T
  have G_are_in_sequence := ok_in_seqX (P := P) (w := w) (base := base) T
  have G_world_of := ok_world_of (P := P) (w := w) (base := base) T
  have G_Refused___init__ := ok_reason (P := P) (w := w) (base := base) T
  refine T.F_applied.okX sc_applied (fun vs H Q E h => ?_) (fun cdv A outer s H vs Q E hr h => ?_)
  · obtain ⟨_, _, _, rfl, _⟩ := h; rfl
  · obtain ⟨v, x, d, rfl, hd, hs, h⟩ := h
    refine ⟨_, (pss_cons (ps_expr (pe_call G_need_world (hr.mono (by decide)) (by rfl) T.g_need_world T.F_need_world.kp T.b_need_world .nil (passes_call (W := fun cls d _ H => E cls d H) (takes_of rfl rfl rfl rfl) (fun _ _ _ _ h => h)) (pa_cons (pv 0) pa_nil)))
  (pss_cons (ps_if (pt_not (pt_val (pe_call G_is_difference (hr.mono (by decide)) (by rfl) T.g_is_difference T.F_is_difference.kp T.b_is_difference .nil pass0 (pa_cons (pv 1) pa_nil)))) (pss_one (ps_raise (W := fun cls d _ H => E cls d H) rfl (takes_of rfl rfl rfl rfl) (pmk_own PySem.F.excBase_ValueError T.x_OE T.g_InvalidOperation T.k_OE (raises_own T.e_OE T.y_OE) (by rfl)))) pss_nil)
  (pss_cons (ps_set (i := 2) sc_applied.nd rfl (.inl rfl) (pe_call G_ids_that_fail (hr.mono (by decide)) (by rfl) T.g_ids_that_fail T.F_ids_that_fail.kp T.b_ids_that_fail .nil pass0 (pa_cons (pv 0) (pa_cons (pv 1) pa_nil))))
  (pss_cons (ps_if (pt_cmpR op_gt (pe_callB c_len (by rfl) T.z_len PySem.boot_len (pa_cons (pv 2) pa_nil)) pe_int (nomark _)) (pss_one (ps_raise (W := fun cls d _ H => E cls d H) rfl (takes_of rfl rfl rfl rfl) (pmk_oxK PySem.Xk.bsArith T.o_RE T.i_RE T.t_RE G_Refused___init__ (hr.mono (by decide)) T.b_Refused___init__ .nil pass0 (by rfl) T.g_Refused (pa_cons (pe_tup (pa_cons pe_str (pa_cons (pe_callB (cr_min rfl) (by rfl) T.z_min (by decide +kernel) (pa_cons (pv 2) pa_nil)) pa_nil))) pa_nil)))) pss_nil)
  (pss_cons (ps_set (i := 3) sc_applied.nd rfl (.inl rfl) (pe_call G_things_behind (hr.mono (by decide)) (by rfl) T.g_things_behind T.F_things_behind.kp T.b_things_behind .nil pass0 (pa_cons (pv 0) (pa_cons (pv 1) pa_nil))))
  (pss_cons (ps_if (PW.pt (pw_or (pt_cmpR op_gt (pe_callB c_len (by rfl) T.z_len PySem.boot_len (pa_cons (pv 3) pa_nil)) (pe_glob (v := .int (12)) rfl T.g_MAX_THINGS ⟨_, rfl⟩) (nomark _)) (pw_or1 (pt_not (pt_val (pe_call G_are_in_sequence (hr.mono (by decide)) (by rfl) T.g_are_in_sequence T.F_are_in_sequence.kp T.b_are_in_sequence .nil pass0 (pa_cons (pv 3) (pa_cons (pe_ix ix_tup (pv 1) pe_int (fun _ _ => rfl)) pa_nil)))))))) (pss_one (ps_raise (W := fun cls d _ H => E cls d H) rfl (takes_of rfl rfl rfl rfl) (pmk_oxK PySem.Xk.bsArith T.o_RE T.i_RE T.t_RE G_Refused___init__ (hr.mono (by decide)) T.b_Refused___init__ .nil pass0 (by rfl) T.g_Refused (pa_cons (pe_tup (pa_cons pe_str pa_nil)) pa_nil)))) pss_nil)
  (pss_one (ps_ret (pe_call G_world_of (hr.mono (by decide)) (by rfl) T.g_world_of T.F_world_of.kp T.b_world_of .nil pass0 (pa_cons (pe_ix ix_tup (pv 1) pe_int (fun _ _ => rfl)) (pa_cons (pe_ix ix_tup (pv 1) pe_int (fun _ _ => rfl)) (pa_cons (pe_ix ix_tup (pv 1) pe_int (fun _ _ => rfl)) (pa_cons (pv 3) pa_nil))))))))))))), ?_⟩
    rcases h with ⟨e, he, q⟩ | ⟨p, W, rfl, hW, h⟩
    · exact q_dropX (ea_cons (ev_var rfl) ea_nil) fun H1 e1 => ⟨v, rfl, .inr ⟨e, da_ex e1 _ _ he, q.ex e1⟩⟩
    refine q_dropX (ea_cons (ev_var rfl) ea_nil) fun H1 e1 => ⟨_, rfl, .inl ⟨p, W, rfl, hW.at_.ex e1, fun H2 e2 => ?_⟩⟩
    have e12 := e1.trans e2
    rcases h with ⟨hn, q⟩ | ⟨hy, D, rfl, l1, l2, l3, h⟩
    · exact q_when (b := true) (et_is (et_not (et_B (ev_callP (vs := [x]) (by walk_at "ea") fun H3 e3 => kj_of (e12.trans e3) hd hs hn))) rfl) (fun _ H3 e3 => q H3 (e12.trans e3)) fun h => by cases h
    refine q_when (b := false) (et_is (et_not (et_B (ev_callP (vs := [x]) (by walk_at "ea") fun H3 e3 => kj_of (e12.trans e3) hd hs hy))) rfl) (fun h => by cases h) fun _ H3 e3 => ?_
    have e13 := e12.trans e3
    refine q_asgD2 (ds := (unfit W D).map .int) (ed_call (vs := [.ref p, x]) (by walk_at "ea") fun H4 e4 => ⟨p, x, W, D, rfl, hW.ex (e13.trans e4), da_ex (e13.trans e4) _ _ hd, l1, l2, rfl⟩) fun L ys H4 n4 e4 h4 d4 => ?_
    obtain rfl := daa_ints' d4
    have e14 := e13.trans e4
    have lenE : ∀ {H5 : Hp}, Ex H4 H5 → RC (rLenS K) [.ref L] H5 (.int (((unfit W D).map V.int).length : Int)) := fun {H5} e5 => rc_lenL (sq_of (e5 _ _ h4))
    rcases h with ⟨hne, q⟩ | h
    · have lpos : 0 < (unfit W D).length := List.length_pos_iff.mpr hne
      refine q_when (b := true) (et_is (et_test (ev_op (ev_cb (vs := [.ref L]) (by walk_at "ea") (lenE (Ex.refl _))) ev_c rv_I0)) (by rw [List.length_map, decide_eq_true (by omega)])) (fun _ H5 e5 => ?_) fun h => by cases h
      have e15 := e14.trans e5
      refine mk_fieldA (P := fun u H' => ∃ m, m ∈ unfit W D ∧ (∀ j ∈ unfit W D, m ≤ j) ∧ Da K H' u (.tuple [.str "fit", .int m])) (fun H6 e6 R r => ?_) (fun u H6 H7 e z => by obtain ⟨m, z1, z2, z3⟩ := z; exact ⟨m, z1, z2, da_ex e _ _ z3⟩) fun u dd H' e' hdd ⟨m, z1, z2, z3⟩ => q m z1 z2 u dd H' (e15.trans e') hdd z3
      refine (ev_var (σ := [some (.ref p), some x, some (.ref L), none]) (i := 2) rfl) H6 (Ex.refl _) _ fun H7 e7 => ⟨L, unfit W D, rfl, sq_of ((e5.trans (e6.trans e7)) _ _ h4), lpos, fun m z1 z2 => ⟨by show 2 ≤ sizeLine; decide, fun t ht => r _ _ (e7.trans (Ex.new ht)) ⟨m, z1, z2, .tup (st_of upd_same) (.cons (.str _) (.cons (.int _) .nil))⟩⟩⟩
    · have hz : unfit W D = [] := by rcases h with h | h <;> exact h.1
      have hF : Fits W D := by rcases h with h | h <;> exact h.2.1
      refine q_when (b := false) (et_is (et_test (ev_op (ev_cb (vs := [.ref L]) (by walk_at "ea") (lenE (Ex.refl _))) ev_c rv_I0)) (by rw [hz]; rfl)) (fun h => by cases h) fun _ H5 e5 => ?_
      have e15 := e14.trans e5
      refine q_asgW2 (d := .tuple ((behind W D).map tgD)) (ew_callD (vs := [.ref p, x]) (by walk_at "ea") fun H6 e6 => ⟨p, x, W, D, rfl, hW.ex (e15.trans e6), da_ex (e15.trans e6) _ _ hd, l1, l3, hF, rfl⟩) fun tv H6 e6 h6 => ?_
      have e16 := e15.trans e6
      have hlb : (behind W D).length ≤ 1000 := by
        have z := (sortT_perm (mixed W D)).length_eq
        have z2 := puts_len D.came (D.chg.foldl chg1 (base0 W D))
        have z3 : (Tg.ids (D.chg.foldl chg1 (base0 W D))).length = (Tg.ids (base0 W D)).length := by rw [chgs_ids]
        rw [tg_len, tg_len] at z3
        have z4 := base_ids W D
        have z5 := hW.few
        show (sortT (mixed W D)).length ≤ 1000
        unfold mixed at z ⊢
        omega
      cases h6 with
      | @tup aT xs _ hT hTd =>
        obtain ⟨rs, rfl, hR⟩ := daa_rsat hTd
        have hTs : TsAt K H6 aT (behind W D) := ⟨rs, hT, hR⟩
        obtain ⟨rx, ag, ac, ah, gs, cs, hs', rfl, hX, _⟩ := hd.df
        have hlr : (rs.map V.ref).length = (behind W D).length := by rw [List.length_map, hR.1]
        have tst : ∀ σ : L2.St, σ = [some (.ref p), some (.ref rx), some (.ref L), some (.ref aT)] → EvT (tOr (tTest (tOp (rI0 fun i j => .bl (decide (j < i))) (tCB (rLenS K) (tCons (tVar 3) tNil)) (tC (.int 12)))) (tNot (tB (tCall (Pure fun vs H z => ∃ (a : Addr) (ts : List Tg) (n : Int), vs = [.ref a, .int n] ∧ TsAt K H a ts ∧ ts.length ≤ 1000 ∧ z = .bl (ascI (Tg.ids ts ++ [n]))) [] E0 (tCons (tVar 3) (tCons (tOp (rIxT K) (tVar 1) (tC (.int 1))) tNil)))))) σ H6 (!(decide ((behind W D).length ≤ 12) && ascI (Tg.ids (behind W D) ++ [D.n]))) := fun σ hσ => by
          subst hσ
          exact et_is (et_or (a := decide ((12 : Int) < ((rs.map V.ref).length : Int))) (b := !ascI (Tg.ids (behind W D) ++ [D.n])) (et_test (ev_op (ev_cb (vs := [.ref aT]) (by walk_at "ea") (rc_lenT hT)) ev_c rv_I0)) fun _ => et_not (et_B (ev_callP (vs := [.ref aT, .int D.n]) (ea_cons (ev_var rfl) (ea_cons (ev_op (ev_var rfl) ev_c (rv_ixT (ex_t e16 hX) rfl)) ea_nil)) fun H7 e7 => ⟨aT, behind W D, D.n, rfl, hTs.ex e7, hlb, rfl⟩))) (by
            rw [Bool.not_and, hlr]
            refine congrArg (· || _) ?_
            by_cases h12 : (behind W D).length ≤ 12
            · rw [decide_eq_true h12, decide_eq_false (by omega)]; rfl
            · rw [decide_eq_false h12, decide_eq_true (by omega)]; rfl)
        rcases h with ⟨_, _, hno, q⟩ | ⟨_, _, h12, hasc, q⟩
        · refine q_when (b := true) (et_is (tst _ rfl) (by rw [hno]; rfl)) (fun _ H7 e7 => ?_) fun h => by cases h
          exact mk_fieldD (ew_tup (ea_w1 (ew_c (.str _)) ea_w0) (by show 1 ≤ 100000; decide)) (q.ex (e16.trans e7))
        · refine q_when (b := false) (et_is (tst _ rfl) (by rw [decide_eq_true h12, hasc]; rfl)) (fun h => by cases h) fun _ H7 e7 => ?_
          have hX7 := ex_t (e16.trans e7) hX
          refine s_retW (W := ⟨D.t, D.n, D.l, behind W D⟩) (ew_call (ap_of (vs := [.int D.t, .int D.n, .int D.l, .ref aT]) (ea_cons (ev_op (ev_var rfl) ev_c (rv_ixT hX7 rfl)) (ea_cons (ev_op (ev_var rfl) ev_c (rv_ixT hX7 rfl)) (ea_cons (ev_op (ev_var rfl) ev_c (rv_ixT hX7 rfl)) (ea_cons (ev_var rfl) ea_nil))))) fun vs H8 e8 hv => ⟨aT, hv, hTs.ex (e7.trans e8), h12, asc_pair hasc⟩) fun pW H8 n8 e8 h8 => q pW H8 (fresh_back (e16.trans e7) n8) ((e16.trans e7).trans e8) h8
end
end Kz
set_option Elab.async false
set_option linter.all false
set_option maxRecDepth 100000
set_option maxHeartbeats 4000000
set_option exponentiation.threshold 500
namespace Kz
open PySem PySem.Spec PyProof.Rows L2 Evl Vr
local macro_rules | `(tactic| walk_at "sc") => `(tactic| first | (with_reducible assumption) | (with_reducible exact sc_mul (by omega)) | (with_reducible exact sc_mulr (by omega)) | (with_reducible exact sc_div (by omega) (by decide)) | (show (0 : Int) < _; omega) | (show _ ≠ (0 : Int); omega) | (with_reducible rfl) | decide)
local macro_rules | `(tactic| walk_at "sq") => `(tactic| first | assumption | exact sq_of (by assumption) | exact st_of (by assumption))
local macro_rules | `(tactic| walk_at "pl") => `(tactic| first | assumption | exact pl_int | exact pl_bl | exact pl_str | exact pl_non | exact pl_lst (by assumption) | exact pl_tup (by assumption) | exact pl_dK (by assumption))
local macro_rules | `(tactic| walk_at "rv") => `(tactic| first
  | with_reducible exact rv_I0
  | with_reducible exact ru_neg
  | ((with_reducible apply rv_I); walk_at "sc")
  | ((with_reducible apply rv_ixL); walk_at "sq"; first | rfl | assumption)
  | ((with_reducible apply rv_ixT); walk_at "sq"; first | rfl | assumption)
  | ((with_reducible apply rv_eq); rfl) | ((with_reducible apply rv_ne); rfl))
local macro_rules | `(tactic| walk_at "rc") => `(tactic| first
  | with_reducible exact rc_I1 | with_reducible exact rc_B1 | with_reducible exact rc_I2 | ((with_reducible apply rc_repr); walk_at "sc") | ((with_reducible apply rc_lenL); walk_at "sq")
  | ((with_reducible apply rc_isiInt); walk_at "pl") | ((with_reducible apply rc_isiBool); walk_at "pl"))
local macro_rules | `(tactic| walk_at "ea") => `(tactic| first
  | with_reducible exact ea_nil | ((with_reducible apply ea_cons); walk_at "ev"; walk_at "ea"))
local macro_rules | `(tactic| walk_at "pow") => `(tactic| first
  | with_reducible exact ev_pow (a := 10) (b := 9) (c := 1000000000) (by decide +kernel) (by decide +kernel)
  | with_reducible exact ev_pow (a := 10) (b := 10) (c := 10000000000) (by decide +kernel) (by decide +kernel)
  | with_reducible exact ev_pow (a := 10) (b := 12) (c := 1000000000000) (by decide +kernel) (by decide +kernel)
  | with_reducible exact ev_pow (a := 10) (b := 17) (c := 100000000000000000) (by decide +kernel) (by decide +kernel)
  | with_reducible exact ev_pow (a := 10) (b := 20) (c := 100000000000000000000) (by decide +kernel) (by decide +kernel)
  | with_reducible exact ev_pow (a := 10) (b := 29) (c := 100000000000000000000000000000) (by decide +kernel) (by decide +kernel)
  | with_reducible exact ev_pow (a := 10) (b := 30) (c := 1000000000000000000000000000000) (by decide +kernel) (by decide +kernel)
  | with_reducible exact ev_pow (a := 10) (b := 40) (c := 10000000000000000000000000000000000000000) (by decide +kernel) (by decide +kernel)
  | with_reducible exact ev_pow (a := 10) (b := 57) (c := 1000000000000000000000000000000000000000000000000000000000) (by decide +kernel) (by decide +kernel)
  | with_reducible exact ev_pow (a := 10) (b := 58) (c := 10000000000000000000000000000000000000000000000000000000000) (by decide +kernel) (by decide +kernel)
  | with_reducible exact ev_pow (a := 10) (b := 59) (c := 100000000000000000000000000000000000000000000000000000000000) (by decide +kernel) (by decide +kernel)
  | with_reducible exact ev_pow (a := 10) (b := 60) (c := 1000000000000000000000000000000000000000000000000000000000000) (by decide +kernel) (by decide +kernel))
local macro_rules | `(tactic| walk_at "call") => `(tactic| (intro H9 e9; first | exact ⟨_, rfl, rfl⟩ | exact ⟨_, _, rfl, rfl⟩ | exact ⟨_, _, _, rfl, rfl⟩ | exact ⟨_, rfl, by walk_at "pl", rfl⟩ | (refine ⟨_, _, _, rfl, ?_, rfl⟩; first | exact Plain.ex e9 (by assumption) | walk_at "pl") | (refine ⟨_, rfl, ?_, rfl⟩; first | exact Plain.ex e9 (by assumption) | walk_at "pl")))
local macro_rules | `(tactic| walk_at "ev") => `(tactic| first
  | with_reducible exact ev_c
  | exact ev_var rfl
  | walk_at "pow"
  | ((with_reducible apply ev_op); walk_at "ev"; walk_at "ev"; walk_at "rv")
  | ((with_reducible apply ev_un); walk_at "ev"; walk_at "rv")
  | ((with_reducible apply ev_cb); walk_at "ea"; walk_at "rc")
  | ((with_reducible apply ev_callP); walk_at "ea"; walk_at "call")
  | ((with_reducible apply ev_chain); walk_at "ev"; walk_at "ev"; walk_at "rv"; walk_at "ev"; walk_at "rv")
  | ((with_reducible apply ev_andV); walk_at "ev"; intro _; walk_at "ev")
  | ((with_reducible apply ev_orV); walk_at "ev"; intro _; walk_at "ev")
  | ((with_reducible apply ev_ite); walk_at "et"; intro _; walk_at "ev"; intro _; walk_at "ev")
  | ((with_reducible apply ev_notV); walk_at "ev"))
local macro_rules | `(tactic| walk_at "et") => `(tactic| first
  | ((with_reducible apply et_test); walk_at "ev")
  | ((with_reducible apply et_B); walk_at "ev")
  | ((with_reducible apply et_and); walk_at "et"; intro _; walk_at "et")
  | ((with_reducible apply et_or); walk_at "et"; intro _; walk_at "et")
  | ((with_reducible apply et_not); walk_at "et"))
open En Wo
section
variable {K : PySem.W.Frag} {H : Hp} {σ : L2.St} {te tv ta : TE} {t : TT} {ts : TA} {D : Ends} {tz : TS} {a C dx : Addr} {fs : List (Str × V)} {f : Str} {E : XK}
theorem elq_lcR2 {lo hi : Int} {j : Nat} {vs : List Nat} (h : EvA ts σ H [.int lo, .int hi]) (hb : -1000000 ≤ lo ∧ lo ≤ 1000000 ∧ -1000000 ≤ hi ∧ hi ≤ lo + 40000) (hw : ∀ x, wipe ((wipe σ vs).set j (some x)) vs = wipe σ vs)
    (ht : ∀ (i : Nat) H1, Ex H H1 → ∃ b, EvT t ((wipe σ vs).set j (some (.int (lo + (i : Int))))) H1 b) (he : ∀ (i : Nat) H1, Ex H H1 → Ev te ((wipe σ vs).set j (some (.int (lo + (i : Int))))) H1 (.int (lo + (i : Int)))) :
    EvLQ (tLc (iRng2 ts) (gName j) t te vs) σ H (fun _ _ => True) := fun H0 e Q q => h H0 e _ fun H1 e1 => ⟨lo, hi, rfl, by omega, fun N hN => by
  refine lc_range (lo := lo) (n := (hi - lo).toNat) (fun i H' => Ex H1 H' ∧ ∃ ys, H' N = some (.lst ys) ∧ ys.length ≤ i) ⟨Ex.new hN, [], upd_same, Nat.le_refl _⟩ (fun i H' hi p => ⟨hw _, ?_⟩) (fun H' ⟨e2, ys, h2, _⟩ => q N ys H' (fresh_back e1 hN) (e1.trans e2) h2 trivial)
  obtain ⟨e2, ys, h2, hl⟩ := p
  obtain ⟨b, hb'⟩ := ht i H' ((e.trans e1).trans e2)
  refine hb' H' (Ex.refl _) _ fun H3 e3 => ?_
  cases b with
  | true =>
    rw [if_pos rfl]
    exact he i H' ((e.trans e1).trans e2) H3 e3 _ fun H4 e4 => ⟨ys, (e3.trans e4) _ _ h2, sz_lt (by omega), Ex.mut ((e2.trans e3).trans e4) hN, _, upd_same, by rw [List.length_append]; exact Nat.succ_le_succ hl⟩
  | false =>
    rw [if_neg Bool.false_ne_true]
    exact ⟨e2.trans e3, ys, e3 _ _ h2, by omega⟩⟩
theorem s_fldQ {P : V → Prop} (hv : EvQ tv σ H (fun v _ => P v)) (ha : ∀ H1, Ev ta σ H1 (.ref a)) (ho : H a = some (.ins C dx fs)) (c : Cls K C) (n : NoAttr K C f) (hl : fs.length < 1000) (k : ∀ v H1, Ex H H1 → P v → D.nx σ (upd H1 a (.ins C dx (putF f v fs)))) : sFld K ta tv f D σ H :=
  hv H (Ex.refl H) _ fun v H1 e1 pv => ha H1 H1 (Ex.refl H1) _ fun H2 e2 => ⟨a, C, dx, fs, rfl, (e1.trans e2) _ _ ho, c, n, hl, k v H2 (e1.trans e2) pv⟩
theorem eq_tupQ {P : List V → Hp → Prop} (h : EvLQ te σ H P) : EvQ (tCB (rTupL K) (tCons te tNil)) σ H (fun v _ => ∃ r, v = .ref r) := fun H1 e Q q =>
  h H1 e _ fun l ys H2 _ e2 h2 _ => ⟨l, ys, rfl, sq_of h2, fun p hp => q _ _ (e2.trans (Ex.new hp)) ⟨p, rfl⟩⟩
end
/-! ### rings -/
abbrev rfs (f l s : Int) (aK : Addr) (aW : V) : List (Str × V) := [("first", .int f), ("last", .int l), ("spacing", .int s), ("kept", .ref aK), ("wholes", aW)]
/-- a ring stands at p: its first tick, its spacing, what it keeps -/
def RgAt (K : PySem.W.Frag) (C : Addr) (H : Hp) (p : Addr) (f s : Int) (ks : List V) : Prop := ∃ dx aK aW, H p = some (.ins C dx (rfs f (f + (ks.length : Int) - 1) s aK aW)) ∧ SqT K H aK ks
theorem RgAt.ex {K : PySem.W.Frag} {C p : Addr} {H H' : Hp} {f s : Int} {ks : List V} (e : Ex H H') (h : RgAt K C H p f s ks) : RgAt K C H' p f s ks := by
  obtain ⟨dx, aK, aW, h1, h2⟩ := h
  exact ⟨dx, aK, aW, e _ _ h1, ex_t e h2⟩
def wholeT (f s t : Int) : Bool := decide (t = f) || decide (t % s = 0)
def RfOk (fs : List (Str × V)) : Prop := fs = [] ∨ ∃ f l s aK aW, fs = rfs f l s aK aW
theorem RfOk.len {fs : List (Str × V)} (h : RfOk fs) : fs.length ≤ 5 := by
  rcases h with rfl | ⟨f, l, s, aK, aW, rfl⟩
  · exact Nat.zero_le _
  · exact Nat.le_refl _
abbrev rf4 (f l s : Int) (aK : Addr) (fs : List (Str × V)) : List (Str × V) := putF "kept" (.ref aK) (putF "spacing" (.int s) (putF "last" (.int l) (putF "first" (.int f) fs)))
theorem rf4_look {fs : List (Str × V)} (h : RfOk fs) (f l s : Int) (aK : Addr) : (rf4 f l s aK fs).lookup ("first" : Str) = some (.int f) ∧ (rf4 f l s aK fs).lookup ("last" : Str) = some (.int l) ∧ (rf4 f l s aK fs).lookup ("spacing" : Str) = some (.int s) ∧ (rf4 f l s aK fs).lookup ("_is_whole" : Str) = none := by
  rcases h with rfl | ⟨f', l', s', aK', aW', rfl⟩
  · exact ⟨rfl, rfl, rfl, rfl⟩
  · exact ⟨rfl, rfl, rfl, rfl⟩
theorem rf4_fin {fs : List (Str × V)} (h : RfOk fs) (f l s : Int) (aK : Addr) (v : V) : putF "wholes" v (rf4 f l s aK fs) = rfs f l s aK v := by
  rcases h with rfl | ⟨f', l', s', aK', aW', rfl⟩
  · rfl
  · rfl
section
variable {P : Program} {w : World} {K : PySem.W.Frag} {mg : Str → Option Value} {base : Heap}
theorem ok_is_whole_t (T : Txt K mg w) : FnOk P w K mg base CX0 1 T.a_Ring__is_whole T.fd_Ring__is_whole ["self", "tick"] (Pure fun vs H z => ∃ (p dx : Addr) (fs : List (Str × V)) (f s t : Int), vs = [.ref p, .int t] ∧ H p = some (.ins T.C_Ring dx fs) ∧ fs.lookup ("first" : Str) = some (.int f) ∧ fs.lookup ("spacing" : Str) = some (.int s) ∧ 0 < s ∧ z = .bl (wholeT f s t)) := by
  refine T.F_Ring__is_whole.ok sc_Ring__is_whole (fun vs H Q E h => ?_) (fun cdv A outer s H vs Q E hr h => ?_)
  · obtain ⟨_, ⟨_, _, _, _, _, _, rfl, _⟩, _⟩ := h; rfl
  · obtain ⟨_, ⟨p, dx, fs, f, s, t, rfl, hp, h1, h2, h3, rfl⟩, q⟩ := h
    refine ⟨_, (pss_one (ps_ret (pe_or (pe_cmpR op_eq (pv 1) (pe_fld (pv 0) rfl) (nomark _)) (pe_one (pe_cmpR op_eq (pe_op op_mod (pv 1) (pe_fld (pv 0) rfl)) pe_int (nomark _)))))), ?_⟩
    exact s_ret (v := .bl (wholeT f s t)) (ev_orV (ev_is (ev_op (ev_var rfl) (ev_fld (ev_var rfl) hp T.cl_Ring T.n_Ring_first h1) (rv_eq rfl)) (congrArg V.bl (decide_eq_decide.mpr (by rw [V.int.injEq])))) fun _ => ev_is (ev_op (ev_op (ev_var rfl) (ev_fld (ev_var rfl) hp T.cl_Ring T.n_Ring_spacing h2) (rv_I h3)) ev_c (rv_eq rfl)) (congrArg V.bl (decide_eq_decide.mpr (by rw [V.int.injEq])))) q
def spRFill (K : PySem.W.Frag) (C : Addr) : Sp := fun vs H Q _ => ∃ (p dx aK : Addr) (f s : Int) (ks : List V) (fs : List (Str × V)), vs = [.ref p, .int f, .int s, .ref aK] ∧ H p = some (.ins C dx fs) ∧ RfOk fs ∧ SqT K H aK ks ∧ ks.length ≤ 1000 ∧ 0 < s ∧ 0 ≤ f ∧ f ≤ 500000 ∧
  ∀ H', Exd p H H' → RgAt K C H' p f s ks → Q .non H'
theorem ok_rfill (T : Txt K mg w) : FnOk P w K mg base CX0 2 T.a_Ring__fill T.fd_Ring__fill ["self", "first", "spacing", "kept"] (spRFill K T.C_Ring) := by
  have G_Ring__is_whole := ok_is_whole_t (P := P) (w := w) (base := base) T
  refine T.F_Ring__fill.ok sc_Ring__fill (fun vs H Q E h => ?_) (fun cdv A outer s H vs Q E hr h => ?_)
  · obtain ⟨_, _, _, _, _, _, _, rfl, _⟩ := h; rfl
  · obtain ⟨p, dx, aK, f, s, ks, fs, rfl, hp, hf, hT, hl, hs, f0, f1, q⟩ := h
    refine ⟨_, (pss_cons (ps_fld (pv 0) (pv 1) rfl)
  (pss_cons (ps_fld (pv 0) (pe_op op_sub (pe_op op_add (pv 1) (pe_callB c_len (by rfl) T.z_len PySem.boot_len (pa_cons (pv 3) pa_nil))) pe_int) rfl)
  (pss_cons (ps_fld (pv 0) (pv 2) rfl)
  (pss_cons (ps_fld (pv 0) (pv 3) rfl)
  (pss_one (ps_fld (pv 0) (pe_callTy c_tupL (by rfl) T.z_tuple (by decide +kernel) (pa_cons (pe_lc (own := [("tick", 4)]) (g := gName 4) (by rfl) sc_Ring__fill.nd (pi_range2 rfl T.z_range (pa_cons (pv 1) (pa_cons (pe_op op_add (pe_fld (pv 0) rfl) pe_int) pa_nil))) (blkOk_by (own := [("tick", 4)]) (N := ["self", "first", "spacing", "kept", "tick"]) (sc := defScope s_Ring__fill) (by decide +kernel)) (fun _ _ _ _ _ => pg_name (i := 4) sc_Ring__fill.nd rfl (by first | exact Or.inl rfl | exact Or.inr rfl)) (fun _ _ _ _ _ => (pts_one (pt_val (pe_meth (pv 0) T.cl_Ring T.m_Ring__is_whole G_Ring__is_whole (hr.mono (by decide)) T.b_Ring__is_whole .nil pass0 (pa_cons (pv 4) pa_nil))))) (fun _ _ _ _ _ => (pv 4))) pa_nil)) rfl)))))), ?_⟩
    have l0 := hf.len
    have cl := T.cl_Ring
    refine q_fld (y := .int f) (ev_var rfl) (ev_var rfl) hp cl T.n_Ring_first (by omega) fun H1 e1 => ?_
    have x1 := (Exd.of (p := p) e1).trans (Exd.upd (p := p) (o := .ins T.C_Ring dx (putF "first" (.int f) fs)))
    have l1 := len_putF "first" (.int f) fs
    refine q_fld (y := .int (f + (ks.length : Int) - 1)) (ev_op (ev_op (ev_var rfl) (ev_cb (vs := [.ref aK]) (by walk_at "ea") (rc_lenT (x1.ti hp hT))) rv_I0) ev_c rv_I0) (ev_var rfl) upd_same cl T.n_Ring_last (by omega) fun H2 e2 => ?_
    have x2 := (x1.trans (Exd.of e2)).trans (Exd.upd (p := p) (o := .ins T.C_Ring dx (putF "last" (.int (f + (ks.length : Int) - 1)) (putF "first" (.int f) fs))))
    have l2 := len_putF "last" (.int (f + (ks.length : Int) - 1)) (putF "first" (.int f) fs)
    refine q_fld (y := .int s) (ev_var rfl) (ev_var rfl) upd_same cl T.n_Ring_spacing (by omega) fun H3 e3 => ?_
    have x3 := (x2.trans (Exd.of e3)).trans (Exd.upd (p := p) (o := .ins T.C_Ring dx (putF "spacing" (.int s) (putF "last" (.int (f + (ks.length : Int) - 1)) (putF "first" (.int f) fs)))))
    have l3 := len_putF "spacing" (.int s) (putF "last" (.int (f + (ks.length : Int) - 1)) (putF "first" (.int f) fs))
    refine q_fld (y := .ref aK) (ev_var rfl) (ev_var rfl) upd_same cl T.n_Ring_kept (by omega) fun H4 e4 => ?_
    have x4 := (x3.trans (Exd.of e4)).trans (Exd.upd (p := p) (o := .ins T.C_Ring dx (rf4 f (f + (ks.length : Int) - 1) s aK fs)))
    have l4 := len_putF "kept" (.ref aK) (putF "spacing" (.int s) (putF "last" (.int (f + (ks.length : Int) - 1)) (putF "first" (.int f) fs)))
    obtain ⟨k1, k2, k3, k4⟩ := rf4_look hf f (f + (ks.length : Int) - 1) s aK
    have fin := fun v => rf4_fin hf f (f + (ks.length : Int) - 1) s aK v
    generalize hg : rf4 f (f + (ks.length : Int) - 1) s aK fs = f4 at *
    have hT4 := x4.ti hp hT
    have hg' : putF "kept" (.ref aK) (putF "spacing" (.int s) (putF "last" (.int (f + (ks.length : Int) - 1)) (putF "first" (.int f) fs))) = f4 := hg
    rw [hg'] at l4 ⊢
    refine s_fldQ (P := fun v => ∃ r, v = .ref r) (eq_tupQ (elq_lcR2 (lo := f) (hi := f + (ks.length : Int) - 1 + 1) (ea_cons (ev_var rfl) (ea_cons (ev_op (ev_fld (ev_var rfl) upd_same cl T.n_Ring_last k2) ev_c rv_I0) ea_nil)) (by omega) (fun _ => rfl) (fun i H5 e5 => ⟨wholeT f s (f + (i : Int)), ?_⟩) fun i H5 e5 => ev_var rfl)) (fun _ => ev_var rfl) upd_same cl T.n_Ring_wholes (by omega) fun v H5 e5 hv => ?_
    · exact et_B (ev_methP (vs := [.int (f + (i : Int))]) (ev_var rfl) (e5 _ _ upd_same) k4 (by walk_at "ea") fun H6 e6 => ⟨p, dx, f4, f, s, f + (i : Int), rfl, (e5.trans e6) _ _ upd_same, k1, k3, hs, rfl⟩)
    · rw [fin]
      have x5 := (x4.trans (Exd.of e5)).trans (Exd.upd (p := p) (o := .ins T.C_Ring dx (rfs f (f + (ks.length : Int) - 1) s aK v)))
      exact q _ x5 ⟨dx, aK, v, upd_same, x5.ti hp hT⟩
end
end Kz
set_option Elab.async false
set_option linter.all false
set_option maxRecDepth 100000
set_option maxHeartbeats 4000000
set_option exponentiation.threshold 500
namespace Kz
open PySem PySem.Spec PyProof.Rows L2 Evl Vr
local macro_rules | `(tactic| walk_at "sc") => `(tactic| first | (with_reducible assumption) | (with_reducible exact sc_mul (by omega)) | (with_reducible exact sc_mulr (by omega)) | (with_reducible exact sc_div (by omega) (by decide)) | (show (0 : Int) < _; omega) | (show _ ≠ (0 : Int); omega) | (with_reducible rfl) | decide)
local macro_rules | `(tactic| walk_at "sq") => `(tactic| first | assumption | exact sq_of (by assumption) | exact st_of (by assumption))
local macro_rules | `(tactic| walk_at "pl") => `(tactic| first | assumption | exact pl_int | exact pl_bl | exact pl_str | exact pl_non | exact pl_lst (by assumption) | exact pl_tup (by assumption) | exact pl_dK (by assumption))
local macro_rules | `(tactic| walk_at "rv") => `(tactic| first
  | with_reducible exact rv_I0
  | with_reducible exact ru_neg
  | ((with_reducible apply rv_I); walk_at "sc")
  | ((with_reducible apply rv_ixL); walk_at "sq"; first | rfl | assumption)
  | ((with_reducible apply rv_ixT); walk_at "sq"; first | rfl | assumption)
  | ((with_reducible apply rv_eq); rfl) | ((with_reducible apply rv_ne); rfl))
local macro_rules | `(tactic| walk_at "rc") => `(tactic| first
  | with_reducible exact rc_I1 | with_reducible exact rc_B1 | with_reducible exact rc_I2 | ((with_reducible apply rc_repr); walk_at "sc") | ((with_reducible apply rc_lenL); walk_at "sq")
  | ((with_reducible apply rc_isiInt); walk_at "pl") | ((with_reducible apply rc_isiBool); walk_at "pl"))
local macro_rules | `(tactic| walk_at "ea") => `(tactic| first
  | with_reducible exact ea_nil | ((with_reducible apply ea_cons); walk_at "ev"; walk_at "ea"))
local macro_rules | `(tactic| walk_at "pow") => `(tactic| first
  | with_reducible exact ev_pow (a := 10) (b := 9) (c := 1000000000) (by decide +kernel) (by decide +kernel)
  | with_reducible exact ev_pow (a := 10) (b := 10) (c := 10000000000) (by decide +kernel) (by decide +kernel)
  | with_reducible exact ev_pow (a := 10) (b := 12) (c := 1000000000000) (by decide +kernel) (by decide +kernel)
  | with_reducible exact ev_pow (a := 10) (b := 17) (c := 100000000000000000) (by decide +kernel) (by decide +kernel)
  | with_reducible exact ev_pow (a := 10) (b := 20) (c := 100000000000000000000) (by decide +kernel) (by decide +kernel)
  | with_reducible exact ev_pow (a := 10) (b := 29) (c := 100000000000000000000000000000) (by decide +kernel) (by decide +kernel)
  | with_reducible exact ev_pow (a := 10) (b := 30) (c := 1000000000000000000000000000000) (by decide +kernel) (by decide +kernel)
  | with_reducible exact ev_pow (a := 10) (b := 40) (c := 10000000000000000000000000000000000000000) (by decide +kernel) (by decide +kernel)
  | with_reducible exact ev_pow (a := 10) (b := 57) (c := 1000000000000000000000000000000000000000000000000000000000) (by decide +kernel) (by decide +kernel)
  | with_reducible exact ev_pow (a := 10) (b := 58) (c := 10000000000000000000000000000000000000000000000000000000000) (by decide +kernel) (by decide +kernel)
  | with_reducible exact ev_pow (a := 10) (b := 59) (c := 100000000000000000000000000000000000000000000000000000000000) (by decide +kernel) (by decide +kernel)
  | with_reducible exact ev_pow (a := 10) (b := 60) (c := 1000000000000000000000000000000000000000000000000000000000000) (by decide +kernel) (by decide +kernel))
local macro_rules | `(tactic| walk_at "call") => `(tactic| (intro H9 e9; first | exact ⟨_, rfl, rfl⟩ | exact ⟨_, _, rfl, rfl⟩ | exact ⟨_, _, _, rfl, rfl⟩ | exact ⟨_, rfl, by walk_at "pl", rfl⟩ | (refine ⟨_, _, _, rfl, ?_, rfl⟩; first | exact Plain.ex e9 (by assumption) | walk_at "pl") | (refine ⟨_, rfl, ?_, rfl⟩; first | exact Plain.ex e9 (by assumption) | walk_at "pl")))
local macro_rules | `(tactic| walk_at "ev") => `(tactic| first
  | with_reducible exact ev_c
  | exact ev_var rfl
  | walk_at "pow"
  | ((with_reducible apply ev_op); walk_at "ev"; walk_at "ev"; walk_at "rv")
  | ((with_reducible apply ev_un); walk_at "ev"; walk_at "rv")
  | ((with_reducible apply ev_cb); walk_at "ea"; walk_at "rc")
  | ((with_reducible apply ev_callP); walk_at "ea"; walk_at "call")
  | ((with_reducible apply ev_chain); walk_at "ev"; walk_at "ev"; walk_at "rv"; walk_at "ev"; walk_at "rv")
  | ((with_reducible apply ev_andV); walk_at "ev"; intro _; walk_at "ev")
  | ((with_reducible apply ev_orV); walk_at "ev"; intro _; walk_at "ev")
  | ((with_reducible apply ev_ite); walk_at "et"; intro _; walk_at "ev"; intro _; walk_at "ev")
  | ((with_reducible apply ev_notV); walk_at "ev"))
local macro_rules | `(tactic| walk_at "et") => `(tactic| first
  | ((with_reducible apply et_test); walk_at "ev")
  | ((with_reducible apply et_B); walk_at "ev")
  | ((with_reducible apply et_and); walk_at "et"; intro _; walk_at "et")
  | ((with_reducible apply et_or); walk_at "et"; intro _; walk_at "et")
  | ((with_reducible apply et_not); walk_at "et"))
open En Wo
section
variable {K : PySem.W.Frag} {H : Hp} {σ : L2.St} {te to : TE} {ts tk : TA} {D : Ends} {tz : TS} {a C dx : Addr} {fs : List (Str × V)} {m : Str} {sp : Sp} {E : XK} {P : List V → Hp → Prop} {v z : V} {Q : VK} {dvs : List V}
theorem s_dropMP (h : Ev to σ H (.ref a)) (ho : H a = some (.ins C dx fs)) (hl : fs.lookup m = none) (ha : ∀ H1, Ex H H1 → EvAP ts σ H1 P) (k : ∀ vs H1, Ex H H1 → P vs H1 → sp (.ref a :: vs) H1 (fun _ H2 => D.nx σ H2) E) : tDrop (tMeth C m sp [] E to ts) D σ H :=
  h H (Ex.refl H) _ fun H2 e2 => ⟨a, dx, fs, rfl, e2 _ _ ho, hl, ha H2 e2 H2 (Ex.refl H2) _ fun vs H3 e3 p => by
    rw [List.append_nil]
    exact k vs H3 (e2.trans e3) p⟩
theorem q_dropMX {vs : List V} (h : Ev to σ H (.ref a)) (ho : H a = some (.ins C dx fs)) (hl : fs.lookup m = none) (ha : EvA ts σ H vs) (k : ∀ H1, Ex H H1 → sp (.ref a :: vs) H1 (fun _ H2 => tz D σ H2) E) : tSeq (tDrop (tMeth C m sp [] E to ts)) tz D σ H :=
  h H (Ex.refl H) _ fun H2 e2 => ⟨a, dx, fs, rfl, e2 _ _ ho, hl, ha H2 e2 _ fun H3 e3 => by
    rw [List.append_nil]
    exact k H3 (e2.trans e3)⟩
/-- an own method's answer, as an expression that may raise -/
theorem go_meth {vs : List V} (h : Ev to σ H (.ref a)) (ho : H a = some (.ins C dx fs)) (hl : fs.lookup m = none) (ha : EvA ts σ H vs) (k : ∀ H1, Ex H H1 → sp (.ref a :: vs) H1 Q E) : tMeth C m sp [] E to ts σ H Q :=
  h H (Ex.refl H) _ fun H2 e2 => ⟨a, dx, fs, rfl, e2 _ _ ho, hl, ha H2 e2 _ fun H3 e3 => by
    rw [List.append_nil]
    exact k H3 (e2.trans e3)⟩
theorem s_retX (ha : EvAP ts σ H P) (h : ∀ vs H1, Ex H H1 → P vs H1 → sp vs H1 (fun v H2 => D.rt v H2) E) : tRet (tCall sp [] E ts) D σ H := ha H (Ex.refl H) _ fun vs H1 e1 p => by
  rw [List.append_nil]
  exact h vs H1 e1 p
theorem made_ex {H1 : Hp} {x dx C : Addr} (hx : H1 x = none) (hdx : H1 dx = none) (ne : dx ≠ x) : Ex H1 (upd (upd H1 dx (.own x)) x (.ins C dx [])) := by
  have hn : (upd H1 dx (.own x)) x = none := by rw [upd_ne (Ne.symm ne)]; exact hx
  exact (Ex.new hdx).trans (Ex.new hn)
theorem go_makeK (ha : EvA ts σ H [v]) (hk : EvA tk σ H [z]) (h : ∀ H1 x dx, Ex H H1 → H1 x = none → Ex H1 (upd (upd H1 dx (.own x)) x (.ins C dx [])) → sp [.ref x, v, z] (upd (upd H1 dx (.own x)) x (.ins C dx [])) (fun u H3 => u = .non ∧ Q (.ref x) H3) E) : tMakeK C 1 1 sp (fun vs zs => vs ++ zs) E ts tk σ H Q :=
  ha H (Ex.refl H) _ fun H1 e1 => hk H1 e1 _ fun H2 e2 => ⟨rfl, rfl, fun x dx hx hdx ne => h H2 x dx (e1.trans e2) hx (made_ex hx hdx ne)⟩
theorem go_makeD (ha : EvA ts σ H [v]) (h : ∀ H1 x dx, Ex H H1 → H1 x = none → Ex H1 (upd (upd H1 dx (.own x)) x (.ins C dx [])) → sp [.ref x, v, z] (upd (upd H1 dx (.own x)) x (.ins C dx [])) (fun u H3 => u = .non ∧ Q (.ref x) H3) E) : tMake C sp [z] E ts σ H Q :=
  ha H (Ex.refl H) _ fun H2 e2 => fun x dx hx hdx ne => h H2 x dx e2 hx (made_ex hx hdx ne)
end
/-- whether a value is a tick of such a ring -/
def isTick (f : Int) (n : Nat) : V → Bool
  | .int t => decide (f ≤ t) && decide (t ≤ f + (n : Int) - 1)
  | _ => false
theorem RgAt.ob {K : PySem.W.Frag} {C p : Addr} {H : Hp} {f s : Int} {ks : List V} (h : RgAt K C H p f s ks) : ∃ dx aK aW, H p = some (.ins C dx (rfs f (f + (ks.length : Int) - 1) s aK aW)) ∧ SqT K H aK ks := h
def spTick (K : PySem.W.Frag) (C CN : Addr) : Sp := fun vs H Q E => ∃ (p : Addr) (v : V) (f s : Int) (ks : List V), vs = [.ref p, v] ∧ RgAt K C H p f s ks ∧ Plain K H v ∧ (isTick f ks.length v = true → ∀ H', Ex H H' → Q .non H') ∧ (isTick f ks.length v = false → FErr CN "given" v E H)
def mx (f s t : Int) : Int := if t / s * s > f then t / s * s else f
def spWork (K : PySem.W.Frag) (C CN : Addr) : Sp := fun vs H Q E => ∃ (p : Addr) (v : V) (f s : Int) (ks : List V), vs = [.ref p, v] ∧ RgAt K C H p f s ks ∧ 1 ≤ s ∧ s ≤ 6 ∧ Plain K H v ∧ (∀ t, v = .int t → isTick f ks.length v = true → ∀ H', Ex H H' → Q (.int (t - mx f s t)) H') ∧ (isTick f ks.length v = false → FErr CN "given" v E H)
def spAtR (K : PySem.W.Frag) (C CN : Addr) : Sp := fun vs H Q E => ∃ (p : Addr) (v : V) (f s : Int) (ks : List V), vs = [.ref p, v] ∧ RgAt K C H p f s ks ∧ 1 ≤ s ∧ s ≤ 6 ∧ 0 ≤ f ∧ f ≤ 500000 ∧ ks.length ≤ 1000 ∧ Plain K H v ∧
  (∀ t, v = .int t → isTick f ks.length v = true → wholeT f s t = true ∧ ∃ u, ks[(t - f).toNat]? = some u ∧ ∀ H', Ex H H' → Q u H') ∧ (isTick f ks.length v = false → FErr CN "given" v E H)
def spBadT (K : PySem.W.Frag) (C CN : Addr) : Sp := fun vs H _ E => ∃ (p : Addr) (v : V) (f s : Int) (ks : List V), vs = [.ref p, v] ∧ RgAt K C H p f s ks ∧ 1 ≤ s ∧ s ≤ 6 ∧ Plain K H v ∧ isTick f ks.length v = false ∧ FErr CN "given" v E H
def spRInit (K : PySem.W.Frag) (CW CR WE CN : Addr) : Sp := fun vs H Q E => ∃ (p dx : Addr) (v z : V), vs = [.ref p, v, z] ∧ H p = some (.ins CR dx []) ∧ ((∃ d, Da K H v d ∧ PErr WE E H) ∨ (∃ q W, v = .ref q ∧ WdAt K CW H q W ∧ 0 ≤ W.t ∧ W.t ≤ 500000 ∧ Plain K H z ∧ (isWithin 1 6 z = false → FErr CN "given" z E H) ∧
  (isWithin 1 6 z = true → ∀ s, z = .int s → ∀ H', Exd p H H' → RgAt K CR H' p W.t s [.ref q] → Q .non H')))
def spRingOf (K : PySem.W.Frag) (CW CR : Addr) : Sp := fun vs H Q _ => ∃ (aK q : Addr) (W : Wd) (f s : Int) (ks r : List V), vs = [.int f, .int s, .ref aK] ∧ SqT K H aK ks ∧ ks = .ref q :: r ∧ WdAt K CW H q W ∧ 0 ≤ W.t ∧ W.t ≤ 500000 ∧ 1 ≤ s ∧ s ≤ 6 ∧ 0 ≤ f ∧ f ≤ 500000 ∧ ks.length ≤ 1000 ∧
  ∀ p H', H p = none → Ex H H' → RgAt K CR H' p f s ks → Q (.ref p) H'
def spPut (K : PySem.W.Frag) (CW CR WE CO : Addr) : Sp := fun vs H Q E => ∃ (p q0 : Addr) (v : V) (W0 : Wd) (f s : Int) (ks r : List V), vs = [.ref p, v] ∧ RgAt K CR H p f s ks ∧ ks = .ref q0 :: r ∧ WdAt K CW H q0 W0 ∧ 0 ≤ W0.t ∧ W0.t ≤ 500000 ∧ 1 ≤ s ∧ s ≤ 6 ∧ 0 ≤ f ∧ f ≤ 500000 ∧ ks.length ≤ 999 ∧
  ((∃ d, Da K H v d ∧ PErr WE E H) ∨ (∃ q W, v = .ref q ∧ WkAt K CW H q W ∧ ((W.t ≠ f + (ks.length : Int) ∧ PErr CO E H) ∨ (W.t = f + (ks.length : Int) ∧ (wholeT f s W.t = true ∨ (wholeT f s (f + (ks.length : Int) - 1) = true ∧ ∃ b B, ks[ks.length - 1]? = some (.ref b) ∧ WkAt K CW H b B)) ∧
    ∀ p' u H', H p' = none → Ex H H' → RgAt K CR H' p' f s (ks ++ [u]) → (wholeT f s W.t = true → u = .ref q) → Q (.ref p') H'))))
theorem whole_mx {f s t : Int} (hs : 0 < s) (hf : f ≤ t) (h : wholeT f s t = true) : t - mx f s t = 0 := by
  unfold wholeT at h
  rw [Bool.or_eq_true, decide_eq_true_eq, decide_eq_true_eq] at h
  have z1 : t / s * s ≤ t := Int.ediv_mul_le t (by omega)
  unfold mx
  rcases h with rfl | h
  · split <;> omega
  · have z2 : t / s * s = t := Int.ediv_mul_cancel (Int.dvd_of_emod_eq_zero h)
    rw [z2]
    split <;> omega
section
variable {P : Program} {w : World} {K : PySem.W.Frag} {mg : Str → Option Value} {base : Heap}
theorem ok_rcontains (T : Txt K mg w) : FnOk P w K mg base CX0 1 T.a_Ring___contains__ T.fd_Ring___contains__ ["self", "value"] (Pure fun vs H z => ∃ (p : Addr) (v : V) (f s : Int) (ks : List V), vs = [.ref p, v] ∧ RgAt K T.C_Ring H p f s ks ∧ Plain K H v ∧ z = .bl (isTick f ks.length v)) := by
  refine T.F_Ring___contains__.ok sc_Ring___contains__ (fun vs H Q E h => ?_) (fun cdv A outer s H vs Q E hr h => ?_)
  · obtain ⟨_, ⟨_, _, _, _, _, rfl, _⟩, _⟩ := h; rfl
  · obtain ⟨_, ⟨p, v, f, s, ks, rfl, ⟨dx, aK, aW, hob, _⟩, hx, rfl⟩, q⟩ := h
    refine ⟨_, (pss_one (ps_ret (pe_and (pe_callB call_isi (by rfl) T.z_isinstance (by decide +kernel) (pa_cons (pv 1) (pa_cons (pe_bltn (v := .ty "int") (by rfl) T.z_int (by decide +kernel) rfl) pa_nil))) (pe_and (pe_not (pe_callB call_isi (by rfl) T.z_isinstance (by decide +kernel) (pa_cons (pv 1) (pa_cons (pe_bltn (v := .ty "bool") (by rfl) T.z_bool (by decide +kernel) rfl) pa_nil)))) (pe_one (pe_chain op_le op_le (pe_fld (pv 0) rfl) (pv 1) (pe_fld (pv 0) rfl))))))), ?_⟩
    refine s_ret (v := .bl (isTick f ks.length v)) ?_ q
    have i1 : ∀ {H1 σ}, Ex H H1 → σ[1]? = some (some v) → Ev (tCB (rIsi K) (tCons (tVar 1) (tCons (tC (.ty "int")) tNil))) σ H1 (.bl (isIB v)) := fun e h => ev_cb (ea_cons (ev_var h) (ea_cons ev_c ea_nil)) (rc_isiInt (hx.ex e))
    have i2 : ∀ {H1 σ}, Ex H H1 → σ[1]? = some (some v) → Ev (tCB (rIsi K) (tCons (tVar 1) (tCons (tC (.ty "bool")) tNil))) σ H1 (.bl (isB v)) := fun e h => ev_cb (ea_cons (ev_var h) (ea_cons ev_c ea_nil)) (rc_isiBool (hx.ex e))
    cases v with
    | int t => exact ev_is (ev_andV (a := true) (b := isTick f ks.length (.int t)) (i1 (Ex.refl H) rfl) fun _ => ev_is (ev_andV (a := true) (b := isTick f ks.length (.int t)) (ev_is (ev_notV (i2 (Ex.refl H) rfl)) rfl) fun _ => ev_chain (ev_fld (ev_var rfl) hob T.cl_Ring T.n_Ring_first rfl) (ev_var rfl) rv_I0 (ev_fld (ev_var rfl) hob T.cl_Ring T.n_Ring_last rfl) rv_I0) rfl) rfl
    | bl b => exact ev_is (ev_andV (a := true) (b := false) (i1 (Ex.refl H) rfl) fun _ => ev_is (ev_andV (a := false) (b := false) (ev_is (ev_notV (i2 (Ex.refl H) rfl)) rfl) (fun h => by cases h)) rfl) rfl
    | non => exact ev_is (ev_andV (a := false) (b := false) (i1 (Ex.refl H) rfl) (fun h => by cases h)) rfl
    | str _ => exact ev_is (ev_andV (a := false) (b := false) (i1 (Ex.refl H) rfl) (fun h => by cases h)) rfl
    | byt _ => exact ev_is (ev_andV (a := false) (b := false) (i1 (Ex.refl H) rfl) (fun h => by cases h)) rfl
    | flt _ => exact ev_is (ev_andV (a := false) (b := false) (i1 (Ex.refl H) rfl) (fun h => by cases h)) rfl
    | ref _ => exact ev_is (ev_andV (a := false) (b := false) (i1 (Ex.refl H) rfl) (fun h => by cases h)) rfl
    | ty _ => exact ev_is (ev_andV (a := false) (b := false) (i1 (Ex.refl H) rfl) (fun h => by cases h)) rfl
theorem ok_need_tick (T : Txt K mg w) : FnOk P w K mg base (L2.CX P w) 3 T.a_Ring__need_tick T.fd_Ring__need_tick ["self", "tick"] (spTick K T.C_Ring T.C_IN) := by
  have G_Ring___contains__ := ok_rcontains (P := P) (w := w) (base := base) T
  have G_InvalidNumber___init__ := ok_given (P := P) (w := w) (base := base) T
  refine T.F_Ring__need_tick.okX sc_Ring__need_tick (fun vs H Q E h => ?_) (fun cdv A outer s H vs Q E hr h => ?_)
  · obtain ⟨_, _, _, _, _, rfl, _⟩ := h; rfl
  · obtain ⟨p, v, f, s, ks, rfl, hR, hp, q1, q2⟩ := h
    refine ⟨_, (pss_one (ps_if (pt_cmpR (op_niO G_Ring___contains__ (hr.mono (by decide)) T.m_Ring___contains__ T.b_Ring___contains__ pass0) (pv 1) (pv 0) (by rfl)) (pss_one (ps_raise (W := fun cls d _ H => E cls d H) rfl (takes_of rfl rfl rfl rfl) (pmk_oxK PySem.Xk.bsIndex T.o_IN T.i_IN T.t_IN G_InvalidNumber___init__ (hr.mono (by decide)) T.b_InvalidNumber___init__ .nil pass0 (by rfl) T.g_InvalidNumber (pa_cons (pv 1) pa_nil)))) pss_nil)), ?_⟩
    obtain ⟨dx, aK, aW, hob, _⟩ := hR.ob
    refine s_when (b := !isTick f ks.length v) (et_test (ev_op (ev_var rfl) (ev_var rfl) (rv_niO hob fun H1 e1 => ⟨p, v, f, s, ks, rfl, hR.ex e1, hp.ex e1, rfl⟩))) (fun hb H1 e1 => ?_) fun hb H1 e1 => q1 (nf hb) H1 e1
    exact mk_field (ea_cons (ev_var rfl) ea_nil) (FErr.ex e1 (q2 (nt hb)))
theorem ok_work (T : Txt K mg w) : FnOk P w K mg base (L2.CX P w) 4 T.a_Ring_work T.fd_Ring_work ["self", "tick"] (spWork K T.C_Ring T.C_IN) := by
  have G_Ring__need_tick := ok_need_tick (P := P) (w := w) (base := base) T
  refine T.F_Ring_work.okX sc_Ring_work (fun vs H Q E h => ?_) (fun cdv A outer s H vs Q E hr h => ?_)
  · obtain ⟨_, _, _, _, _, rfl, _⟩ := h; rfl
  · obtain ⟨p, v, f, s, ks, rfl, hR, s1, s6, hp, q1, q2⟩ := h
    refine ⟨_, (pss_cons (ps_expr (pe_meth (pv 0) T.cl_Ring T.m_Ring__need_tick G_Ring__need_tick (hr.mono (by decide)) T.b_Ring__need_tick .nil (passes_call (W := fun cls d _ H => E cls d H) (takes_of rfl rfl rfl rfl) (fun _ _ _ _ h => h)) (pa_cons (pv 1) pa_nil)))
  (pss_one (ps_ret (pe_op op_sub (pv 1) (pe_callB (c_max rfl) (by rfl) T.z_max (by decide +kernel) (pa_cons (pe_fld (pv 0) rfl) (pa_cons (pe_op op_mul (pe_op op_fdivW (pv 1) (pe_fld (pv 0) rfl)) (pe_fld (pv 0) rfl)) pa_nil))))))), ?_⟩
    obtain ⟨dx, aK, aW, hob, _⟩ := hR.ob
    refine q_dropMX (ev_var rfl) hob rfl (ea_cons (ev_var rfl) ea_nil) fun H1 e1 => ⟨p, v, f, s, ks, rfl, hR.ex e1, hp.ex e1, fun hy H2 e2 => ?_, fun hn => (q2 hn).ex e1⟩
    obtain ⟨t, rfl⟩ : ∃ t, v = .int t := by
      cases v <;> first | exact ⟨_, rfl⟩ | cases hy
    have hob2 := (e1.trans e2) _ _ hob
    exact s_ret (v := .int (t - mx f s t)) (ev_op (ev_var rfl) (ev_cb (vs := [.int f, .int (t / s * s)]) (ea_cons (ev_fld (ev_var rfl) hob2 T.cl_Ring T.n_Ring_first rfl) (ea_cons (ev_op (ev_op (ev_var rfl) (ev_fld (ev_var rfl) hob2 T.cl_Ring T.n_Ring_spacing rfl) (rv_I (sc_div (by omega) (by
      have : s.natAbs.log2 ≤ s.natAbs := Nat.log2_le_self _
      omega)))) (ev_fld (ev_var rfl) hob2 T.cl_Ring T.n_Ring_spacing rfl) (rv_I (sc_mulr (by omega)))) ea_nil)) rc_I2) rv_I0) fun H3 e3 => q1 t rfl hy H3 ((e1.trans e2).trans e3)
end
end Kz
set_option Elab.async false
set_option linter.all false
set_option maxRecDepth 100000
set_option maxHeartbeats 4000000
set_option exponentiation.threshold 500
namespace Kz
open PySem PySem.Spec PyProof.Rows L2 Evl Vr
local macro_rules | `(tactic| walk_at "sc") => `(tactic| first | (with_reducible assumption) | (with_reducible exact sc_mul (by omega)) | (with_reducible exact sc_mulr (by omega)) | (with_reducible exact sc_div (by omega) (by decide)) | (show (0 : Int) < _; omega) | (show _ ≠ (0 : Int); omega) | (with_reducible rfl) | decide)
local macro_rules | `(tactic| walk_at "sq") => `(tactic| first | assumption | exact sq_of (by assumption) | exact st_of (by assumption))
local macro_rules | `(tactic| walk_at "pl") => `(tactic| first | assumption | exact pl_int | exact pl_bl | exact pl_str | exact pl_non | exact pl_lst (by assumption) | exact pl_tup (by assumption) | exact pl_dK (by assumption))
local macro_rules | `(tactic| walk_at "rv") => `(tactic| first
  | with_reducible exact rv_I0
  | with_reducible exact ru_neg
  | ((with_reducible apply rv_I); walk_at "sc")
  | ((with_reducible apply rv_ixL); walk_at "sq"; first | rfl | assumption)
  | ((with_reducible apply rv_ixT); walk_at "sq"; first | rfl | assumption)
  | ((with_reducible apply rv_eq); rfl) | ((with_reducible apply rv_ne); rfl))
local macro_rules | `(tactic| walk_at "rc") => `(tactic| first
  | with_reducible exact rc_I1 | with_reducible exact rc_B1 | with_reducible exact rc_I2 | ((with_reducible apply rc_repr); walk_at "sc") | ((with_reducible apply rc_lenL); walk_at "sq")
  | ((with_reducible apply rc_isiInt); walk_at "pl") | ((with_reducible apply rc_isiBool); walk_at "pl"))
local macro_rules | `(tactic| walk_at "ea") => `(tactic| first
  | with_reducible exact ea_nil | ((with_reducible apply ea_cons); walk_at "ev"; walk_at "ea"))
local macro_rules | `(tactic| walk_at "pow") => `(tactic| first
  | with_reducible exact ev_pow (a := 10) (b := 9) (c := 1000000000) (by decide +kernel) (by decide +kernel)
  | with_reducible exact ev_pow (a := 10) (b := 10) (c := 10000000000) (by decide +kernel) (by decide +kernel)
  | with_reducible exact ev_pow (a := 10) (b := 12) (c := 1000000000000) (by decide +kernel) (by decide +kernel)
  | with_reducible exact ev_pow (a := 10) (b := 17) (c := 100000000000000000) (by decide +kernel) (by decide +kernel)
  | with_reducible exact ev_pow (a := 10) (b := 20) (c := 100000000000000000000) (by decide +kernel) (by decide +kernel)
  | with_reducible exact ev_pow (a := 10) (b := 29) (c := 100000000000000000000000000000) (by decide +kernel) (by decide +kernel)
  | with_reducible exact ev_pow (a := 10) (b := 30) (c := 1000000000000000000000000000000) (by decide +kernel) (by decide +kernel)
  | with_reducible exact ev_pow (a := 10) (b := 40) (c := 10000000000000000000000000000000000000000) (by decide +kernel) (by decide +kernel)
  | with_reducible exact ev_pow (a := 10) (b := 57) (c := 1000000000000000000000000000000000000000000000000000000000) (by decide +kernel) (by decide +kernel)
  | with_reducible exact ev_pow (a := 10) (b := 58) (c := 10000000000000000000000000000000000000000000000000000000000) (by decide +kernel) (by decide +kernel)
  | with_reducible exact ev_pow (a := 10) (b := 59) (c := 100000000000000000000000000000000000000000000000000000000000) (by decide +kernel) (by decide +kernel)
  | with_reducible exact ev_pow (a := 10) (b := 60) (c := 1000000000000000000000000000000000000000000000000000000000000) (by decide +kernel) (by decide +kernel))
local macro_rules | `(tactic| walk_at "call") => `(tactic| (intro H9 e9; first | exact ⟨_, rfl, rfl⟩ | exact ⟨_, _, rfl, rfl⟩ | exact ⟨_, _, _, rfl, rfl⟩ | exact ⟨_, rfl, by walk_at "pl", rfl⟩ | (refine ⟨_, _, _, rfl, ?_, rfl⟩; first | exact Plain.ex e9 (by assumption) | walk_at "pl") | (refine ⟨_, rfl, ?_, rfl⟩; first | exact Plain.ex e9 (by assumption) | walk_at "pl")))
local macro_rules | `(tactic| walk_at "ev") => `(tactic| first
  | with_reducible exact ev_c
  | exact ev_var rfl
  | walk_at "pow"
  | ((with_reducible apply ev_op); walk_at "ev"; walk_at "ev"; walk_at "rv")
  | ((with_reducible apply ev_un); walk_at "ev"; walk_at "rv")
  | ((with_reducible apply ev_cb); walk_at "ea"; walk_at "rc")
  | ((with_reducible apply ev_callP); walk_at "ea"; walk_at "call")
  | ((with_reducible apply ev_chain); walk_at "ev"; walk_at "ev"; walk_at "rv"; walk_at "ev"; walk_at "rv")
  | ((with_reducible apply ev_andV); walk_at "ev"; intro _; walk_at "ev")
  | ((with_reducible apply ev_orV); walk_at "ev"; intro _; walk_at "ev")
  | ((with_reducible apply ev_ite); walk_at "et"; intro _; walk_at "ev"; intro _; walk_at "ev")
  | ((with_reducible apply ev_notV); walk_at "ev"))
local macro_rules | `(tactic| walk_at "et") => `(tactic| first
  | ((with_reducible apply et_test); walk_at "ev")
  | ((with_reducible apply et_B); walk_at "ev")
  | ((with_reducible apply et_and); walk_at "et"; intro _; walk_at "et")
  | ((with_reducible apply et_or); walk_at "et"; intro _; walk_at "et")
  | ((with_reducible apply et_not); walk_at "et"))
open En Wo
section
variable {K : PySem.W.Frag} {H : Hp} {σ : L2.St} {te to tb ta : TE} {ts tr : TA} {t : TT} {tu tz : TS} {D : Ends} {a C dx : Addr} {fs : List (Str × V)} {m : Str} {sp : Sp} {E : XK} {z : V} {vs : List V} {d : PyData} {i : Nat}
theorem q_asgSub {k : Int} (h : Ev te σ H (.int k)) (q : ∀ H1, Ex H H1 → tb σ H1 (fun u H2 => ∃ n, u = .int n ∧ tz D (σ.set i (some (.int (k - n)))) H2)) (hm : ∀ H1 (Q1 Q2 : VK), (∀ u H2, Q1 u H2 → Q2 u H2) → tb σ H1 Q1 → tb σ H1 Q2) : tSeq (tAsg (tOp (rI0 fun a b => V.int (a - b)) te tb) (gName i)) tz D σ H :=
  h H (Ex.refl H) _ fun H1 e1 => hm H1 _ _ (fun u H2 ⟨n, hn, hz⟩ => ⟨k, n, rfl, hn, hz⟩) (q H1 e1)
theorem q_asgE (h : te σ H (fun v H1 => tz D (σ.set i (some v)) H1)) : tSeq (tAsg te (gName i)) tz D σ H := h
theorem q_forR0 {lo n : Int} {j : Nat} (h : EvA ts σ H [.int lo, .int n]) (hb : -1000000 ≤ lo ∧ lo ≤ 1000000 ∧ -1000000 ≤ n ∧ n ≤ lo) (k : ∀ H1, Ex H H1 → tz D σ H1) : tSeq (tFor (iRng2 ts) (gName j) tu) tz D σ H :=
  h H (Ex.refl H) _ fun H1 e => ⟨lo, n, rfl, ⟨by omega, by omega, by omega, by omega⟩, for_range (D := { D with nx := tz D }) (lo := lo) (n := (n - lo).toNat) (fun _ σ' H' => σ' = σ ∧ Ex H H') ⟨rfl, e⟩ (fun i σ' H' hi p => absurd hi (by omega)) fun σ' H' p => by rw [p.1]; exact k H' p.2⟩
theorem ev_methS (h : Ev to σ H (.ref a)) (ho : H a = some (.ins C dx fs)) (hl : fs.lookup m = none) (ha : EvA ts σ H vs) (k : ∀ H1, Ex H H1 → ∀ Q : VK, (∀ H2, Ex H1 H2 → Q z H2) → sp (.ref a :: vs) H1 Q E) : Ev (tMeth C m sp [] E to ts) σ H z := fun H1 e Q q =>
  h H1 e _ fun H2 e2 => ⟨a, dx, fs, rfl, (e.trans e2) _ _ ho, hl, ha H2 (e.trans e2) _ fun H3 e3 => by
    rw [List.append_nil]
    exact k H3 ((e.trans e2).trans e3) Q fun H4 e4 => q H4 ((e2.trans e3).trans e4)⟩
theorem ew_ifF (h : EvT t σ H false) (h2 : EvDt K tb σ H d) : EvDt K (tIf t ta tb) σ H d := fun H1 e Q q => h H1 e _ fun H2 e2 => by
  rw [if_neg Bool.false_ne_true]
  exact h2 H2 (e.trans e2) Q fun v H3 e3 => q v H3 (e2.trans e3)
theorem ea_of (h : EvAP ts σ H (fun us _ => us = vs)) : EvA ts σ H vs := fun H1 e Q q => h H1 e _ fun us H2 e2 z => by subst z; exact q H2 e2
end
theorem ks_at {α : Type} {ks : List α} {f t : Int} {u : α} (h0 : f ≤ t) (h : ks[(t - f).toNat]? = some u) : atI ks (t - f) = some u := by
  have e : t - f = ((t - f).toNat : Int) := by omega
  rw [e]
  exact atI_nat h
theorem within16 {v : V} (h : isWithin 1 6 v = true) : ∃ s, v = .int s ∧ 1 ≤ s ∧ s ≤ 6 := by
  cases v with
  | int s =>
    have h1 : (1 : Int) ≤ s ∧ s ≤ 6 := (by simpa [isWithin, isIntV] using h : _ ∧ (1 : Int) ≤ s ∧ s ≤ 6).2
    exact ⟨s, rfl, h1⟩
  | _ => cases h
section
variable {P : Program} {w : World} {K : PySem.W.Frag} {mg : Str → Option Value} {base : Heap}
theorem ok_no_behind (T : Txt K mg w) : FnOk P w K mg base CX0 1 T.a_world_behind T.fd_world_behind ["world", "told"] (fun _ _ _ _ => False) :=
  T.F_world_behind.ok sc_world_behind (fun _ _ _ _ h => False.elim h) (fun _ _ _ _ _ _ _ _ _ h => False.elim h)
theorem ok_world_at (T : Txt K mg w) : FnOk P w K mg base (L2.CX P w) 5 T.a_Ring_world T.fd_Ring_world ["self", "tick"] (spAtR K T.C_Ring T.C_IN) := by
  have G_Ring_work := ok_work (P := P) (w := w) (base := base) T
  have G_world_behind := ok_no_behind (P := P) (w := w) (base := base) T
  refine T.F_Ring_world.okX sc_Ring_world (fun vs H Q E h => ?_) (fun cdv A outer s H vs Q E hr h => ?_)
  · obtain ⟨_, _, _, _, _, rfl, _⟩ := h; rfl
  · obtain ⟨p, v, f, s, ks, rfl, hR, s1, s6, f0, f1, hl, hp, q1, q2⟩ := h
    refine ⟨_, (pss_cons (ps_set (i := 2) sc_Ring_world.nd rfl (.inl rfl) (pe_op op_sub (pv 1) (pe_meth (pv 0) T.cl_Ring T.m_Ring_work G_Ring_work (hr.mono (by decide)) T.b_Ring_work .nil (passes_call (W := fun cls d _ H => E cls d H) (takes_of rfl rfl rfl rfl) (fun _ _ _ _ h => h)) (pa_cons (pv 1) pa_nil))))
  (pss_cons (ps_set (i := 3) sc_Ring_world.nd rfl (.inl rfl) (pe_ix ix_tup (pe_fld (pv 0) rfl) (pe_op op_sub (pv 2) (pe_fld (pv 0) rfl)) (fun _ _ => rfl)))
  (pss_cons (ps_for (passes_of rfl) rfl (pi_range2 rfl T.z_range (pa_cons (pe_op op_add (pv 2) pe_int) (pa_cons (pe_op op_add (pv 1) pe_int) pa_nil))) (pg_name (i := 4) sc_Ring_world.nd rfl (.inl rfl)) (pss_one (ps_set (i := 3) sc_Ring_world.nd rfl (.inl rfl) (pe_call G_world_behind (hr.mono (by decide)) (by rfl) T.g_world_behind T.F_world_behind.kp T.b_world_behind .nil pass0 (pa_cons (pv 3) (pa_cons (pe_ix ix_tup (pe_fld (pv 0) rfl) (pe_op op_sub (pv 4) (pe_fld (pv 0) rfl)) (fun _ _ => rfl)) pa_nil))))))
  (pss_one (ps_ret (pv 3)))))), ?_⟩
    obtain ⟨dx, aK, aW, hob, hT⟩ := hR.ob
    by_cases hy : isTick f ks.length v = true
    · obtain ⟨t, rfl⟩ : ∃ t, v = .int t := by
        cases v <;> first | exact ⟨_, rfl⟩ | cases hy
      obtain ⟨hw, u, hu, q⟩ := q1 t rfl hy
      have hb : f ≤ t ∧ t ≤ f + (ks.length : Int) - 1 := by simpa [isTick] using hy
      have hm := whole_mx (by omega) hb.1 hw
      refine q_asg (v := .int t) (ev_is (ev_op (ev_var rfl) (ev_methS (z := .int 0) (vs := [.int t]) (ev_var rfl) hob rfl (ea_cons (ev_var rfl) ea_nil) fun H1 e1 Q' q' => ⟨p, .int t, f, s, ks, rfl, hR.ex e1, s1, s6, hp.ex e1, fun t' ht hy' H2 e2 => ?_, fun hn => ?_⟩) rv_I0) (by simp)) fun H1 e1 => ?_
      · cases ht
        rw [hm]
        exact q' H2 e2
      · rw [hy] at hn; cases hn
      refine q_asg (v := u) (ev_op (ev_fld (ev_var rfl) (e1 _ _ hob) T.cl_Ring T.n_Ring_kept rfl) (ev_op (ev_var rfl) (ev_fld (ev_var rfl) (e1 _ _ hob) T.cl_Ring T.n_Ring_first rfl) rv_I0) (rv_ixT (ex_t e1 hT) (ks_at hb.1 hu))) fun H2 e2 => ?_
      refine q_forR0 (lo := t + 1) (n := t + 1) (by walk_at "ea") (by omega) fun H3 e3 => ?_
      exact s_ret (v := u) (ev_var rfl) fun H4 e4 => q H4 (((e1.trans e2).trans e3).trans e4)
    · have hn : isTick f ks.length v = false := by simpa using hy
      refine q_asgE ((ev_var rfl) H (Ex.refl H) _ fun H1 e1 => go_meth (vs := [v]) (ev_var rfl) (e1 _ _ hob) rfl (ea_cons (ev_var rfl) ea_nil) fun H2 e2 => ⟨p, v, f, s, ks, rfl, hR.ex (e1.trans e2), s1, s6, hp.ex (e1.trans e2), fun t' ht hy' => ?_, fun _ => (q2 hn).ex (e1.trans e2)⟩)
      exact absurd hy' hy
theorem ok_rinit (T : Txt K mg w) : FnOk P w K mg base (L2.CX P w) 4 T.a_Ring___init__ T.fd_Ring___init__ ["self", "world", "spacing"] (spRInit K T.C_World T.C_Ring T.C_WE T.C_IN) := by
  have G_need_world := ok_need_world (P := P) (w := w) (base := base) T
  have G_need_within := ok_need_within (P := P) (w := w) (base := base) T
  have G_Ring__fill := ok_rfill (P := P) (w := w) (base := base) T
  refine T.F_Ring___init__.okX sc_Ring___init__ (fun vs H Q E h => ?_) (fun cdv A outer s H vs Q E hr h => ?_)
  · obtain ⟨_, _, _, _, rfl, _⟩ := h; rfl
  · obtain ⟨p, dx, v, z, rfl, hp, h⟩ := h
    refine ⟨_, (pss_cons (ps_expr (pe_call G_need_world (hr.mono (by decide)) (by rfl) T.g_need_world T.F_need_world.kp T.b_need_world .nil (passes_call (W := fun cls d _ H => E cls d H) (takes_of rfl rfl rfl rfl) (fun _ _ _ _ h => h)) (pa_cons (pv 1) pa_nil)))
  (pss_cons (ps_expr (pe_call G_need_within (hr.mono (by decide)) (by rfl) T.g_need_within T.F_need_within.kp T.b_need_within .nil (passes_call (W := fun cls d _ H => E cls d H) (takes_of rfl rfl rfl rfl) (fun _ _ _ _ h => h)) (pa_cons (pv 2) (pa_cons pe_int (pa_cons (pe_glob (v := .int (6)) rfl T.g_MOST_SPACING ⟨_, rfl⟩) pa_nil)))))
  (pss_one (ps_expr (pe_meth (pv 0) T.cl_Ring T.m_Ring__fill G_Ring__fill (hr.mono (by decide)) T.b_Ring__fill .nil pass0 (pa_cons (pe_fld (pv 1) rfl) (pa_cons (pv 2) (pa_cons (pe_tup (pa_cons (pv 1) pa_nil)) pa_nil)))))))), ?_⟩
    rcases h with ⟨d, hd, q⟩ | ⟨q0, W, rfl, hW, w0, w1, hz, h1, h2⟩
    · exact q_dropX (ea_cons (ev_var rfl) ea_nil) fun H1 e1 => ⟨v, rfl, .inr ⟨d, da_ex e1 _ _ hd, q.ex e1⟩⟩
    refine q_dropX (ea_cons (ev_var rfl) ea_nil) fun H1 e1 => ⟨_, rfl, .inl ⟨q0, W, rfl, hW.ex e1, fun H2 e2 => ?_⟩⟩
    have e12 := e1.trans e2
    refine q_dropX (vs := [z, .int 1, .int 6]) (by walk_at "ea") fun H3 e3 => ⟨z, 1, 6, rfl, hz.ex (e12.trans e3), fun hy H4 e4 => ?_, fun hn => (h1 hn).ex (e12.trans e3)⟩
    have e14 := (e12.trans e3).trans e4
    obtain ⟨s, rfl, s1, s6⟩ := within16 hy
    obtain ⟨dxw, aT, aO, aD, rs, hob, _⟩ := (hW.ex e14).ob
    refine s_dropMP (P := fun vs H' => ∃ a, vs = [.int W.t, .int s, .ref a] ∧ SqT K H' a [.ref q0]) (ev_var rfl) (e14 _ _ hp) rfl (fun H5 e5 => ?_) fun vs H5 e5 ⟨a, hv, hT⟩ => ?_
    · exact (ap_cons (ev_fld (ev_var rfl) (e5 _ _ hob) T.cl_World T.n_World_tick rfl) (ap_cons (ev_var rfl) (ap_consU (eu_tup (ea_cons (ev_var rfl) ea_nil) (by show 1 ≤ 100000; decide)) ap_nil))).mono fun vs H6 ⟨_, h1, _, h2, t, _, h3, ht, h4⟩ => ⟨t, by rw [h1, h2, h3, h4], st_of ht⟩
    · subst hv
      exact ⟨p, dx, a, W.t, s, [.ref q0], [], rfl, (e14.trans e5) _ _ hp, .inl rfl, hT, by show 1 ≤ 1000; decide, by omega, w0, w1, fun H6 x6 h6 => h2 hy s rfl H6 ((Exd.of (e14.trans e5)).trans x6) h6⟩
theorem ok_ring_of (T : Txt K mg w) : FnOk P w K mg base (L2.CX P w) 6 T.a_ring_of T.fd_ring_of ["first", "spacing", "kept"] (spRingOf K T.C_World T.C_Ring) := by
  have G_Ring___init__ := ok_rinit (P := P) (w := w) (base := base) T
  have G_Ring__fill := ok_rfill (P := P) (w := w) (base := base) T
  refine T.F_ring_of.okX sc_ring_of (fun vs H Q E h => ?_) (fun cdv A outer s H vs Q E hr h => ?_)
  · obtain ⟨_, _, _, _, _, _, _, rfl, _⟩ := h; rfl
  · obtain ⟨aK, q0, W, f, s, ks, r, rfl, hT, hk, hW, w0, w1, s1, s6, f0, f1, hl, q⟩ := h
    refine ⟨_, (pss_cons (ps_set (i := 3) sc_ring_of.nd rfl (.inl rfl) (pe_makeK T.mk_Ring G_Ring___init__ (hr.mono (by decide)) (by rfl) T.g_Ring T.kb_Ring___init__ (passes_call (W := fun cls d _ H => E cls d H) (takes_of rfl rfl rfl rfl) (fun _ _ _ _ h => h)) (pa_cons (pe_ix ix_tup (pv 2) pe_int (fun _ _ => rfl)) pa_nil) (pk_cons (pv 1) pk_nil)))
  (pss_cons (ps_expr (pe_meth (pv 3) T.cl_Ring T.m_Ring__fill G_Ring__fill (hr.mono (by decide)) T.b_Ring__fill .nil pass0 (pa_cons (pv 0) (pa_cons (pv 1) (pa_cons (pv 2) pa_nil)))))
  (pss_one (ps_ret (pv 3))))), ?_⟩
    refine q_asgE (go_makeK (v := .ref q0) (z := .int s) (ea_cons (ev_op (ev_var rfl) ev_c (rv_ixT hT (by rw [hk]; exact atI_nat (j := 0) rfl))) ea_nil) (ea_cons (ev_var rfl) ea_nil) fun H1 x dx e1 hx eN => ⟨x, dx, .ref q0, .int s, rfl, upd_same, .inr ⟨q0, W, rfl, hW.ex (e1.trans eN), w0, w1, pl_int, fun hn => ?_, fun _ s' hs H2 x2 h2 => ⟨rfl, ?_⟩⟩⟩)
    · have : isWithin 1 6 (.int s) = true := by simp [isWithin, isIntV]; omega
      rw [this] at hn; cases hn
    cases hs
    obtain ⟨dx2, aK2, aW2, hob2, _⟩ := h2
    have n0 := fresh_back e1 hx
    have eX : Ex H H2 := x2.out (e1.trans eN) n0
    refine q_dropM (vs := [.int f, .int s, .ref aK]) (ev_var rfl) hob2 rfl (fun H3 e3 => by walk_at "ea") fun H3 e3 => ⟨x, dx2, aK, f, s, ks, _, rfl, e3 _ _ hob2, .inr ⟨_, _, _, _, _, rfl⟩, ex_t (eX.trans e3) hT, hl, by omega, f0, f1, fun H4 x4 h4 => ?_⟩
    exact s_ret (ev_var rfl) fun H5 e5 => q x H5 n0 ((x4.out (eX.trans e3) n0).trans e5) (h4.ex e5)
end
end Kz
set_option Elab.async false
set_option linter.all false
set_option maxRecDepth 100000
set_option maxHeartbeats 4000000
set_option exponentiation.threshold 500
namespace Kz
open PySem PySem.Spec PyProof.Rows L2 Evl Vr
local macro_rules | `(tactic| walk_at "sc") => `(tactic| first | (with_reducible assumption) | (with_reducible exact sc_mul (by omega)) | (with_reducible exact sc_mulr (by omega)) | (with_reducible exact sc_div (by omega) (by decide)) | (show (0 : Int) < _; omega) | (show _ ≠ (0 : Int); omega) | (with_reducible rfl) | decide)
local macro_rules | `(tactic| walk_at "sq") => `(tactic| first | assumption | exact sq_of (by assumption) | exact st_of (by assumption))
local macro_rules | `(tactic| walk_at "pl") => `(tactic| first | assumption | exact pl_int | exact pl_bl | exact pl_str | exact pl_non | exact pl_lst (by assumption) | exact pl_tup (by assumption) | exact pl_dK (by assumption))
local macro_rules | `(tactic| walk_at "rv") => `(tactic| first
  | with_reducible exact rv_I0
  | with_reducible exact ru_neg
  | ((with_reducible apply rv_I); walk_at "sc")
  | ((with_reducible apply rv_ixL); walk_at "sq"; first | rfl | assumption)
  | ((with_reducible apply rv_ixT); walk_at "sq"; first | rfl | assumption)
  | ((with_reducible apply rv_eq); rfl) | ((with_reducible apply rv_ne); rfl))
local macro_rules | `(tactic| walk_at "rc") => `(tactic| first
  | with_reducible exact rc_I1 | with_reducible exact rc_B1 | with_reducible exact rc_I2 | ((with_reducible apply rc_repr); walk_at "sc") | ((with_reducible apply rc_lenL); walk_at "sq")
  | ((with_reducible apply rc_isiInt); walk_at "pl") | ((with_reducible apply rc_isiBool); walk_at "pl"))
local macro_rules | `(tactic| walk_at "ea") => `(tactic| first
  | with_reducible exact ea_nil | ((with_reducible apply ea_cons); walk_at "ev"; walk_at "ea"))
local macro_rules | `(tactic| walk_at "pow") => `(tactic| first
  | with_reducible exact ev_pow (a := 10) (b := 9) (c := 1000000000) (by decide +kernel) (by decide +kernel)
  | with_reducible exact ev_pow (a := 10) (b := 10) (c := 10000000000) (by decide +kernel) (by decide +kernel)
  | with_reducible exact ev_pow (a := 10) (b := 12) (c := 1000000000000) (by decide +kernel) (by decide +kernel)
  | with_reducible exact ev_pow (a := 10) (b := 17) (c := 100000000000000000) (by decide +kernel) (by decide +kernel)
  | with_reducible exact ev_pow (a := 10) (b := 20) (c := 100000000000000000000) (by decide +kernel) (by decide +kernel)
  | with_reducible exact ev_pow (a := 10) (b := 29) (c := 100000000000000000000000000000) (by decide +kernel) (by decide +kernel)
  | with_reducible exact ev_pow (a := 10) (b := 30) (c := 1000000000000000000000000000000) (by decide +kernel) (by decide +kernel)
  | with_reducible exact ev_pow (a := 10) (b := 40) (c := 10000000000000000000000000000000000000000) (by decide +kernel) (by decide +kernel)
  | with_reducible exact ev_pow (a := 10) (b := 57) (c := 1000000000000000000000000000000000000000000000000000000000) (by decide +kernel) (by decide +kernel)
  | with_reducible exact ev_pow (a := 10) (b := 58) (c := 10000000000000000000000000000000000000000000000000000000000) (by decide +kernel) (by decide +kernel)
  | with_reducible exact ev_pow (a := 10) (b := 59) (c := 100000000000000000000000000000000000000000000000000000000000) (by decide +kernel) (by decide +kernel)
  | with_reducible exact ev_pow (a := 10) (b := 60) (c := 1000000000000000000000000000000000000000000000000000000000000) (by decide +kernel) (by decide +kernel))
local macro_rules | `(tactic| walk_at "call") => `(tactic| (intro H9 e9; first | exact ⟨_, rfl, rfl⟩ | exact ⟨_, _, rfl, rfl⟩ | exact ⟨_, _, _, rfl, rfl⟩ | exact ⟨_, rfl, by walk_at "pl", rfl⟩ | (refine ⟨_, _, _, rfl, ?_, rfl⟩; first | exact Plain.ex e9 (by assumption) | walk_at "pl") | (refine ⟨_, rfl, ?_, rfl⟩; first | exact Plain.ex e9 (by assumption) | walk_at "pl")))
local macro_rules | `(tactic| walk_at "ev") => `(tactic| first
  | with_reducible exact ev_c
  | exact ev_var rfl
  | walk_at "pow"
  | ((with_reducible apply ev_op); walk_at "ev"; walk_at "ev"; walk_at "rv")
  | ((with_reducible apply ev_un); walk_at "ev"; walk_at "rv")
  | ((with_reducible apply ev_cb); walk_at "ea"; walk_at "rc")
  | ((with_reducible apply ev_callP); walk_at "ea"; walk_at "call")
  | ((with_reducible apply ev_chain); walk_at "ev"; walk_at "ev"; walk_at "rv"; walk_at "ev"; walk_at "rv")
  | ((with_reducible apply ev_andV); walk_at "ev"; intro _; walk_at "ev")
  | ((with_reducible apply ev_orV); walk_at "ev"; intro _; walk_at "ev")
  | ((with_reducible apply ev_ite); walk_at "et"; intro _; walk_at "ev"; intro _; walk_at "ev")
  | ((with_reducible apply ev_notV); walk_at "ev"))
local macro_rules | `(tactic| walk_at "et") => `(tactic| first
  | ((with_reducible apply et_test); walk_at "ev")
  | ((with_reducible apply et_B); walk_at "ev")
  | ((with_reducible apply et_and); walk_at "et"; intro _; walk_at "et")
  | ((with_reducible apply et_or); walk_at "et"; intro _; walk_at "et")
  | ((with_reducible apply et_not); walk_at "et"))
open En Wo
section
variable {K : PySem.W.Frag} {H : Hp} {σ : L2.St} {te : TE} {ts tr : TA} {a : Addr} {xs ws : List V}
theorem ea_star (h : Ev te σ H (.ref a)) (hx : SqT K H a xs) (hr : EvA tr σ H ws) : EvA (StX.tStar K te tr) σ H (xs ++ ws) :=
  ea_of ((ap_starT h hx (ap_of hr)).mono fun vs H1 ⟨us, h1, h2⟩ => by rw [h1, h2])
end
section
variable {P : Program} {w : World} {K : PySem.W.Frag} {mg : Str → Option Value} {base : Heap}
theorem ok_back_to (T : Txt K mg w) : FnOk P w K mg base (L2.CX P w) 7 T.a_Ring_back_to T.fd_Ring_back_to ["self", "tick"] (spBadT K T.C_Ring T.C_IN) := by
  have G_Ring__need_tick := ok_need_tick (P := P) (w := w) (base := base) T
  have G_ring_of := ok_ring_of (P := P) (w := w) (base := base) T
  refine T.F_Ring_back_to.okX sc_Ring_back_to (fun vs H Q E h => ?_) (fun cdv A outer s H vs Q E hr h => ?_)
  · obtain ⟨_, _, _, _, _, rfl, _⟩ := h; rfl
  · obtain ⟨p, v, f, s, ks, rfl, hR, s1, s6, hp, hn, q⟩ := h
    refine ⟨_, (pss_cons (ps_expr (pe_meth (pv 0) T.cl_Ring T.m_Ring__need_tick G_Ring__need_tick (hr.mono (by decide)) T.b_Ring__need_tick .nil (passes_call (W := fun cls d _ H => E cls d H) (takes_of rfl rfl rfl rfl) (fun _ _ _ _ h => h)) (pa_cons (pv 1) pa_nil)))
  (pss_one (ps_ret (pe_call G_ring_of (hr.mono (by decide)) (by rfl) T.g_ring_of T.F_ring_of.kp T.b_ring_of .nil (passes_call (W := fun cls d _ H => E cls d H) (takes_of rfl rfl rfl rfl) (fun _ _ _ _ h => h)) (pa_cons (pe_fld (pv 0) rfl) (pa_cons (pe_fld (pv 0) rfl) (pa_cons (pe_slice sl_tupA (pe_fld (pv 0) rfl) po_none (po_some (pe_op op_add (pe_op op_sub (pv 1) (pe_fld (pv 0) rfl)) pe_int))) pa_nil))))))), ?_⟩
    obtain ⟨dx, aK, aW, hob, hT⟩ := hR.ob
    exact q_dropMX (ev_var rfl) hob rfl (ea_cons (ev_var rfl) ea_nil) fun H1 e1 => ⟨p, v, f, s, ks, rfl, hR.ex e1, hp.ex e1, fun hy => (by rw [hn] at hy; cases hy), fun _ => q.ex e1⟩
theorem ok_from_tick (T : Txt K mg w) : FnOk P w K mg base (L2.CX P w) 7 T.a_Ring_from_tick T.fd_Ring_from_tick ["self", "tick"] (spBadT K T.C_Ring T.C_IN) := by
  have G_Ring_work := ok_work (P := P) (w := w) (base := base) T
  have G_ring_of := ok_ring_of (P := P) (w := w) (base := base) T
  refine T.F_Ring_from_tick.okX sc_Ring_from_tick (fun vs H Q E h => ?_) (fun cdv A outer s H vs Q E hr h => ?_)
  · obtain ⟨_, _, _, _, _, rfl, _⟩ := h; rfl
  · obtain ⟨p, v, f, s, ks, rfl, hR, s1, s6, hp, hn, q⟩ := h
    refine ⟨_, (pss_cons (ps_set (i := 2) sc_Ring_from_tick.nd rfl (.inl rfl) (pe_op op_sub (pv 1) (pe_meth (pv 0) T.cl_Ring T.m_Ring_work G_Ring_work (hr.mono (by decide)) T.b_Ring_work .nil (passes_call (W := fun cls d _ H => E cls d H) (takes_of rfl rfl rfl rfl) (fun _ _ _ _ h => h)) (pa_cons (pv 1) pa_nil))))
  (pss_one (ps_ret (pe_call G_ring_of (hr.mono (by decide)) (by rfl) T.g_ring_of T.F_ring_of.kp T.b_ring_of .nil (passes_call (W := fun cls d _ H => E cls d H) (takes_of rfl rfl rfl rfl) (fun _ _ _ _ h => h)) (pa_cons (pv 2) (pa_cons (pe_fld (pv 0) rfl) (pa_cons (pe_slice sl_tupA (pe_fld (pv 0) rfl) (po_some (pe_op op_sub (pv 2) (pe_fld (pv 0) rfl))) po_none) pa_nil))))))), ?_⟩
    obtain ⟨dx, aK, aW, hob, hT⟩ := hR.ob
    refine q_asgE ((ev_var rfl) H (Ex.refl H) _ fun H1 e1 => go_meth (vs := [v]) (ev_var rfl) (e1 _ _ hob) rfl (ea_cons (ev_var rfl) ea_nil) fun H2 e2 => ⟨p, v, f, s, ks, rfl, hR.ex (e1.trans e2), s1, s6, hp.ex (e1.trans e2), fun t' ht hy' => ?_, fun _ => q.ex (e1.trans e2)⟩)
    rw [hn] at hy'; cases hy'
theorem ok_put (T : Txt K mg w) : FnOk P w K mg base (L2.CX P w) 7 T.a_Ring_put T.fd_Ring_put ["self", "world"] (spPut K T.C_World T.C_Ring T.C_WE T.C_OE) := by
  have G_need_world := ok_need_world (P := P) (w := w) (base := base) T
  have G_Ring__is_whole := ok_is_whole_t (P := P) (w := w) (base := base) T
  have G_Ring_world := ok_world_at (P := P) (w := w) (base := base) T
  have G_difference_of := ok_difference_of (P := P) (w := w) (base := base) T
  have G_ring_of := ok_ring_of (P := P) (w := w) (base := base) T
  refine T.F_Ring_put.okX sc_Ring_put (fun vs H Q E h => ?_) (fun cdv A outer s H vs Q E hr h => ?_)
  · obtain ⟨_, _, _, _, _, _, _, _, rfl, _⟩ := h; rfl
  · obtain ⟨p, q0, v, W0, f, s, ks, r, rfl, hR, hk, hW0, w0, w1, s1, s6, f0, f1, hl, h⟩ := h
    refine ⟨_, (pss_cons (ps_expr (pe_call G_need_world (hr.mono (by decide)) (by rfl) T.g_need_world T.F_need_world.kp T.b_need_world .nil (passes_call (W := fun cls d _ H => E cls d H) (takes_of rfl rfl rfl rfl) (fun _ _ _ _ h => h)) (pa_cons (pv 1) pa_nil)))
  (pss_cons (ps_if (pt_cmpR op_ne (pe_fld (pv 1) rfl) (pe_op op_add (pe_fld (pv 0) rfl) pe_int) (nomark _)) (pss_one (ps_raise (W := fun cls d _ H => E cls d H) rfl (takes_of rfl rfl rfl rfl) (pmk_own PySem.F.excBase_ValueError T.x_OE T.g_InvalidOperation T.k_OE (raises_own T.e_OE T.y_OE) (by rfl)))) pss_nil)
  (pss_cons (ps_set (i := 2) sc_Ring_put.nd rfl (.inl rfl) (pe_ifExp (pt_val (pe_meth (pv 0) T.cl_Ring T.m_Ring__is_whole G_Ring__is_whole (hr.mono (by decide)) T.b_Ring__is_whole .nil pass0 (pa_cons (pe_fld (pv 1) rfl) pa_nil))) (pv 1) (pe_call G_difference_of (hr.mono (by decide)) (by rfl) T.g_difference_of T.F_difference_of.kp T.b_difference_of .nil pass0 (pa_cons (pe_meth (pv 0) T.cl_Ring T.m_Ring_world G_Ring_world (hr.mono (by decide)) T.b_Ring_world .nil (passes_call (W := fun cls d _ H => E cls d H) (takes_of rfl rfl rfl rfl) (fun _ _ _ _ h => h)) (pa_cons (pe_fld (pv 0) rfl) pa_nil)) (pa_cons (pv 1) pa_nil)))))
  (pss_one (ps_ret (pe_call G_ring_of (hr.mono (by decide)) (by rfl) T.g_ring_of T.F_ring_of.kp T.b_ring_of .nil (passes_call (W := fun cls d _ H => E cls d H) (takes_of rfl rfl rfl rfl) (fun _ _ _ _ h => h)) (pa_cons (pe_fld (pv 0) rfl) (pa_cons (pe_fld (pv 0) rfl) (pa_cons (pe_tup (StX.pa_star (pe_fld (pv 0) rfl) (pa_cons (pv 2) pa_nil))) pa_nil))))))))), ?_⟩
    rcases h with ⟨d, hd, q⟩ | ⟨q1, W, rfl, hW, h⟩
    · exact q_dropX (ea_cons (ev_var rfl) ea_nil) fun H1 e1 => ⟨v, rfl, .inr ⟨d, da_ex e1 _ _ hd, q.ex e1⟩⟩
    refine q_dropX (ea_cons (ev_var rfl) ea_nil) fun H1 e1 => ⟨_, rfl, .inl ⟨q1, W, rfl, hW.at_.ex e1, fun H2 e2 => ?_⟩⟩
    have e12 := e1.trans e2
    obtain ⟨dx, aK, aW, hob, hT⟩ := (hR.ex e12).ob
    obtain ⟨dxw, aT, aO, aD, rs, hobw, _⟩ := (hW.at_.ex e12).ob
    rcases h with ⟨hne, q⟩ | ⟨he, hw, q⟩
    · exact q_when (b := true) (et_is (et_test (ev_op (ev_fld (ev_var rfl) hobw T.cl_World T.n_World_tick rfl) (ev_op (ev_fld (ev_var rfl) hob T.cl_Ring T.n_Ring_last rfl) ev_c rv_I0) (rv_ne rfl))) (by simp; omega)) (fun _ H3 e3 => q H3 (e12.trans e3)) fun h => by cases h
    refine q_when (b := false) (et_is (et_test (ev_op (ev_fld (ev_var rfl) hobw T.cl_World T.n_World_tick rfl) (ev_op (ev_fld (ev_var rfl) hob T.cl_Ring T.n_Ring_last rfl) ev_c rv_I0) (rv_ne rfl))) (by simp; omega)) (fun h => by cases h) fun _ H3 e3 => ?_
    have e13 := e12.trans e3
    have hob3 := e3 _ _ hob
    have hobw3 := e3 _ _ hobw
    have hT3 := ex_t e3 hT
    have fin : ∀ (u : V) (H4 : Hp), Ex H3 H4 → (wholeT f s W.t = true → u = .ref q1) → ∀ (H5 : Hp) (a : Addr), Ex H4 H5 → SqT K H5 a (ks ++ [u]) → spRingOf K T.C_World T.C_Ring [.int f, .int s, .ref a] H5 (fun v H' => Q v H') E := fun u H4 e4 hu H5 a e5 hT5 =>
      ⟨a, q0, W0, f, s, ks ++ [u], r ++ [u], rfl, hT5, by rw [hk]; rfl, hW0.ex ((e13.trans e4).trans e5), w0, w1, s1, s6, f0, f1, by rw [List.length_append]; show ks.length + 1 ≤ 1000; omega, fun p' H' n' e' h' => q p' u H' (fresh_back ((e13.trans e4).trans e5) n') (((e13.trans e4).trans e5).trans e') h' hu⟩
    have whl : ∀ (H5 : Hp), Ex H3 H5 → ∃ (p' dx : Addr) (fs : List (Str × V)) (f' s' t' : Int), [V.ref p, .int W.t] = [.ref p', .int t'] ∧ H5 p' = some (.ins T.C_Ring dx fs) ∧ fs.lookup ("first" : Str) = some (.int f') ∧ fs.lookup ("spacing" : Str) = some (.int s') ∧ 0 < s' ∧ V.bl (wholeT f s W.t) = .bl (wholeT f' s' t') := fun H5 e5 => ⟨p, dx, _, f, s, W.t, rfl, e5 _ _ hob3, rfl, rfl, by omega, rfl⟩
    by_cases hwt : wholeT f s W.t = true
    · refine q_asg (v := .ref q1) (ev_is (ev_ite (b := true) (v2 := .non) (et_is (et_B (ev_methP (vs := [.int W.t]) (ev_var rfl) hob3 rfl (ea_cons (ev_fld (ev_var rfl) hobw3 T.cl_World T.n_World_tick rfl) ea_nil) whl)) hwt) (fun _ => ev_var rfl) (fun h => by cases h)) rfl) fun H4 e4 => ?_
      have hob4 := e4 _ _ hob3
      refine s_retX (P := fun vs H' => ∃ a, vs = [.int f, .int s, .ref a] ∧ SqT K H' a (ks ++ [.ref q1])) ?_ fun vs H6 e6 ⟨a, hv, hT6⟩ => ?_
      · exact (ap_cons (ev_fld (ev_var rfl) hob4 T.cl_Ring T.n_Ring_first rfl) (ap_cons (ev_fld (ev_var rfl) hob4 T.cl_Ring T.n_Ring_spacing rfl) (ap_consU (eu_tup (ea_star (ev_fld (ev_var rfl) hob4 T.cl_Ring T.n_Ring_kept rfl) (ex_t e4 hT3) (ea_cons (ev_var rfl) ea_nil)) (by rw [List.length_append]; show ks.length + 1 ≤ 100000; omega)) ap_nil))).mono fun vs H6 ⟨_, h1, _, h2, t, _, h3, ht, h4⟩ => ⟨t, by rw [h1, h2, h3, h4], st_of ht⟩
      · subst hv
        exact fin _ H4 e4 (fun _ => rfl) H6 a e6 hT6
    · have hwf : wholeT f s W.t = false := by simpa using hwt
      obtain ⟨hwl, b, B, hb, hB⟩ := hw.resolve_left hwt
      have hB3 := hB.ex e13
      refine q_asgW2 (ew_ifF (d := (difOf B W).d) (et_is (et_B (ev_methP (vs := [.int W.t]) (ev_var rfl) hob3 rfl (ea_cons (ev_fld (ev_var rfl) hobw3 T.cl_World T.n_World_tick rfl) ea_nil) whl)) hwf) (ew_callD (vs := [.ref b, .ref q1]) (ea_cons (ev_methS (vs := [.int (f + (ks.length : Int) - 1)]) (ev_var rfl) hob3 rfl (ea_cons (ev_fld (ev_var rfl) hob3 T.cl_Ring T.n_Ring_last rfl) ea_nil) fun H4 e4 Q' q' => ?_) (ea_cons (ev_var rfl) ea_nil)) fun H4 e4 => ⟨b, q1, B, W, rfl, hB3.ex e4, hW.ex (e13.trans e4), rfl⟩)) fun u H4 e4 _ => ?_
      · have lpos : 0 < ks.length := by rw [hk]; exact Nat.succ_pos _
        refine ⟨p, .int (f + (ks.length : Int) - 1), f, s, ks, rfl, hR.ex (e13.trans e4), s1, s6, f0, f1, by omega, pl_int, fun t ht _ => ?_, fun hn => ?_⟩
        · cases ht
          refine ⟨hwl, .ref b, ?_, q'⟩
          rw [← hb]
          congr 1
          omega
        · simp only [isTick, Bool.and_eq_false_iff, decide_eq_false_iff_not] at hn
          omega
      · have hob4 := e4 _ _ hob3
        refine s_retX (P := fun vs H' => ∃ a, vs = [.int f, .int s, .ref a] ∧ SqT K H' a (ks ++ [u])) ?_ fun vs H6 e6 ⟨a, hv, hT6⟩ => ?_
        · exact (ap_cons (ev_fld (ev_var rfl) hob4 T.cl_Ring T.n_Ring_first rfl) (ap_cons (ev_fld (ev_var rfl) hob4 T.cl_Ring T.n_Ring_spacing rfl) (ap_consU (eu_tup (ea_star (ev_fld (ev_var rfl) hob4 T.cl_Ring T.n_Ring_kept rfl) (ex_t e4 hT3) (ea_cons (ev_var rfl) ea_nil)) (by rw [List.length_append]; show ks.length + 1 ≤ 100000; omega)) ap_nil))).mono fun vs H6 ⟨_, h1, _, h2, t, _, h3, ht, h4⟩ => ⟨t, by rw [h1, h2, h3, h4], st_of ht⟩
        · subst hv
          exact fin u H4 e4 (fun h => absurd h hwt) H6 a e6 hT6
end
end Kz
set_option Elab.async false
set_option linter.all false
set_option maxRecDepth 100000
set_option maxHeartbeats 4000000
set_option exponentiation.threshold 500
namespace Kz
open PySem PySem.Spec PyProof.Rows L2 Evl Vr
local macro_rules | `(tactic| walk_at "sc") => `(tactic| first | (with_reducible assumption) | (with_reducible exact sc_mul (by omega)) | (with_reducible exact sc_mulr (by omega)) | (with_reducible exact sc_div (by omega) (by decide)) | (show (0 : Int) < _; omega) | (show _ ≠ (0 : Int); omega) | (with_reducible rfl) | decide)
local macro_rules | `(tactic| walk_at "sq") => `(tactic| first | assumption | exact sq_of (by assumption) | exact st_of (by assumption))
local macro_rules | `(tactic| walk_at "pl") => `(tactic| first | assumption | exact pl_int | exact pl_bl | exact pl_str | exact pl_non | exact pl_lst (by assumption) | exact pl_tup (by assumption) | exact pl_dK (by assumption))
local macro_rules | `(tactic| walk_at "rv") => `(tactic| first
  | with_reducible exact rv_I0
  | with_reducible exact ru_neg
  | ((with_reducible apply rv_I); walk_at "sc")
  | ((with_reducible apply rv_ixL); walk_at "sq"; first | rfl | assumption)
  | ((with_reducible apply rv_ixT); walk_at "sq"; first | rfl | assumption)
  | ((with_reducible apply rv_eq); rfl) | ((with_reducible apply rv_ne); rfl))
local macro_rules | `(tactic| walk_at "rc") => `(tactic| first
  | with_reducible exact rc_I1 | with_reducible exact rc_B1 | with_reducible exact rc_I2 | ((with_reducible apply rc_repr); walk_at "sc") | ((with_reducible apply rc_lenL); walk_at "sq")
  | ((with_reducible apply rc_isiInt); walk_at "pl") | ((with_reducible apply rc_isiBool); walk_at "pl"))
local macro_rules | `(tactic| walk_at "ea") => `(tactic| first
  | with_reducible exact ea_nil | ((with_reducible apply ea_cons); walk_at "ev"; walk_at "ea"))
local macro_rules | `(tactic| walk_at "pow") => `(tactic| first
  | with_reducible exact ev_pow (a := 10) (b := 9) (c := 1000000000) (by decide +kernel) (by decide +kernel)
  | with_reducible exact ev_pow (a := 10) (b := 10) (c := 10000000000) (by decide +kernel) (by decide +kernel)
  | with_reducible exact ev_pow (a := 10) (b := 12) (c := 1000000000000) (by decide +kernel) (by decide +kernel)
  | with_reducible exact ev_pow (a := 10) (b := 17) (c := 100000000000000000) (by decide +kernel) (by decide +kernel)
  | with_reducible exact ev_pow (a := 10) (b := 20) (c := 100000000000000000000) (by decide +kernel) (by decide +kernel)
  | with_reducible exact ev_pow (a := 10) (b := 29) (c := 100000000000000000000000000000) (by decide +kernel) (by decide +kernel)
  | with_reducible exact ev_pow (a := 10) (b := 30) (c := 1000000000000000000000000000000) (by decide +kernel) (by decide +kernel)
  | with_reducible exact ev_pow (a := 10) (b := 40) (c := 10000000000000000000000000000000000000000) (by decide +kernel) (by decide +kernel)
  | with_reducible exact ev_pow (a := 10) (b := 57) (c := 1000000000000000000000000000000000000000000000000000000000) (by decide +kernel) (by decide +kernel)
  | with_reducible exact ev_pow (a := 10) (b := 58) (c := 10000000000000000000000000000000000000000000000000000000000) (by decide +kernel) (by decide +kernel)
  | with_reducible exact ev_pow (a := 10) (b := 59) (c := 100000000000000000000000000000000000000000000000000000000000) (by decide +kernel) (by decide +kernel)
  | with_reducible exact ev_pow (a := 10) (b := 60) (c := 1000000000000000000000000000000000000000000000000000000000000) (by decide +kernel) (by decide +kernel))
local macro_rules | `(tactic| walk_at "call") => `(tactic| (intro H9 e9; first | exact ⟨_, rfl, rfl⟩ | exact ⟨_, _, rfl, rfl⟩ | exact ⟨_, _, _, rfl, rfl⟩ | exact ⟨_, rfl, by walk_at "pl", rfl⟩ | (refine ⟨_, _, _, rfl, ?_, rfl⟩; first | exact Plain.ex e9 (by assumption) | walk_at "pl") | (refine ⟨_, rfl, ?_, rfl⟩; first | exact Plain.ex e9 (by assumption) | walk_at "pl")))
local macro_rules | `(tactic| walk_at "ev") => `(tactic| first
  | with_reducible exact ev_c
  | exact ev_var rfl
  | walk_at "pow"
  | ((with_reducible apply ev_op); walk_at "ev"; walk_at "ev"; walk_at "rv")
  | ((with_reducible apply ev_un); walk_at "ev"; walk_at "rv")
  | ((with_reducible apply ev_cb); walk_at "ea"; walk_at "rc")
  | ((with_reducible apply ev_callP); walk_at "ea"; walk_at "call")
  | ((with_reducible apply ev_chain); walk_at "ev"; walk_at "ev"; walk_at "rv"; walk_at "ev"; walk_at "rv")
  | ((with_reducible apply ev_andV); walk_at "ev"; intro _; walk_at "ev")
  | ((with_reducible apply ev_orV); walk_at "ev"; intro _; walk_at "ev")
  | ((with_reducible apply ev_ite); walk_at "et"; intro _; walk_at "ev"; intro _; walk_at "ev")
  | ((with_reducible apply ev_notV); walk_at "ev"))
local macro_rules | `(tactic| walk_at "et") => `(tactic| first
  | ((with_reducible apply et_test); walk_at "ev")
  | ((with_reducible apply et_B); walk_at "ev")
  | ((with_reducible apply et_and); walk_at "et"; intro _; walk_at "et")
  | ((with_reducible apply et_or); walk_at "et"; intro _; walk_at "et")
  | ((with_reducible apply et_not); walk_at "et"))
open LamX Wo En
/-- what repr tells of it -/
def Rq (K : PySem.W.Frag) (H : Hp) (v : V) (y : PyData) : Prop := Dq K H v y ∧ y.showable = true ∧ y.depth ≤ 60 ∧ y.shown.length ≤ sizeLine
theorem dq_xn {K : PySem.W.Frag} {H H' : Hp} {v : V} {d : PyData} (e : ExtN H H') (h : Dq K H v d) : Dq K H' v d := by
  rcases h with h | ⟨a, rfl, ha, rfl⟩
  · exact .inl (Dp.xn e _ _ h)
  · exact .inr ⟨a, rfl, e _ _ ha fun _ z => (by cases z), rfl⟩
theorem Rq.xn {K : PySem.W.Frag} {H H' : Hp} {v : V} {y : PyData} (e : ExtN H H') (h : Rq K H v y) : Rq K H' v y := ⟨dq_xn e h.1, h.2⟩
structure Cs where
  WE : Addr
  OE : Addr
  IN : Addr
  RE : Addr
def Plainly (w : Str) (cls : Value) (C : Addr) (Q : VK) (H' : Hp) : Prop := cls = .ref C ∧ ∀ t, H' t = none → Q (.ref t) (upd H' t (.tup [.str "refused", .str w]))
/-- what a call that is met makes: a tuple that tells how it ended -/
def TTmet (K : PySem.W.Frag) (C : Cs) : (XK → Hp → VK → Prop) → Hp → VK → Prop := fun tl H Q =>
  tl (fun cls d H' => Plainly "world" cls C.WE Q H' ∨ Plainly "operation" cls C.OE Q H' ∨
      (cls = .ref C.IN ∧ ∃ dd v y, d = some dd ∧ H' dd = some (.xd [("given", v)]) ∧ Rq K H' v y ∧ ∀ t, H' t = none → Q (.ref t) (upd H' t (.tup [.str "refused", .str "number", .str y.shown]))) ∨
      (cls = .ref C.RE ∧ ∃ dd v, d = some dd ∧ H' dd = some (.xd [("reason", v)]) ∧ ∀ t, H' t = none → Q (.ref t) (upd H' t (.tup [.str "refused", .str "reason", v])))) H
    (fun _ H' => [V.str "fine"].length ≤ sizeLine ∧ ∀ t, H' t = none → Q (.ref t) (upd H' t (.tup [.str "fine"])))
def csOf {K : PySem.W.Frag} {mg : Str → Option Value} {w : World} (T : Txt K mg w) : Cs := ⟨T.C_WE, T.C_OE, T.C_IN, T.C_RE⟩
theorem met_gives {X : Cx} (T : Txt X.K X.mg X.w) (gd : X.A.guards = some []) (hu : X.A.units + 100 < cLine) {cdg : Value} {q : Str} :
    GivesTo X ["call", "error"] "_law_met" (defScope s_law_met) T.a_law_met cdg (defBody s_law_met) "call" q (TTmet X.K (csOf T)) := by
  intro f c' s H Q tl act hc h
  have cr : ∀ (a : Addr) (oe : Obj) (pn : List (Addr × Obj)), CallR ((cxOf C8.CX0 X.prog X.w X.K X.mg X.base ["call", "error"] "_law_met" (defScope s_law_met) T.a_law_met cdg X.A X.stack s H C8.E0).nox.suite a ((a, oe) :: pn)) (.builtin "repr") (rReprQ X.K) := fun a oe pn => c_reprQ (X := (cxOf C8.CX0 X.prog X.w X.K X.mg X.base ["call", "error"] "_law_met" (defScope s_law_met) T.a_law_met cdg X.A X.stack s H C8.E0).nox.suite a ((a, oe) :: pn)) gd (by show X.A.units + 3 + 64 < cLine; omega)
  refine ⟨_, pss_cons (ps_try_cls (X := (cxOf C8.CX0 X.prog X.w X.K X.mg X.base ["call", "error"] "_law_met" (defScope s_law_met) T.a_law_met cdg X.A X.stack s H C8.E0).nox)
    (tb := fun W D σ H => ∃ Ech : XK, (∀ cls d σ' H', Ech cls d H' → W cls d σ' H') ∧ σ[0]? = some (some (.ref f)) ∧ H c' = some (CodeO c' q) ∧ tl Ech H (fun _ H' => D.nx σ H'))
    rfl rfl L2.takes0 (fun W pn xe tk _ => ?b)
    (.plain ⟨rfl, by decide, .inl T.g_InvalidWorld⟩ (fun a oe cls d pn _ _ => pss_one (ps_ret (pe_tup (pa_cons pe_str (pa_cons pe_str pa_nil)))))
      (.plain ⟨rfl, by decide, .inl T.g_InvalidOperation⟩ (fun a oe cls d pn _ _ => pss_one (ps_ret (pe_tup (pa_cons pe_str (pa_cons pe_str pa_nil)))))
        (.named (i := 1) ⟨rfl, by decide, .inl T.g_InvalidNumber⟩ sc_law_met.nd rfl rfl (fun a oe cls d pn hz hf => pss_one (ps_ret (pe_tup (pa_cons pe_str (pa_cons pe_str (pa_cons (pe_callB (cr a oe pn) (by rfl) T.z_repr (by decide +kernel) (pa_cons (pe_xf T.x_IN T.f_IN hz hf (pv 1)) pa_nil)) pa_nil))))))
          (.named (i := 1) ⟨rfl, by decide, .inl T.g_Refused⟩ sc_law_met.nd rfl rfl (fun a oe cls d pn hz hf => pss_one (ps_ret (pe_tup (pa_cons pe_str (pa_cons pe_str (pa_cons (pe_xf T.x_RE T.f_RE hz hf (pv 1)) pa_nil)))))) .nil)))))
    (pss_one (ps_ret (pe_tup (pa_cons pe_str pa_nil)))), ?_⟩
  case b =>
    refine ⟨fun pins s' σ H' D I h' => ?_⟩
    obtain ⟨Ech, hW, h1, h2, h3⟩ := h'
    exact (pss_one (ps_expr (act W pn xe Ech _ _ tk hW))).run pins s' σ H' D I ⟨h1, h2, h3⟩
  · refine ⟨_, fun cls d σ' H' hE => ?_, rfl, hc, h⟩
    have two : ([V.str "refused", V.str "x"] : List V).length ≤ sizeLine := sz_of (by show 2 ≤ 100000; decide)
    have three : ∀ {v : V}, ([V.str "refused", V.str "x", v] : List V).length ≤ sizeLine := fun {v} => sz_of (by show 3 ≤ 100000; decide)
    have no : ∀ {α : Prop}, false = true → α := fun z => by cases z
    rcases hE with ⟨rfl, k⟩ | ⟨rfl, k⟩ | ⟨rfl, dd, v, y, rfl, hd, hr, k⟩ | ⟨rfl, dd, v, rfl, hd, k⟩
    · exact ⟨true, T.m_WE_WE, fun _ a ha hl => ⟨two, k⟩, fun z => by cases z⟩
    · exact ⟨false, T.m_OE_WE, no, fun _ => ⟨true, T.m_OE_OE, fun _ a ha hl => ⟨two, k⟩, fun z => by cases z⟩⟩
    · exact ⟨false, T.m_IN_WE, no, fun _ => ⟨false, T.m_IN_OE, no, fun _ => ⟨true, T.m_IN_IN, fun _ a ha hl => ⟨.ref a, List.getElem?_set_self (by rw [hl]; show 1 < 2; decide), rfl, rfl, dd, _, v, rfl, hd, rfl, v, y, rfl, hr.1, hr.2.1, hr.2.2.1, hr.2.2.2, three, k⟩, fun z => by cases z⟩⟩⟩
    · exact ⟨false, T.m_RE_WE, no, fun _ => ⟨false, T.m_RE_OE, no, fun _ => ⟨false, T.m_RE_IN, no, fun _ => ⟨true, T.m_RE_RE, fun _ a ha hl => ⟨.ref a, List.getElem?_set_self (by rw [hl]; show 1 < 2; decide), rfl, rfl, dd, _, v, rfl, hd, rfl, three, k⟩, fun z => by cases z⟩⟩⟩⟩
theorem met_gives' {K : PySem.W.Frag} {mg : Str → Option Value} {w : World} (T : Txt K mg w) {A0 : Around} (gd : A0.guards = some []) (hu : A0.units + 100 < cLine) {X : Cx} (hX : X.K = K ∧ X.mg = mg ∧ X.w = w ∧ X.A = A0) {cdg : Value} {q : Str} :
    GivesTo X ["call", "error"] "_law_met" (defScope s_law_met) T.a_law_met cdg (defBody s_law_met) "call" q (TTmet K (csOf T)) := by
  obtain ⟨rfl, rfl, rfl, rfl⟩ := hX
  exact met_gives T gd hu
inductive Out where
  | world | oper | number (y : PyData) | reason (d : PyData) | fine
def outD : Out → PyData
  | .world => .tuple [.str "refused", .str "world"]
  | .oper => .tuple [.str "refused", .str "operation"]
  | .number y => .tuple [.str "refused", .str "number", .str y.shown]
  | .reason d => .tuple [.str "refused", .str "reason", d]
  | .fine => .tuple [.str "fine"]
def okO : Out → Bool
  | .reason d => nl d && nd d
  | _ => true
theorem nl_out {k : Out} (h : okO k = true) : nl (outD k) = true := by
  cases k with
  | reason d =>
    have h : (nl d && nd d) = true := h
    rw [Bool.and_eq_true] at h
    show (true && (true && (nl d && true))) = true
    rw [h.1]; rfl
  | _ => rfl
theorem nd_out {k : Out} (h : okO k = true) : nd (outD k) = true := by
  cases k with
  | reason d =>
    have h : (nl d && nd d) = true := h
    rw [Bool.and_eq_true] at h
    show (true && (true && (nd d && true))) = true
    rw [h.2]; rfl
  | _ => rfl
/-- how a call ends -/
def FailO (K : PySem.W.Frag) (C : Cs) (k : Out) (v : V) (Q : VK) (E : XK) (H : Hp) : Prop := match k with
  | .world => PErr C.WE E H
  | .oper => PErr C.OE E H
  | .number _ => FErr C.IN "given" v E H
  | .reason d => DErr K C.RE "reason" d E H
  | .fine => ∀ x H', Ex H H' → Q x H'
section
variable {K : PySem.W.Frag} {H H' : Hp}
mutual
theorem da_xn (e : ExtN H H') : ∀ (d : PyData) (x : V), Da K H x d → Da K H' x d
  | .none, _, h => by cases h; exact .non
  | .bool b, _, h => by cases h; exact .bl b
  | .int i, _, h => by cases h; exact .int i
  | .str x, _, h => by cases h; exact .str x
  | .list ds, _, h => by cases h with | lst h1 h2 => exact .lst (e _ _ h1 fun _ z => by cases z) (daa_xn e ds _ h2)
  | .tuple ds, _, h => by cases h with | tup h1 h2 => exact .tup (xn_t e h1) (daa_xn e ds _ h2)
  | .dict _, _, h => by cases h with | dic h1 => exact .dic (e _ _ h1 fun _ z => by cases z)
theorem daa_xn (e : ExtN H H') : ∀ (ds : List PyData) (xs : List V), DaAll K H xs ds → DaAll K H' xs ds
  | [], _, h => by cases h; exact .nil
  | d :: ds, _, h => by cases h with | cons h1 h2 => exact .cons (da_xn e d _ h1) (daa_xn e ds _ h2)
end
end
section
variable {σ : L2.St} {H : Hp} {TL : List (Addr × Str)} {K : PySem.W.Frag} {p : Addr} {D : Ends} {tz : TS} {ks : List Out} {xs : List V}
/-- nothing but a table stood there -/
def Nw (H : Hp) (l : Addr) : Prop := ∀ o, H l = some o → ∃ ps, o = .tbl ps
theorem nw_ex {l : Addr} {H1 : Hp} (e : Ex H H1) (h : H1 l = none) : Nw H l := fun o ho => by rw [e _ _ ho] at h; cases h
theorem nw_xn {l : Addr} {H1 : Hp} (e : ExtN H H1) (h : H1 l = none) : Nw H l := fun o ho => by
  by_cases z : ∃ ps, o = .tbl ps
  · exact z
  · rw [e _ _ ho fun ps w => z ⟨ps, w⟩] at h
    cases h
def toldD (ks : List Out) : List PyData := ks.map outD
theorem nls_told (h : ∀ k ∈ ks, okO k = true) : nls (toldD ks) = true := nls_of fun d hd => by
  obtain ⟨k, hk, rfl⟩ := List.mem_map.mp hd
  exact nl_out (h k hk)
theorem nds_told : ∀ {ks : List Out}, (∀ k ∈ ks, okO k = true) → nds (toldD ks) = true
  | [], _ => rfl
  | k :: ks, h => by
    show (nd (outD k) && nds (toldD ks)) = true
    rw [nd_out (h k (List.mem_cons_self ..)), nds_told fun x hx => h x (List.mem_cons_of_mem _ hx)]
    rfl
/-- te makes a new list of told tuples -/
def EvM (K : PySem.W.Frag) (TL : List (Addr × Str)) (te : TE) (σ : L2.St) (H : Hp) (ks : List Out) : Prop := ∀ Q : VK, (∀ l H2 vs, Nw H l → ExtN H H2 → Tabs TL H2 → H2 l = some (.lst vs) → DaAll K H2 vs (toldD ks) → Q (.ref l) H2) → te σ H Q
/-- tm meets a call that is told so -/
def Em (K : PySem.W.Frag) (TL : List (Addr × Str)) (tm : TE) (σ : L2.St) (H : Hp) (k : Out) : Prop := ∀ Q : VK, (∀ v H2, ExtN H H2 → Tabs TL H2 → Da K H2 v (outD k) → Q v H2) → tm σ H Q
theorem q_asgM {te : TE} {i : Nat} (h : EvM K TL te σ H ks) (k : ∀ l H2 vs, Nw H l → ExtN H H2 → Tabs TL H2 → H2 l = some (.lst vs) → DaAll K H2 vs (toldD ks) → tz D (σ.set i (some (.ref l))) H2) : tSeq (tAsg te (gName i)) tz D σ H := h _ k
/-- told = [..] -/
theorem em_lst1 {tm : TE} {k : Out} (hm : Em K TL tm σ H k) : EvM K TL (tLst (tCons tm tNil)) σ H [k] := fun Q q =>
  hm _ fun v H2 e2 t2 h2 => ⟨sz_of (by show 1 ≤ 100000; decide), fun l hl => q l _ [v] (nw_xn e2 hl) (e2.trans (xn_ex (Ex.new hl))) (t2.ext (Ex.new hl)) upd_same (.cons (da_ex (Ex.new hl) _ _ h2) .nil)⟩
/-- told.append(..) -/
theorem q_app {te tm : TE} {l : Addr} {vs : List V} {z : Out} (h : Ev te σ H (.ref l)) (hl : H l = some (.lst vs)) (hv : DaAll K H vs (toldD ks)) (hz : ks.length ≤ 1000) (ho : ∀ k ∈ ks ++ [z], okO k = true) (hm : ∀ H1, Ex H H1 → Em K TL tm σ H1 z)
    (k : ∀ H2 us, (∀ b o, H b = some o → b ≠ l → (∀ ps, o ≠ .tbl ps) → H2 b = some o) → Tabs TL H2 → H2 l = some (.lst us) → DaAll K H2 us (toldD (ks ++ [z])) → tz D σ H2) : tSeq (tDrop (tBM K "list" rAppend te (tCons tm tNil))) tz D σ H :=
  h H (Ex.refl H) _ fun H1 e1 => ⟨.inl ⟨rfl, _, sq_of (e1 _ _ hl)⟩, hm H1 e1 _ fun v H2 e2 t2 h2 => by
    have e := (xn_ex e1).trans e2
    have hl2 : H2 l = some (.lst vs) := e _ _ hl fun _ z => by cases z
    have l1 := hv.len
    have l2 : (toldD ks).length = ks.length := List.length_map ..
    have ap : DaAll K H2 (vs ++ [v]) (toldD (ks ++ [z])) := by
      have := (daa_xn e _ _ hv).app (.cons h2 .nil)
      unfold toldD at this ⊢
      rw [List.map_append]
      exact this
    refine ⟨l, vs, v, rfl, rfl, hl2, sz_lt (by omega), k _ _ (fun b o hb hn ho => by rw [upd_ne hn]; exact e _ _ hb ho) (fun q hq => ?_) upd_same (daa_lup hl2 _ _ (nls_told ho) ap)⟩
    obtain ⟨ps, h1, h3, h4⟩ := t2 q hq
    refine ⟨ps, by rw [upd_ne (fun z => by rw [z, hl2] at h1; cases h1)]; exact h1, h3, fun pos cv hc => ?_⟩
    obtain ⟨c, h5, h6⟩ := h4 pos cv hc
    exact ⟨c, h5, by rw [upd_ne (fun z => by rw [z, hl2] at h6; cases h6)]; exact h6⟩⟩
theorem Nw.back {l : Addr} {H1 : Hp} (e : ExtN H H1) (h : Nw H1 l) : Nw H l := fun o ho => by
  by_cases z : ∃ ps, o = .tbl ps
  · exact z
  · exact h o (e _ _ ho fun ps w => z ⟨ps, w⟩)
theorem keep_l {l : Addr} {H0 H1 : Hp} (nw : Nw H0 l) (e : ExtN H0 H) (k : ∀ b o, H b = some o → b ≠ l → (∀ ps, o ≠ .tbl ps) → H1 b = some o) : ExtN H0 H1 := fun b o hb ho => k b o (e b o hb ho) (fun z => by subst z; obtain ⟨ps, w⟩ := nw o hb; exact ho ps w) ho
theorem Tabs.xd {p : Addr} {H1 : Hp} (e : Exd p H H1) (d : Dice p H) (h : Tabs TL H) : Tabs TL H1 := fun q hq => by
  obtain ⟨a, b, c, hd⟩ := d
  obtain ⟨ps, h1, h2, h3⟩ := h q hq
  refine ⟨ps, e _ _ (fun z => by rw [z, hd] at h1; cases h1) h1, h2, fun pos cv hc => ?_⟩
  obtain ⟨x, h4, h5⟩ := h3 pos cv hc
  exact ⟨x, h4, e _ _ (fun z => by rw [z, hd] at h5; cases h5) h5⟩
theorem dq_ex {v : V} {y : PyData} {H H' : Hp} (e : Ex H H') (h : Dq K H v y) : Dq K H' v y := dq_xn (xn_ex e) h
theorem rc_reprQ {v : V} {y : PyData} (h : Rq K H v y) : RC (rReprQ K) [v] H (.str y.shown) := fun H1 e Q q => ⟨v, y, rfl, dq_ex e h.1, h.2.1, h.2.2.1, h.2.2.2, q H1 (Ex.refl H1)⟩
/-- a call that ends so is told -/
theorem em_of {C : Cs} {k : Out} {v : V} {t : XK → TE} (hT : Tabs TL H) (h : ∀ (E : XK) H1 (Q' : VK), ExtN H H1 → (∀ H2, Ex H1 H2 → FailO K C k v Q' E H2) → t E σ H1 Q') (hy : ∀ y, k = .number y → Rq K H v y) : Em K TL (tLam TL (TTmet K C) t) σ H k := fun Q q => by
  refine ⟨hT, fun H1 e1 t1 => ?_⟩
  refine h _ H1 _ e1 fun H2 e2 => ?_
  have fin : ∀ H3, Ex H2 H3 → ∀ (xs : List V) t, H3 t = none → Tabs TL (upd H3 t (.tup xs)) ∧ ExtN H (upd H3 t (.tup xs)) ∧ SqT K (upd H3 t (.tup xs)) t xs := fun H3 e3 xs t ht => by
    have e5 : Ex H1 (upd H3 t (.tup xs)) := (e2.trans e3).trans (Ex.new ht)
    exact ⟨t1.ext e5, e1.trans (xn_ex e5), st_of upd_same⟩
  cases k with
  | world => exact fun H3 e3 => .inl ⟨rfl, fun t ht => by obtain ⟨a, b, c⟩ := fin H3 e3 _ t ht; exact q _ _ b a (.tup c (.cons (.str _) (.cons (.str _) .nil)))⟩
  | oper => exact fun H3 e3 => .inr (.inl ⟨rfl, fun t ht => by obtain ⟨a, b, c⟩ := fin H3 e3 _ t ht; exact q _ _ b a (.tup c (.cons (.str _) (.cons (.str _) .nil)))⟩)
  | number y =>
    exact fun d H3 e3 hd => .inr (.inr (.inl ⟨rfl, d, v, y, rfl, hd, ((hy y rfl).xn e1).xn (xn_ex (e2.trans e3)), fun t ht => by obtain ⟨a, b, c⟩ := fin H3 e3 _ t ht; exact q _ _ b a (.tup c (.cons (.str _) (.cons (.str _) (.cons (.str _) .nil))))⟩))
  | reason dt =>
    exact fun u d H3 e3 hd hu => .inr (.inr (.inr ⟨rfl, d, u, rfl, hd, fun t ht => by obtain ⟨a, b, c⟩ := fin H3 e3 _ t ht; exact q _ _ b a (.tup c (.cons (.str _) (.cons (.str _) (.cons (da_ex (Ex.new ht) _ _ hu) .nil))))⟩))
  | fine => exact fun x H3 e3 => ⟨sz_of (by show 1 ≤ 100000; decide), fun t ht => by obtain ⟨a, b, c⟩ := fin H3 e3 _ t ht; exact q _ _ b a (.tup c (.cons (.str _) .nil))⟩
theorem evd_told {te : TE} {l : Addr} {vs : List V} (h : Ev te σ H (.ref l)) (hl : H l = some (.lst vs)) (hv : DaAll K H vs (toldD ks)) (ho : ∀ k ∈ ks, okO k = true) : EvD K te σ H (.list (toldD ks)) :=
  evd_of h fun H1 e1 => .lst (sq_of (e1 _ _ hl)) (daa_dp _ _ (nds_told ho) (daa_ex e1 _ _ hv))
end
end Kz
set_option Elab.async false
set_option linter.all false
set_option maxRecDepth 100000
set_option maxHeartbeats 4000000
set_option exponentiation.threshold 500
namespace Kz
open PySem PySem.Spec PyProof.Rows L2 Evl Vr
local macro_rules | `(tactic| walk_at "sc") => `(tactic| first | (with_reducible assumption) | (with_reducible exact sc_mul (by omega)) | (with_reducible exact sc_mulr (by omega)) | (with_reducible exact sc_div (by omega) (by decide)) | (show (0 : Int) < _; omega) | (show _ ≠ (0 : Int); omega) | (with_reducible rfl) | decide)
local macro_rules | `(tactic| walk_at "sq") => `(tactic| first | assumption | exact sq_of (by assumption) | exact st_of (by assumption))
local macro_rules | `(tactic| walk_at "pl") => `(tactic| first | assumption | exact pl_int | exact pl_bl | exact pl_str | exact pl_non | exact pl_lst (by assumption) | exact pl_tup (by assumption) | exact pl_dK (by assumption))
local macro_rules | `(tactic| walk_at "rv") => `(tactic| first
  | with_reducible exact rv_I0
  | with_reducible exact ru_neg
  | ((with_reducible apply rv_I); walk_at "sc")
  | ((with_reducible apply rv_ixL); walk_at "sq"; first | rfl | assumption)
  | ((with_reducible apply rv_ixT); walk_at "sq"; first | rfl | assumption)
  | ((with_reducible apply rv_eq); rfl) | ((with_reducible apply rv_ne); rfl))
local macro_rules | `(tactic| walk_at "rc") => `(tactic| first
  | with_reducible exact rc_I1 | with_reducible exact rc_B1 | with_reducible exact rc_I2 | ((with_reducible apply rc_repr); walk_at "sc") | ((with_reducible apply rc_lenL); walk_at "sq")
  | ((with_reducible apply rc_isiInt); walk_at "pl") | ((with_reducible apply rc_isiBool); walk_at "pl"))
local macro_rules | `(tactic| walk_at "ea") => `(tactic| first
  | with_reducible exact ea_nil | ((with_reducible apply ea_cons); walk_at "ev"; walk_at "ea"))
local macro_rules | `(tactic| walk_at "pow") => `(tactic| first
  | with_reducible exact ev_pow (a := 10) (b := 9) (c := 1000000000) (by decide +kernel) (by decide +kernel)
  | with_reducible exact ev_pow (a := 10) (b := 10) (c := 10000000000) (by decide +kernel) (by decide +kernel)
  | with_reducible exact ev_pow (a := 10) (b := 12) (c := 1000000000000) (by decide +kernel) (by decide +kernel)
  | with_reducible exact ev_pow (a := 10) (b := 17) (c := 100000000000000000) (by decide +kernel) (by decide +kernel)
  | with_reducible exact ev_pow (a := 10) (b := 20) (c := 100000000000000000000) (by decide +kernel) (by decide +kernel)
  | with_reducible exact ev_pow (a := 10) (b := 29) (c := 100000000000000000000000000000) (by decide +kernel) (by decide +kernel)
  | with_reducible exact ev_pow (a := 10) (b := 30) (c := 1000000000000000000000000000000) (by decide +kernel) (by decide +kernel)
  | with_reducible exact ev_pow (a := 10) (b := 40) (c := 10000000000000000000000000000000000000000) (by decide +kernel) (by decide +kernel)
  | with_reducible exact ev_pow (a := 10) (b := 57) (c := 1000000000000000000000000000000000000000000000000000000000) (by decide +kernel) (by decide +kernel)
  | with_reducible exact ev_pow (a := 10) (b := 58) (c := 10000000000000000000000000000000000000000000000000000000000) (by decide +kernel) (by decide +kernel)
  | with_reducible exact ev_pow (a := 10) (b := 59) (c := 100000000000000000000000000000000000000000000000000000000000) (by decide +kernel) (by decide +kernel)
  | with_reducible exact ev_pow (a := 10) (b := 60) (c := 1000000000000000000000000000000000000000000000000000000000000) (by decide +kernel) (by decide +kernel))
local macro_rules | `(tactic| walk_at "call") => `(tactic| (intro H9 e9; first | exact ⟨_, rfl, rfl⟩ | exact ⟨_, _, rfl, rfl⟩ | exact ⟨_, _, _, rfl, rfl⟩ | exact ⟨_, rfl, by walk_at "pl", rfl⟩ | (refine ⟨_, _, _, rfl, ?_, rfl⟩; first | exact Plain.ex e9 (by assumption) | walk_at "pl") | (refine ⟨_, rfl, ?_, rfl⟩; first | exact Plain.ex e9 (by assumption) | walk_at "pl")))
local macro_rules | `(tactic| walk_at "ev") => `(tactic| first
  | with_reducible exact ev_c
  | exact ev_var rfl
  | walk_at "pow"
  | ((with_reducible apply ev_op); walk_at "ev"; walk_at "ev"; walk_at "rv")
  | ((with_reducible apply ev_un); walk_at "ev"; walk_at "rv")
  | ((with_reducible apply ev_cb); walk_at "ea"; walk_at "rc")
  | ((with_reducible apply ev_callP); walk_at "ea"; walk_at "call")
  | ((with_reducible apply ev_chain); walk_at "ev"; walk_at "ev"; walk_at "rv"; walk_at "ev"; walk_at "rv")
  | ((with_reducible apply ev_andV); walk_at "ev"; intro _; walk_at "ev")
  | ((with_reducible apply ev_orV); walk_at "ev"; intro _; walk_at "ev")
  | ((with_reducible apply ev_ite); walk_at "et"; intro _; walk_at "ev"; intro _; walk_at "ev")
  | ((with_reducible apply ev_notV); walk_at "ev"))
local macro_rules | `(tactic| walk_at "et") => `(tactic| first
  | ((with_reducible apply et_test); walk_at "ev")
  | ((with_reducible apply et_B); walk_at "ev")
  | ((with_reducible apply et_and); walk_at "et"; intro _; walk_at "et")
  | ((with_reducible apply et_or); walk_at "et"; intro _; walk_at "et")
  | ((with_reducible apply et_not); walk_at "et"))
open LamX Wo En
/-! ### what stays -/
def Ke (H H' : Hp) : Prop := ∀ b o, H b = some o → (∀ ps, o ≠ .tbl ps) → (∀ xs, o ≠ .lst xs) → H' b = some o
theorem ke_xn {H H' : Hp} (e : ExtN H H') : Ke H H' := fun b o h1 h2 _ => e b o h1 h2
theorem ke_xd {p : Addr} {H H' : Hp} (e : Exd p H H') (d : Dice p H) : Ke H H' := fun b o h1 _ h3 => e b o (fun z => by
  subst z
  obtain ⟨x, y, z, hp⟩ := d
  rw [hp] at h1
  cases h1
  exact h3 _ rfl) h1
theorem Ke.trans {H H1 H2 : Hp} (e1 : Ke H H1) (e2 : Ke H1 H2) : Ke H H2 := fun b o h1 h2 h3 => e2 b o (e1 b o h1 h2 h3) h2 h3
section
variable {K : PySem.W.Frag} {H H' : Hp} {C p : Addr} {W : Wd}
theorem ke_t {a : Addr} {xs : List V} (e : Ke H H') (h : SqT K H a xs) : SqT K H' a xs := by
  rcases h with (h | ⟨o, h⟩) | h
  · exact .inl (.inl (e _ _ h (fun _ z => by cases z) (fun _ z => by cases z)))
  · exact .inl (.inr ⟨o, e _ _ h (fun _ z => by cases z) (fun _ z => by cases z)⟩)
  · exact .inr h
theorem RsAt.ke {rs : List Addr} {ts : List Tg} (e : Ke H H') (h : RsAt K H rs ts) : RsAt K H' rs ts := ⟨h.1, fun i r t a b => by
  obtain ⟨rn, h1, h2⟩ := h.2 i r t a b
  exact ⟨rn, ke_t e h1, ke_t e h2⟩⟩
theorem WdAt.ke (e : Ke H H') (h : WdAt K C H p W) : WdAt K C H' p W := by
  obtain ⟨rs, aT, aO, aD, ⟨dx, h1⟩, h2, h3, h4, h5⟩ := h
  exact ⟨rs, aT, aO, aD, ⟨dx, e _ _ h1 (fun _ z => by cases z) (fun _ z => by cases z)⟩, ke_t e h2, h3.ke e, ke_t e h4, e _ _ h5 (fun _ z => by cases z) (fun _ z => by cases z)⟩
theorem WkAt.ke (e : Ke H H') (h : WkAt K C H p W) : WkAt K C H' p W := ⟨h.at_.ke e, h.few, h.short, h.nd⟩
theorem RgAt.ke {f s : Int} {ks : List V} (e : Ke H H') (h : RgAt K C H p f s ks) : RgAt K C H' p f s ks := by
  obtain ⟨dx, aK, aW, h1, h2⟩ := h
  exact ⟨dx, aK, aW, e _ _ h1 (fun _ z => by cases z) (fun _ z => by cases z), ke_t e h2⟩
end
/-! ### data through draws -/
def noI3 : List PyData → Bool
  | [.int _, .int _, .int _] => false
  | _ => true
mutual
/-- no list of three ints stands in it -/
def n3 : PyData → Bool
  | .list ds => noI3 ds && n3s ds
  | .tuple ds => n3s ds
  | _ => true
def n3s : List PyData → Bool
  | [] => true
  | d :: ds => n3 d && n3s ds
end
section
variable {K : PySem.W.Frag} {H H' : Hp} {p : Addr}
theorem sqt_xd {a : Addr} {xs : List V} (e : Exd p H H') (dc : Dice p H) (h : SqT K H a xs) : SqT K H' a xs := ke_t (ke_xd e dc) h
mutual
theorem da_xd (e : Exd p H H') (dc : Dice p H) : ∀ (d : PyData) (x : V), n3 d = true → Da K H x d → Da K H' x d
  | .none, _, _, h => by cases h; exact .non
  | .bool b, _, _, h => by cases h; exact .bl b
  | .int i, _, _, h => by cases h; exact .int i
  | .str x, _, _, h => by cases h; exact .str x
  | .list ds, _, n, h => by
    have n : (noI3 ds && n3s ds) = true := n
    rw [Bool.and_eq_true] at n
    cases h with
    | lst h1 h2 =>
      refine .lst (e _ _ (fun q => ?_) h1) (daa_xd e dc ds _ n.2 h2)
      subst q
      obtain ⟨x, y, z, hp⟩ := dc
      rw [hp] at h1
      cases h1
      cases h2 with
      | cons g1 g2 =>
        cases g2 with
        | cons g2 g3 =>
          cases g3 with
          | cons g3 g4 =>
            cases g4; cases g1; cases g2; cases g3
            exact absurd n.1 (by simp [noI3])
  | .tuple ds, _, n, h => by cases h with | tup h1 h2 => exact .tup (sqt_xd e dc h1) (daa_xd e dc ds _ n h2)
  | .dict _, _, _, h => by
    cases h with
    | dic h1 =>
      refine .dic (e _ _ (fun q => ?_) h1)
      subst q
      obtain ⟨x, y, z, hp⟩ := dc
      rw [hp] at h1
      cases h1
theorem daa_xd (e : Exd p H H') (dc : Dice p H) : ∀ (ds : List PyData) (xs : List V), n3s ds = true → DaAll K H xs ds → DaAll K H' xs ds
  | [], _, _, h => by cases h; exact .nil
  | d :: ds, _, n, h => by
    have n : (n3 d && n3s ds) = true := n
    rw [Bool.and_eq_true] at n
    cases h with | cons h1 h2 => exact .cons (da_xd e dc d _ n.1 h1) (daa_xd e dc ds _ n.2 h2)
end
variable {σ : L2.St} {te tl tm tb to : TE} {ta tr ts : TA} {D : Ends} {tz : TS} {d : PyData} {ds es : List PyData} {v : V} {l : Addr} {xs : List V} {E : XK}
/-- x = pick(dice, a new list of data) -/
theorem go_pick {i : Nat} (hs : σ[i]? = some (some (.ref p))) (hn : EvN K tl σ H ds) (hd : Dice p H) (l0 : 0 < ds.length) (l1 : ds.length < 1000000) (n : n3s ds = true) {Q : VK} (k : ∀ v H1 d, d ∈ ds → Da K H1 v d → Exd p H H1 → Dice p H1 → Q v H1) : tCall (Draws (kPick K)) [] E (tCons (tVar i) (tCons tl tNil)) σ H Q :=
  ⟨.ref p, hs, hn H (Ex.refl H) _ fun l xs H1 hl e1 h1 hda => ⟨p, _, ⟨l, xs, rfl, hd.ne hl, sq_of h1, by rw [hda.len]; exact l0, by rw [hda.len]; exact l1, rfl⟩, hd.ex e1, fun v H2 hv x2 d2 => by
    obtain ⟨j, hj⟩ := List.getElem?_of_mem hv
    obtain ⟨d, hdj, hdv⟩ := (daa_xd x2 (hd.ex e1) _ _ n hda).at hj
    exact k v H2 d (List.mem_of_getElem? hdj) hdv ((Exd.of e1).trans x2) d2⟩⟩
theorem q_pick {i j : Nat} (hs : σ[i]? = some (some (.ref p))) (hn : EvN K tl σ H ds) (hd : Dice p H) (l0 : 0 < ds.length) (l1 : ds.length < 1000000) (n : n3s ds = true) (k : ∀ v H1 d, d ∈ ds → Da K H1 v d → Exd p H H1 → Dice p H1 → tz D (σ.set j (some v)) H1) : tSeq (tAsg (tCall (Draws (kPick K)) [] E (tCons (tVar i) (tCons tl tNil))) (gName j)) tz D σ H := go_pick hs hn hd l0 l1 n k
/-- a, b = .., .. -/
theorem q_two {i j : Nat} {A : V → Hp → Prop} {B : V → Hp → V → Hp → Prop} (ha : ∀ Q : VK, (∀ v H1, A v H1 → Q v H1) → te σ H Q) (hb : ∀ v H1, A v H1 → ∀ Q : VK, (∀ u H2, B v H1 u H2 → Q u H2) → tb σ H1 Q) (k : ∀ v H1 u H2 H3, A v H1 → B v H1 u H2 → Ex H2 H3 → tz D ((σ.set i (some v)).set j (some u)) H3) :
    tSeq (tAsg (tTup (tCons te (tCons tb tNil))) (gTup K 2 (gCons (gName i) (gCons (gName j) gNil)))) tz D σ H :=
  ha _ fun v H1 a1 => hb v H1 a1 _ fun u H2 b2 => ⟨by show 2 ≤ sizeLine; decide, fun t ht => ⟨t, [v, u], rfl, st_of upd_same, rfl, v, [u], rfl, u, [], rfl, rfl, k v H1 u H2 _ a1 b2 (Ex.new ht)⟩⟩
theorem ew_var {i : Nat} (hs : σ[i]? = some (some v)) (hd : Da K H v d) : EvDt K (tVar i) σ H d := ew_ev (ev_var hs) fun _ e => da_ex e _ _ hd
theorem go_methP {m : Str} {C a dx : Addr} {fs : List (Str × V)} {P : List V → Hp → Prop} {sp : Sp} {Q : VK} (h : Ev to σ H (.ref a)) (ho : H a = some (.ins C dx fs)) (hl : fs.lookup m = none) (ha : EvAP ts σ H P) (k : ∀ vs H1, Ex H H1 → P vs H1 → sp (.ref a :: vs) H1 Q E) : tMeth C m sp [] E to ts σ H Q :=
  h H (Ex.refl H) _ fun H2 e2 => ⟨a, dx, fs, rfl, e2 _ _ ho, hl, ha H2 e2 _ fun vs H3 e3 p => by
    rw [List.append_nil]
    exact k vs H3 (e2.trans e3) p⟩
variable {TL : List (Addr × Str)} {C : Cs} {k : Out} {P : List V → Hp → Prop} {sp : Sp}
/-- a call in a lambda -/
theorem em_call (hT : Tabs TL H) (ha : ∀ H1, ExtN H H1 → EvAP ts σ H1 P) (hsp : ∀ vs (E : XK) H1 (Q' : VK), ExtN H H1 → P vs H1 → FailO K C k v Q' E H1 → sp vs H1 Q' E) (hy : ∀ y, k = .number y → Rq K H v y) :
    Em K TL (tLam TL (TTmet K C) fun E => tCall sp [] E ts) σ H k := em_of hT (fun E H1 Q' e1 hf => ha H1 e1 H1 (Ex.refl H1) _ fun vs H2 e2 hp => by
  show sp (vs ++ []) H2 Q' E
  rw [List.append_nil]
  exact hsp vs E H2 Q' (e1.trans (xn_ex e2)) hp (hf H2 e2)) hy
/-- lists of data, new or not -/
def EvE (K : PySem.W.Frag) (te : TE) (σ : L2.St) (H : Hp) (ds : List PyData) : Prop := ∀ H1, Ex H H1 → ∀ Q : VK, (∀ l xs H2, Ex H1 H2 → H2 l = some (.lst xs) → DaAll K H2 xs ds → Q (.ref l) H2) → te σ H1 Q
theorem en_e (h : EvN K te σ H ds) : EvE K te σ H ds := fun H1 e Q q => h H1 e Q fun l xs H2 _ => q l xs H2
theorem ee_var {i : Nat} (hs : σ[i]? = some (some (.ref l))) (hl : H l = some (.lst xs)) (hv : DaAll K H xs ds) : EvE K (tVar i) σ H ds := fun H1 e Q q => ⟨.ref l, hs, q l xs H1 (Ex.refl H1) (e _ _ hl) (daa_ex e _ _ hv)⟩
theorem DaAll.rep (h : DaAll K H xs ds) : ∀ n : Nat, DaAll K H (List.replicate n xs).flatten (List.replicate n ds).flatten
  | 0 => .nil
  | n + 1 => by
    rw [List.replicate_succ, List.replicate_succ, List.flatten_cons, List.flatten_cons]
    exact h.app (h.rep n)
theorem en_rep {n : Nat} (h : EvE K te σ H ds) (hn : Ev tb σ H (.int (n : Int))) (hl : ds.length ≤ 100) (h1 : 1 ≤ n) (h2 : n ≤ 100) : EvN K (tOp rRep te tb) σ H (List.replicate n ds).flatten := fun H1 e Q q =>
  h H1 e _ fun p vs H2 e2 hp hv => hn H2 (e.trans e2) _ fun H3 e3 => by
    have hlen := hv.len
    exact ⟨p, (n : Int), vs, rfl, rfl, e3 _ _ hp, by omega, by omega, (by
      rw [Int.toNat_natCast]
      have : vs.length * n ≤ 100 * 100 := Nat.mul_le_mul (by omega) h2
      exact sz_of (by omega)), fun l hl => by
      rw [Int.toNat_natCast]
      exact q l _ _ (fresh_back (e2.trans e3) hl) ((e2.trans e3).trans (Ex.new hl)) upd_same ((daa_ex (e3.trans (Ex.new hl)) _ _ hv).rep n)⟩
theorem en_cat2 (h1 : EvE K te σ H ds) (h2 : EvE K tb σ H es) (z1 : ds.length ≤ 1000) (z2 : es.length ≤ 1000) : EvN K (tOp rCat te tb) σ H (ds ++ es) := fun H1 e Q q =>
  h1 H1 e _ fun p vs H2 e2 hp hv => h2 H2 (e.trans e2) _ fun r us H3 e3 hr hu => by
    have l1 := hv.len
    have l2 := hu.len
    exact ⟨p, r, vs, us, rfl, rfl, e3 _ _ hp, hr, sz_of (by omega), fun l hl => q l _ _ (fresh_back (e2.trans e3) hl) ((e2.trans e3).trans (Ex.new hl)) upd_same ((daa_ex (e3.trans (Ex.new hl)) _ _ hv).app (daa_ex (Ex.new hl) _ _ hu))⟩
theorem evd_ee (h : EvE K te σ H ds) (n : nds ds = true) : EvD K te σ H (.list ds) := fun H1 e Q q => h H1 e _ fun l xs H2 e2 hl hv => q _ _ e2 (.lst (sq_of hl) (daa_dp _ _ n hv))
end
/-! ### what is told of it -/
def ndq : PyData → Bool
  | .dict [] => true
  | d => nd d
def rqD (d : PyData) : Bool := ndq d && (d.showable && (decide (d.depth ≤ 60) && decide (d.shown.length ≤ 100000)))
def tickD (f : Int) (n : Nat) : PyData → Bool
  | .int t => decide (f ≤ t) && decide (t ≤ f + (n : Int) - 1)
  | _ => false
section
variable {K : PySem.W.Frag} {H H' : Hp} {v : V} {d : PyData}
theorem Da.dq (h : Da K H v d) (hn : ndq d = true) : Dq K H v d := by
  cases d with
  | dict l =>
    cases l with
    | nil =>
      cases h with
      | dic h => exact .inr ⟨_, rfl, h, rfl⟩
    | cons a l => cases hn
  | _ => exact .inl (da_dp _ _ hn h)
theorem Da.rq (h : Da K H v d) (hn : rqD d = true) : Rq K H v d := by
  simp only [rqD, Bool.and_eq_true, decide_eq_true_eq] at hn
  exact ⟨h.dq hn.1, hn.2.1, hn.2.2.1, Nat.le_trans hn.2.2.2 (by decide)⟩
theorem Da.tick {f : Int} {n : Nat} (h : Da K H v d) : isTick f n v = tickD f n d := by cases h <;> rfl
variable {σ : L2.St} {ts : TA} {te : TE} {C : Addr} {W : Wd} {E : XK}
theorem ap_world (h : EaDt K ts σ H [.int W.t, .int W.n, .int W.l, .tuple (W.ts.map tgD)]) : EvAP ts σ H (fun vs H' => ∃ aT, vs = [.int W.t, .int W.n, .int W.l, .ref aT] ∧ TsAt K H' aT W.ts) := fun H1 e Q q => h H1 e _ fun vs H2 e2 hd => q vs H2 e2 (by
  obtain ⟨v1, vs, rfl, h1, hd⟩ : ∃ v1 vs', vs = v1 :: vs' ∧ Da K H2 v1 (.int W.t) ∧ DaAll K H2 vs' [.int W.n, .int W.l, .tuple (W.ts.map tgD)] := by cases hd with | cons a b => exact ⟨_, _, rfl, a, b⟩
  obtain ⟨v2, vs, rfl, h2, hd⟩ : ∃ v1 vs', vs = v1 :: vs' ∧ Da K H2 v1 (.int W.n) ∧ DaAll K H2 vs' [.int W.l, .tuple (W.ts.map tgD)] := by cases hd with | cons a b => exact ⟨_, _, rfl, a, b⟩
  obtain ⟨v3, vs, rfl, h3, hd⟩ : ∃ v1 vs', vs = v1 :: vs' ∧ Da K H2 v1 (.int W.l) ∧ DaAll K H2 vs' [.tuple (W.ts.map tgD)] := by cases hd with | cons a b => exact ⟨_, _, rfl, a, b⟩
  obtain ⟨v4, rfl, h4⟩ : ∃ v1, vs = [v1] ∧ Da K H2 v1 (.tuple (W.ts.map tgD)) := by cases hd with | cons a b => cases b; exact ⟨_, rfl, a⟩
  cases h1; cases h2; cases h3
  cases h4 with
  | tup hT hTd =>
    obtain ⟨rs, rfl, hR⟩ := daa_rsat hTd
    exact ⟨_, rfl, rs, hT, hR⟩)
theorem ap_w1 (h : EvW K C te σ H W) : EvAP (tCons te tNil) σ H (fun vs H' => ∃ p, vs = [.ref p] ∧ WdAt K C H' p W) := fun H1 e Q q => h H1 e _ fun p H2 _ e2 hW => q _ _ e2 ⟨p, rfl, hW⟩
end
/-! ### the values of the law -/
def Wc : Wd := ⟨5, 4, 9, [⟨0, "hero", [2, 2]⟩, ⟨2, "coin", [5, 2, 0]⟩]⟩
def Wz (t n : Int) : Wd := ⟨t, n, 0, []⟩
def badDs : List PyData := [.none, .int 0, .str "0 0 0", .tuple [.int 0, .int 0, .int 0, .tuple []], .list [], .dict [], .bool true]
def noDs : List PyData := [.none, .tuple [], .tuple [.int 1, .int 2, .int 3], .list [.int 1, .int 9, .int 0, .tuple [], .tuple [], .tuple []], .tuple [.int 1, .int 9, .int 0, .tuple [.int 2, .int 1], .tuple [], .tuple []], .str "x", .tuple [.int 1, .int 9, .int (-1), .tuple [], .tuple [], .tuple []]]
def tkDs : List PyData := [.none, .int 4, .int 7, .bool true, .str "5", .tuple [.int 5], .int (-5), .int 1000000000000000000000000000000000000000000000000000000000000]
def spDs : List PyData := [.none, .int 0, .int 7, .bool true, .str "2", .int (-1), .int 1000000000000000000000000000000000000000000000000000000000000]
theorem no_all : noDs.all (fun d => sm d && !diffD d) = true := by decide +kernel
theorem tk_all : tkDs.all (fun d => rqD d && !tickD 5 2 d) = true := by decide +kernel
theorem sp_all : spDs.all (fun d => rqD d && !withinD 1 6 d) = true := by decide +kernel
theorem bad_n3 : badDs.all n3 = true := by decide +kernel
theorem no_n3 : noDs.all n3 = true := by decide +kernel
theorem tk_n3 : tkDs.all n3 = true := by decide +kernel
theorem sp_n3 : spDs.all n3 = true := by decide +kernel
theorem Wc_ok : Wc.ok := ⟨⟨by decide, by decide⟩, ⟨by decide, by decide⟩, ⟨by decide, by decide⟩, ⟨by decide, fun t ht => by
  simp only [Wc, List.mem_cons, List.not_mem_nil, or_false] at ht
  rcases ht with rfl | rfl
  · exact ⟨⟨by decide, by decide⟩, ⟨by decide +kernel, by decide +kernel, by decide +kernel, by decide +kernel, by decide +kernel⟩, by decide, by decide, fun n hn => by simp at hn; subst hn; exact ⟨by decide, by decide⟩⟩
  · exact ⟨⟨by decide, by decide⟩, ⟨by decide +kernel, by decide +kernel, by decide +kernel, by decide +kernel, by decide +kernel⟩, by decide, by decide, fun n hn => by simp at hn; rcases hn with rfl | rfl | rfl <;> exact ⟨by decide, by decide⟩⟩⟩, by unfold Asc; decide⟩
theorem Wz_ok {t n : Int} (ht : 0 ≤ t ∧ t ≤ 1000) (hn : 0 ≤ n ∧ n ≤ 1000) : (Wz t n).ok := by
  refine ⟨⟨ht.1, ?_⟩, ⟨hn.1, ?_⟩, ⟨by show (0 : Int) ≤ 0; decide, by show (0 : Int) < 999999937; decide⟩, ⟨by show 0 ≤ 12; decide, fun t h => by cases h⟩, List.pairwise_singleton ..⟩
  · show t < _; omega
  · show n < _; omega
end Kz
set_option Elab.async false
set_option linter.all false
set_option maxRecDepth 100000
set_option maxHeartbeats 4000000
set_option exponentiation.threshold 500
namespace Kz
open PySem PySem.Spec PyProof.Rows L2 Evl Vr
local macro_rules | `(tactic| walk_at "sc") => `(tactic| first | (with_reducible assumption) | (with_reducible exact sc_mul (by omega)) | (with_reducible exact sc_mulr (by omega)) | (with_reducible exact sc_div (by omega) (by decide)) | (show (0 : Int) < _; omega) | (show _ ≠ (0 : Int); omega) | (with_reducible rfl) | decide)
local macro_rules | `(tactic| walk_at "sq") => `(tactic| first | assumption | exact sq_of (by assumption) | exact st_of (by assumption))
local macro_rules | `(tactic| walk_at "pl") => `(tactic| first | assumption | exact pl_int | exact pl_bl | exact pl_str | exact pl_non | exact pl_lst (by assumption) | exact pl_tup (by assumption) | exact pl_dK (by assumption))
local macro_rules | `(tactic| walk_at "rv") => `(tactic| first
  | with_reducible exact rv_I0
  | with_reducible exact ru_neg
  | ((with_reducible apply rv_I); walk_at "sc")
  | ((with_reducible apply rv_ixL); walk_at "sq"; first | rfl | assumption)
  | ((with_reducible apply rv_ixT); walk_at "sq"; first | rfl | assumption)
  | ((with_reducible apply rv_eq); rfl) | ((with_reducible apply rv_ne); rfl))
local macro_rules | `(tactic| walk_at "rc") => `(tactic| first
  | with_reducible exact rc_I1 | with_reducible exact rc_B1 | with_reducible exact rc_I2 | ((with_reducible apply rc_repr); walk_at "sc") | ((with_reducible apply rc_lenL); walk_at "sq")
  | ((with_reducible apply rc_isiInt); walk_at "pl") | ((with_reducible apply rc_isiBool); walk_at "pl"))
local macro_rules | `(tactic| walk_at "ea") => `(tactic| first
  | with_reducible exact ea_nil | ((with_reducible apply ea_cons); walk_at "ev"; walk_at "ea"))
local macro_rules | `(tactic| walk_at "pow") => `(tactic| first
  | with_reducible exact ev_pow (a := 10) (b := 9) (c := 1000000000) (by decide +kernel) (by decide +kernel)
  | with_reducible exact ev_pow (a := 10) (b := 10) (c := 10000000000) (by decide +kernel) (by decide +kernel)
  | with_reducible exact ev_pow (a := 10) (b := 12) (c := 1000000000000) (by decide +kernel) (by decide +kernel)
  | with_reducible exact ev_pow (a := 10) (b := 17) (c := 100000000000000000) (by decide +kernel) (by decide +kernel)
  | with_reducible exact ev_pow (a := 10) (b := 20) (c := 100000000000000000000) (by decide +kernel) (by decide +kernel)
  | with_reducible exact ev_pow (a := 10) (b := 29) (c := 100000000000000000000000000000) (by decide +kernel) (by decide +kernel)
  | with_reducible exact ev_pow (a := 10) (b := 30) (c := 1000000000000000000000000000000) (by decide +kernel) (by decide +kernel)
  | with_reducible exact ev_pow (a := 10) (b := 40) (c := 10000000000000000000000000000000000000000) (by decide +kernel) (by decide +kernel)
  | with_reducible exact ev_pow (a := 10) (b := 57) (c := 1000000000000000000000000000000000000000000000000000000000) (by decide +kernel) (by decide +kernel)
  | with_reducible exact ev_pow (a := 10) (b := 58) (c := 10000000000000000000000000000000000000000000000000000000000) (by decide +kernel) (by decide +kernel)
  | with_reducible exact ev_pow (a := 10) (b := 59) (c := 100000000000000000000000000000000000000000000000000000000000) (by decide +kernel) (by decide +kernel)
  | with_reducible exact ev_pow (a := 10) (b := 60) (c := 1000000000000000000000000000000000000000000000000000000000000) (by decide +kernel) (by decide +kernel))
local macro_rules | `(tactic| walk_at "call") => `(tactic| (intro H9 e9; first | exact ⟨_, rfl, rfl⟩ | exact ⟨_, _, rfl, rfl⟩ | exact ⟨_, _, _, rfl, rfl⟩ | exact ⟨_, rfl, by walk_at "pl", rfl⟩ | (refine ⟨_, _, _, rfl, ?_, rfl⟩; first | exact Plain.ex e9 (by assumption) | walk_at "pl") | (refine ⟨_, rfl, ?_, rfl⟩; first | exact Plain.ex e9 (by assumption) | walk_at "pl")))
local macro_rules | `(tactic| walk_at "ev") => `(tactic| first
  | with_reducible exact ev_c
  | exact ev_var rfl
  | walk_at "pow"
  | ((with_reducible apply ev_op); walk_at "ev"; walk_at "ev"; walk_at "rv")
  | ((with_reducible apply ev_un); walk_at "ev"; walk_at "rv")
  | ((with_reducible apply ev_cb); walk_at "ea"; walk_at "rc")
  | ((with_reducible apply ev_callP); walk_at "ea"; walk_at "call")
  | ((with_reducible apply ev_chain); walk_at "ev"; walk_at "ev"; walk_at "rv"; walk_at "ev"; walk_at "rv")
  | ((with_reducible apply ev_andV); walk_at "ev"; intro _; walk_at "ev")
  | ((with_reducible apply ev_orV); walk_at "ev"; intro _; walk_at "ev")
  | ((with_reducible apply ev_ite); walk_at "et"; intro _; walk_at "ev"; intro _; walk_at "ev")
  | ((with_reducible apply ev_notV); walk_at "ev"))
local macro_rules | `(tactic| walk_at "et") => `(tactic| first
  | ((with_reducible apply et_test); walk_at "ev")
  | ((with_reducible apply et_B); walk_at "ev")
  | ((with_reducible apply et_and); walk_at "et"; intro _; walk_at "et")
  | ((with_reducible apply et_or); walk_at "et"; intro _; walk_at "et")
  | ((with_reducible apply et_not); walk_at "et"))
open LamX Wo En
def qP : Str := ("_law_parts_right" ++ ".<locals>.") ++ "<lambda>"
def qR : Str := ("_law_ring_right" ++ ".<locals>.") ++ "<lambda>"
def qL : Str := ("law" ++ ".<locals>.") ++ "<lambda>"
abbrev TLs (PP PR PL : Addr) : List (Addr × Str) := [(PP, qP), (PR, qR), (PL, qL)]
theorem tl_cases {PP PR PL : Addr} {p : Addr × Str} (hp : p ∈ TLs PP PR PL) : p = (PP, qP) ∨ p = (PR, qR) ∨ p = (PL, qL) := by
  rcases List.mem_cons.mp hp with h | hp
  · exact .inl h
  rcases List.mem_cons.mp hp with h | hp
  · exact .inr (.inl h)
  · exact .inr (.inr (List.mem_singleton.mp hp))
structure Nd3 (PP PR PL : Addr) : Prop where
  pr : PP ≠ PR
  pl : PP ≠ PL
  rl : PR ≠ PL
section
variable {PP PR PL : Addr}
theorem Nd3.uP (n : Nd3 PP PR PL) : ∀ p ∈ TLs PP PR PL, p.1 = PP → p.2 = qP := fun p hp e => by
  rcases tl_cases hp with rfl | rfl | rfl
  · exact Eq.refl qP
  · exact absurd e.symm n.pr
  · exact absurd e.symm n.pl
theorem Nd3.uR (n : Nd3 PP PR PL) : ∀ p ∈ TLs PP PR PL, p.1 = PR → p.2 = qR := fun p hp e => by
  rcases tl_cases hp with rfl | rfl | rfl
  · exact absurd e n.pr
  · exact Eq.refl qR
  · exact absurd e.symm n.rl
theorem Nd3.uL (n : Nd3 PP PR PL) : ∀ p ∈ TLs PP PR PL, p.1 = PL → p.2 = qL := fun p hp e => by
  rcases tl_cases hp with rfl | rfl | rfl
  · exact absurd e n.pl
  · exact absurd e n.rl
  · exact Eq.refl qL
end
def spRight (K : PySem.W.Frag) (CW PP PR PL : Addr) : Sp := fun vs H Q _ => ∃ p q0, vs = [.ref p, .ref q0] ∧ Dice p H ∧ WkAt K CW H q0 Wc ∧ Tabs (TLs PP PR PL) H ∧ ∀ H', (∀ b o, H b = some o → b ≠ p → (∀ ps, o ≠ .tbl ps) → H' b = some o) → Dice p H' → Tabs (TLs PP PR PL) H' → Q (.bl true) H'
def spNoW (K : PySem.W.Frag) : Sp := fun vs H Q _ => ∃ p, vs = [.ref p] ∧ Dice p H ∧ ∀ v H1 d, d ∈ badDs → Da K H1 v d → Exd p H H1 → Dice p H1 → Q v H1
section
variable {K : PySem.W.Frag} {H : Hp} {σ : L2.St} {TL : List (Addr × Str)} {C : Cs} {CW : Addr} {ts : TA} {i j : Nat} {tx : TE} {v u : V} {d e : PyData} {q0 : Addr} {W : Wd} {D : Df} {P : List V → Hp → Prop}
theorem em_diff1 (hi : σ[i]? = some (some v)) (hj : σ[j]? = some (some u)) (hd : Da K H v d) (hT : Tabs TL H) : Em K TL (tLam TL (TTmet K C) fun E => tCall (spDiffer K CW C.WE) [] E (tCons (tVar i) (tCons (tVar j) tNil))) σ H .world :=
  em_call (k := .world) (v := .non) hT (fun H1 e1 => ap_of (ea_cons (ev_var hi) (ea_cons (ev_var hj) ea_nil))) (fun vs E H1 Q' e1 hp hf => by
    subst hp
    exact ⟨v, u, rfl, .inl ⟨d, da_xn e1 _ _ hd, hf⟩⟩) fun y h => by cases h
theorem em_diff2 (hi : σ[i]? = some (some (.ref q0))) (hj : σ[j]? = some (some u)) (hW : WkAt K CW H q0 W) (hd : Da K H u d) (hT : Tabs TL H) : Em K TL (tLam TL (TTmet K C) fun E => tCall (spDiffer K CW C.WE) [] E (tCons (tVar i) (tCons (tVar j) tNil))) σ H .world :=
  em_call (k := .world) (v := .non) hT (fun H1 e1 => ap_of (ea_cons (ev_var hi) (ea_cons (ev_var hj) ea_nil))) (fun vs E H1 Q' e1 hp hf => by
    subst hp
    exact ⟨.ref q0, u, rfl, .inr ⟨q0, W, rfl, hW.ke (ke_xn e1), .inl ⟨d, da_xn e1 _ _ hd, hf⟩⟩⟩) fun y h => by cases h
theorem em_ap1 (hi : σ[i]? = some (some v)) (hj : σ[j]? = some (some u)) (hd : Da K H v d) (he : Da K H u e) (hs : sm e = true) (hT : Tabs TL H) : Em K TL (tLam TL (TTmet K C) fun E => tCall (spApplied K CW C.WE C.OE C.RE) [] E (tCons (tVar i) (tCons (tVar j) tNil))) σ H .world :=
  em_call (k := .world) (v := .non) hT (fun H1 e1 => ap_of (ea_cons (ev_var hi) (ea_cons (ev_var hj) ea_nil))) (fun vs E H1 Q' e1 hp hf => by
    subst hp
    exact ⟨v, u, e, rfl, da_xn e1 _ _ he, hs, .inl ⟨d, da_xn e1 _ _ hd, hf⟩⟩) fun y h => by cases h
theorem em_ap2 (hi : σ[i]? = some (some (.ref q0))) (hj : σ[j]? = some (some u)) (hW : WkAt K CW H q0 W) (he : Da K H u e) (hs : sm e = true) (hn : diffD e = false) (hT : Tabs TL H) : Em K TL (tLam TL (TTmet K C) fun E => tCall (spApplied K CW C.WE C.OE C.RE) [] E (tCons (tVar i) (tCons (tVar j) tNil))) σ H .oper :=
  em_call (k := .oper) (v := .non) hT (fun H1 e1 => ap_of (ea_cons (ev_var hi) (ea_cons (ev_var hj) ea_nil))) (fun vs E H1 Q' e1 hp hf => by
    subst hp
    exact ⟨.ref q0, u, e, rfl, da_xn e1 _ _ he, hs, .inr ⟨q0, W, rfl, hW.ke (ke_xn e1), .inl ⟨hn, hf⟩⟩⟩) fun y h => by cases h
theorem em_size (hi : σ[i]? = some (some u)) (he : Da K H u e) (hs : sm e = true) (hn : diffD e = false) (hT : Tabs TL H) : Em K TL (tLam TL (TTmet K C) fun E => tCall (spSize K C.OE) [] E (tCons (tVar i) tNil)) σ H .oper :=
  em_call (k := .oper) (v := .non) hT (fun H1 e1 => ap_of (ea_cons (ev_var hi) ea_nil)) (fun vs E H1 Q' e1 hp hf => by
    subst hp
    exact ⟨u, e, rfl, da_xn e1 _ _ he, hs, hn, hf⟩) fun y h => by cases h
/-- a difference put on a world -/
theorem em_ap3 {k : Out} (hi : σ[i]? = some (some (.ref q0))) (hx : ∀ H1, EvDt K tx σ H1 e) (hed : e = D.d) (hW : WkAt K CW H q0 W) (hs : sm D.d = true) (hn : diffD D.d = true) (l1 : D.gone.length ≤ 1000) (l2 : D.chg.length ≤ 1000) (l3 : D.came.length ≤ 50)
    (ho : ∀ (E : XK) H1 (Q' : VK), FailO K C k .non Q' E H1 → apOut K CW C.RE W D Q' E H1) (hk : ∀ y, k ≠ .number y) (hT : Tabs TL H) : Em K TL (tLam TL (TTmet K C) fun E => tCall (spApplied K CW C.WE C.OE C.RE) [] E (tCons (tVar i) (tCons tx tNil))) σ H k :=
  em_call (k := k) (v := .non) (P := fun vs H' => ∃ x, vs = [.ref q0, x] ∧ Da K H' x D.d) hT (fun H1 e1 => fun H2 e2 Q q => ⟨.ref q0, hi, hx H2 H2 (Ex.refl H2) _ fun x H3 e3 h3 => q _ H3 e3 ⟨x, rfl, by rw [← hed]; exact h3⟩⟩) (fun vs E H1 Q' e1 ⟨x, hp, h1⟩ hf => by
    subst hp
    exact ⟨.ref q0, x, D.d, rfl, h1, hs, .inr ⟨q0, W, rfl, hW.ke (ke_xn e1), .inr ⟨hn, D, rfl, l1, l2, l3, ho E H1 Q' hf⟩⟩⟩) fun y h => absurd h (hk y)
theorem ap_fit {m : Int} {E : XK} {Q : VK} (h : ((unfit W D).contains m && (unfit W D).all (fun j => decide (m ≤ j))) = true) (hf : FailO K C (.reason (.tuple [.str "fit", .int m])) .non Q E H) : apOut K CW C.RE W D Q E H := by
  rw [Bool.and_eq_true, List.contains_iff_mem, List.all_eq_true] at h
  refine .inl ⟨fun z => by rw [z] at h; exact absurd h.1 List.not_mem_nil, fun m' h1 h2 => ?_⟩
  have a := of_decide_eq_true (h.2 m' h1)
  have b := h2 m h.1
  have : m' = m := by omega
  subst this
  exact hf
end
def Dg : Df := ⟨1, 9, 0, [70, 80], [], [(60, 0, 1)]⟩
def Dh : Df := ⟨1, 9, 0, [80], [⟨9, "a", [1]⟩], []⟩
def Di : Df := ⟨1, 9, 0, [], [⟨9, "a", [1]⟩], []⟩
def toldP : List Out := [.world, .world, .world, .world, .oper, .oper, .reason (.tuple [.str "fit", .int 60]), .reason (.tuple [.str "fit", .int 80]), .reason (.tuple [.str "world"])]
theorem toldP_sh : SeqAt.shaped (.list (toldD toldP)) = true := by decide +kernel
theorem toldP_eq : PyData.eqv (.list (toldD toldP)) (.list (toldD toldP)) = true := by decide +kernel
theorem okP : ∀ k ∈ toldP, okO k = true := by
  have : toldP.all okO = true := by decide +kernel
  exact List.all_eq_true.mp this
section
variable {P : Program} {w : World} {K : PySem.W.Frag} {mg : Str → Option Value} {base : Heap}
theorem ok_no_world (T : Txt K mg w) : FnOk P w K mg base CX0 3 T.a_law_no_world T.fd_law_no_world ["dice"] (spNoW K) := by
  have G_law_pick := ok_pick (P := P) (w := w) (base := base) T
  refine T.F_law_no_world.ok sc_law_no_world (fun vs H Q E h => ?_) (fun cdv A outer s H vs Q E hr h => ?_)
  · obtain ⟨_, rfl, _⟩ := h; rfl
  obtain ⟨p, rfl, hd, q⟩ := h
  refine ⟨_, (pss_one (ps_ret (pe_call G_law_pick (hr.mono (by decide)) (by rfl) T.g_law_pick T.F_law_pick.kp T.b_law_pick .nil pass0 (pa_cons (pv 0) (pa_cons (pe_lst (pa_cons pe_non (pa_cons pe_int (pa_cons pe_str (pa_cons (pe_tup (pa_cons pe_int (pa_cons pe_int (pa_cons pe_int (pa_cons (pe_tup pa_nil) pa_nil))))) (pa_cons (pe_lst pa_nil) (pa_cons pe_dnewK (pa_cons pe_bl pa_nil)))))))) pa_nil))))), ?_⟩
  exact go_pick (p := p) (ds := badDs) rfl (en_lst (ea_w1 (ew_c .non) (ea_w1 (ew_c (.int _)) (ea_w1 (ew_c (.str _)) (ea_w1 (ew_tup (ea_w1 (ew_c (.int _)) (ea_w1 (ew_c (.int _)) (ea_w1 (ew_c (.int _)) (ea_w1 (ew_tup ea_w0 (by show 0 ≤ 100000; decide)) ea_w0)))) (by show 4 ≤ 100000; decide)) (ea_w1 (ew_lst ea_w0 (by show 0 ≤ 100000; decide)) (ea_w1 ew_dic (ea_w1 (ew_c (.bl _)) ea_w0))))))) (by show 7 ≤ 100000; decide)) hd (by decide) (by decide) (by decide +kernel) fun v H1 d m h x dc => q v H1 d m h x dc
end
end Kz
set_option Elab.async false
set_option linter.all false
set_option maxRecDepth 100000
set_option maxHeartbeats 4000000
set_option exponentiation.threshold 500
namespace Kz
open PySem PySem.Spec PyProof.Rows L2 Evl Vr
local macro_rules | `(tactic| walk_at "sc") => `(tactic| first | (with_reducible assumption) | (with_reducible exact sc_mul (by omega)) | (with_reducible exact sc_mulr (by omega)) | (with_reducible exact sc_div (by omega) (by decide)) | (show (0 : Int) < _; omega) | (show _ ≠ (0 : Int); omega) | (with_reducible rfl) | decide)
local macro_rules | `(tactic| walk_at "sq") => `(tactic| first | assumption | exact sq_of (by assumption) | exact st_of (by assumption))
local macro_rules | `(tactic| walk_at "pl") => `(tactic| first | assumption | exact pl_int | exact pl_bl | exact pl_str | exact pl_non | exact pl_lst (by assumption) | exact pl_tup (by assumption) | exact pl_dK (by assumption))
local macro_rules | `(tactic| walk_at "rv") => `(tactic| first
  | with_reducible exact rv_I0
  | with_reducible exact ru_neg
  | ((with_reducible apply rv_I); walk_at "sc")
  | ((with_reducible apply rv_ixL); walk_at "sq"; first | rfl | assumption)
  | ((with_reducible apply rv_ixT); walk_at "sq"; first | rfl | assumption)
  | ((with_reducible apply rv_eq); rfl) | ((with_reducible apply rv_ne); rfl))
local macro_rules | `(tactic| walk_at "rc") => `(tactic| first
  | with_reducible exact rc_I1 | with_reducible exact rc_B1 | with_reducible exact rc_I2 | ((with_reducible apply rc_repr); walk_at "sc") | ((with_reducible apply rc_lenL); walk_at "sq")
  | ((with_reducible apply rc_isiInt); walk_at "pl") | ((with_reducible apply rc_isiBool); walk_at "pl"))
local macro_rules | `(tactic| walk_at "ea") => `(tactic| first
  | with_reducible exact ea_nil | ((with_reducible apply ea_cons); walk_at "ev"; walk_at "ea"))
local macro_rules | `(tactic| walk_at "pow") => `(tactic| first
  | with_reducible exact ev_pow (a := 10) (b := 9) (c := 1000000000) (by decide +kernel) (by decide +kernel)
  | with_reducible exact ev_pow (a := 10) (b := 10) (c := 10000000000) (by decide +kernel) (by decide +kernel)
  | with_reducible exact ev_pow (a := 10) (b := 12) (c := 1000000000000) (by decide +kernel) (by decide +kernel)
  | with_reducible exact ev_pow (a := 10) (b := 17) (c := 100000000000000000) (by decide +kernel) (by decide +kernel)
  | with_reducible exact ev_pow (a := 10) (b := 20) (c := 100000000000000000000) (by decide +kernel) (by decide +kernel)
  | with_reducible exact ev_pow (a := 10) (b := 29) (c := 100000000000000000000000000000) (by decide +kernel) (by decide +kernel)
  | with_reducible exact ev_pow (a := 10) (b := 30) (c := 1000000000000000000000000000000) (by decide +kernel) (by decide +kernel)
  | with_reducible exact ev_pow (a := 10) (b := 40) (c := 10000000000000000000000000000000000000000) (by decide +kernel) (by decide +kernel)
  | with_reducible exact ev_pow (a := 10) (b := 57) (c := 1000000000000000000000000000000000000000000000000000000000) (by decide +kernel) (by decide +kernel)
  | with_reducible exact ev_pow (a := 10) (b := 58) (c := 10000000000000000000000000000000000000000000000000000000000) (by decide +kernel) (by decide +kernel)
  | with_reducible exact ev_pow (a := 10) (b := 59) (c := 100000000000000000000000000000000000000000000000000000000000) (by decide +kernel) (by decide +kernel)
  | with_reducible exact ev_pow (a := 10) (b := 60) (c := 1000000000000000000000000000000000000000000000000000000000000) (by decide +kernel) (by decide +kernel))
local macro_rules | `(tactic| walk_at "call") => `(tactic| (intro H9 e9; first | exact ⟨_, rfl, rfl⟩ | exact ⟨_, _, rfl, rfl⟩ | exact ⟨_, _, _, rfl, rfl⟩ | exact ⟨_, rfl, by walk_at "pl", rfl⟩ | (refine ⟨_, _, _, rfl, ?_, rfl⟩; first | exact Plain.ex e9 (by assumption) | walk_at "pl") | (refine ⟨_, rfl, ?_, rfl⟩; first | exact Plain.ex e9 (by assumption) | walk_at "pl")))
local macro_rules | `(tactic| walk_at "ev") => `(tactic| first
  | with_reducible exact ev_c
  | exact ev_var rfl
  | walk_at "pow"
  | ((with_reducible apply ev_op); walk_at "ev"; walk_at "ev"; walk_at "rv")
  | ((with_reducible apply ev_un); walk_at "ev"; walk_at "rv")
  | ((with_reducible apply ev_cb); walk_at "ea"; walk_at "rc")
  | ((with_reducible apply ev_callP); walk_at "ea"; walk_at "call")
  | ((with_reducible apply ev_chain); walk_at "ev"; walk_at "ev"; walk_at "rv"; walk_at "ev"; walk_at "rv")
  | ((with_reducible apply ev_andV); walk_at "ev"; intro _; walk_at "ev")
  | ((with_reducible apply ev_orV); walk_at "ev"; intro _; walk_at "ev")
  | ((with_reducible apply ev_ite); walk_at "et"; intro _; walk_at "ev"; intro _; walk_at "ev")
  | ((with_reducible apply ev_notV); walk_at "ev"))
local macro_rules | `(tactic| walk_at "et") => `(tactic| first
  | ((with_reducible apply et_test); walk_at "ev")
  | ((with_reducible apply et_B); walk_at "ev")
  | ((with_reducible apply et_and); walk_at "et"; intro _; walk_at "et")
  | ((with_reducible apply et_or); walk_at "et"; intro _; walk_at "et")
  | ((with_reducible apply et_not); walk_at "et"))
open LamX Wo En
theorem Dg_fit : ((unfit Wc Dg).contains 60 && (unfit Wc Dg).all (fun j => decide (60 ≤ j))) = true := by decide +kernel
theorem Dh_fit : ((unfit Wc Dh).contains 80 && (unfit Wc Dh).all (fun j => decide (80 ≤ j))) = true := by decide +kernel
theorem Di_fit : unfit Wc Di = [] := by decide +kernel
theorem Di_no : (decide ((behind Wc Di).length ≤ 12) && ascI (Tg.ids (behind Wc Di) ++ [Di.n])) = false := by decide +kernel
theorem Dg_d : diffD Dg.d = true := by decide +kernel
theorem Dh_d : diffD Dh.d = true := by decide +kernel
theorem Di_d : diffD Di.d = true := by decide +kernel
theorem Dg_s : sm Dg.d = true := by decide +kernel
theorem Dh_s : sm Dh.d = true := by decide +kernel
theorem Di_s : sm Di.d = true := by decide +kernel
section
variable {P : Program} {w : World} {K : PySem.W.Frag} {mg : Str → Option Value} {base : Heap}
theorem ok_parts (T : Txt K mg w) {c PP PR PL : Addr} (TB : TabB base mg c PP) (nd3 : Nd3 PP PR PL) (FR : FunL K "_law_parts_right" "_law_parts_right" s_law_parts_right c T.a_law_parts_right T.fd_law_parts_right) : FnG P w K mg base CX0 15 T.a_law_parts_right T.fd_law_parts_right ["dice", "world"] (spRight K T.C_World PP PR PL) := by
  have G_law_pick := ok_pick (P := P) (w := w) (base := base) T
  have G_law_no_world := ok_no_world (P := P) (w := w) (base := base) T
  have G_difference := ok_difference (P := P) (w := w) (base := base) T
  have G_applied := ok_applied (P := P) (w := w) (base := base) T
  have G_size := ok_size (P := P) (w := w) (base := base) T
  obtain ⟨ocM, odM, kVM, docM, pmM, anM, cdM, ctM, oslM, hfM, lkM, hcM⟩ := T.F_law_met.ex
  rw [hfM] at lkM
  have hbM := T.b_law_met
  rw [hfM] at hbM
  have hmT : (PP, qP) ∈ TLs PP PR PL := List.mem_cons_self ..
  have huT := nd3.uP
  refine FR.okG sc_law_parts_right (fun vs H Q E h => ?_) (fun A outer s H vs Q E hr hg h => ?_)
  · obtain ⟨_, _, rfl, _⟩ := h; rfl
  obtain ⟨p, q0, rfl, hd, hW, hT, q⟩ := h
  have gd0 : (A.deeper (envOfC "_law_parts_right" (defScope s_law_parts_right) s.heap.objs.size T.a_law_parts_right (.ref c))).guards = some [] := hg
  have hu1 : (A.deeper (envOfC "_law_parts_right" (defScope s_law_parts_right) s.heap.objs.size T.a_law_parts_right (.ref c))).units + 100 < cLine := by have := hr.un; omega
  have hu64 : (A.deeper (envOfC "_law_parts_right" (defScope s_law_parts_right) s.heap.objs.size T.a_law_parts_right (.ref c))).units + 64 < cLine := by omega
  refine ⟨_, (pss_cons (ps_asg (pe_tup (pa_cons (pe_call G_law_no_world (hr.mono (by decide)) (by rfl) T.g_law_no_world T.F_law_no_world.kp T.b_law_no_world .nil pass0 (pa_cons (pv 0) pa_nil)) (pa_cons (pe_call G_law_pick (hr.mono (by decide)) (by rfl) T.g_law_pick T.F_law_pick.kp T.b_law_pick .nil pass0 (pa_cons (pv 0) (pa_cons (pe_lst (pa_cons pe_non (pa_cons (pe_tup pa_nil) (pa_cons (pe_tup (pa_cons pe_int (pa_cons pe_int (pa_cons pe_int pa_nil)))) (pa_cons (pe_lst (pa_cons pe_int (pa_cons pe_int (pa_cons pe_int (pa_cons (pe_tup pa_nil) (pa_cons (pe_tup pa_nil) (pa_cons (pe_tup pa_nil) pa_nil))))))) (pa_cons (pe_tup (pa_cons pe_int (pa_cons pe_int (pa_cons pe_int (pa_cons (pe_tup (pa_cons pe_int (pa_cons pe_int pa_nil))) (pa_cons (pe_tup pa_nil) (pa_cons (pe_tup pa_nil) pa_nil))))))) (pa_cons pe_str (pa_cons (pe_tup (pa_cons pe_int (pa_cons pe_int (pa_cons (pe_un un_neg pe_int) (pa_cons (pe_tup pa_nil) (pa_cons (pe_tup pa_nil) (pa_cons (pe_tup pa_nil) pa_nil))))))) pa_nil)))))))) pa_nil))) pa_nil))) (pg_tup rfl (pgs_cons (pg_name (i := 4) sc_law_parts_right.nd rfl (.inr rfl)) (pgs_cons (pg_name (i := 5) sc_law_parts_right.nd rfl (.inr rfl)) pgs_nil))))
  (pss_cons (ps_set (i := 2) sc_law_parts_right.nd rfl (.inl rfl) (pe_lst (pa_cons (pe_lamcall (T := TLs PP PR PL) (TT := TTmet K (csOf T)) rfl T.g_law_met T.F_law_met.kp lkM hcM hbM sc_law_met rfl (Or.inl rfl) (met_gives' T gd0 hu1 ⟨rfl, rfl, rfl, rfl⟩) TB rfl hmT huT (k := 12) (hr.mono (by decide)) (lamS_by (by kernel_rfl)) rfl (fun _ _ _ _ _ => rfl) (fun _ _ _ _ E _ _ hr => (pe_call G_difference (hr.mono (by decide)) (by rfl) T.g_difference T.F_difference.kp T.b_difference .nil (passes_call (W := fun cls d _ H => E cls d H) (takes_of rfl rfl rfl rfl) (fun _ _ _ _ h => h)) (pa_cons (pv 4) (pa_cons (pv 4) pa_nil))))) pa_nil)))
  (pss_cons (ps_expr (pe_bm PySem.F.plainAttrs_list PySem.F.slot_list_append PySem.F.type_list_append mt_append (pv 2) (pa_cons (pe_lamcall (T := TLs PP PR PL) (TT := TTmet K (csOf T)) rfl T.g_law_met T.F_law_met.kp lkM hcM hbM sc_law_met rfl (Or.inl rfl) (met_gives' T gd0 hu1 ⟨rfl, rfl, rfl, rfl⟩) TB rfl hmT huT (k := 12) (hr.mono (by decide)) (lamS_by (by kernel_rfl)) rfl (fun _ _ _ _ _ => rfl) (fun _ _ _ _ E _ _ hr => (pe_call G_difference (hr.mono (by decide)) (by rfl) T.g_difference T.F_difference.kp T.b_difference .nil (passes_call (W := fun cls d _ H => E cls d H) (takes_of rfl rfl rfl rfl) (fun _ _ _ _ h => h)) (pa_cons (pv 1) (pa_cons (pv 4) pa_nil))))) pa_nil)))
  (pss_cons (ps_expr (pe_bm PySem.F.plainAttrs_list PySem.F.slot_list_append PySem.F.type_list_append mt_append (pv 2) (pa_cons (pe_lamcall (T := TLs PP PR PL) (TT := TTmet K (csOf T)) rfl T.g_law_met T.F_law_met.kp lkM hcM hbM sc_law_met rfl (Or.inl rfl) (met_gives' T gd0 hu1 ⟨rfl, rfl, rfl, rfl⟩) TB rfl hmT huT (k := 12) (hr.mono (by decide)) (lamS_by (by kernel_rfl)) rfl (fun _ _ _ _ _ => rfl) (fun _ _ _ _ E _ _ hr => (pe_call G_difference (hr.mono (by decide)) (by rfl) T.g_difference T.F_difference.kp T.b_difference .nil (passes_call (W := fun cls d _ H => E cls d H) (takes_of rfl rfl rfl rfl) (fun _ _ _ _ h => h)) (pa_cons (pv 4) (pa_cons (pv 1) pa_nil))))) pa_nil)))
  (pss_cons (ps_expr (pe_bm PySem.F.plainAttrs_list PySem.F.slot_list_append PySem.F.type_list_append mt_append (pv 2) (pa_cons (pe_lamcall (T := TLs PP PR PL) (TT := TTmet K (csOf T)) rfl T.g_law_met T.F_law_met.kp lkM hcM hbM sc_law_met rfl (Or.inl rfl) (met_gives' T gd0 hu1 ⟨rfl, rfl, rfl, rfl⟩) TB rfl hmT huT (k := 12) (hr.mono (by decide)) (lamS_by (by kernel_rfl)) rfl (fun _ _ _ _ _ => rfl) (fun _ _ _ _ E _ _ hr => (pe_call G_applied (hr.mono (by decide)) (by rfl) T.g_applied T.F_applied.kp T.b_applied .nil (passes_call (W := fun cls d _ H => E cls d H) (takes_of rfl rfl rfl rfl) (fun _ _ _ _ h => h)) (pa_cons (pv 4) (pa_cons (pv 5) pa_nil))))) pa_nil)))
  (pss_cons (ps_expr (pe_bm PySem.F.plainAttrs_list PySem.F.slot_list_append PySem.F.type_list_append mt_append (pv 2) (pa_cons (pe_lamcall (T := TLs PP PR PL) (TT := TTmet K (csOf T)) rfl T.g_law_met T.F_law_met.kp lkM hcM hbM sc_law_met rfl (Or.inl rfl) (met_gives' T gd0 hu1 ⟨rfl, rfl, rfl, rfl⟩) TB rfl hmT huT (k := 12) (hr.mono (by decide)) (lamS_by (by kernel_rfl)) rfl (fun _ _ _ _ _ => rfl) (fun _ _ _ _ E _ _ hr => (pe_call G_applied (hr.mono (by decide)) (by rfl) T.g_applied T.F_applied.kp T.b_applied .nil (passes_call (W := fun cls d _ H => E cls d H) (takes_of rfl rfl rfl rfl) (fun _ _ _ _ h => h)) (pa_cons (pv 1) (pa_cons (pv 5) pa_nil))))) pa_nil)))
  (pss_cons (ps_expr (pe_bm PySem.F.plainAttrs_list PySem.F.slot_list_append PySem.F.type_list_append mt_append (pv 2) (pa_cons (pe_lamcall (T := TLs PP PR PL) (TT := TTmet K (csOf T)) rfl T.g_law_met T.F_law_met.kp lkM hcM hbM sc_law_met rfl (Or.inl rfl) (met_gives' T gd0 hu1 ⟨rfl, rfl, rfl, rfl⟩) TB rfl hmT huT (k := 12) (hr.mono (by decide)) (lamS_by (by kernel_rfl)) rfl (fun _ _ _ _ _ => rfl) (fun _ _ _ _ E _ _ hr => (pe_call G_size (hr.mono (by decide)) (by rfl) T.g_size T.F_size.kp T.b_size .nil (passes_call (W := fun cls d _ H => E cls d H) (takes_of rfl rfl rfl rfl) (fun _ _ _ _ h => h)) (pa_cons (pv 5) pa_nil)))) pa_nil)))
  (pss_cons (ps_expr (pe_bm PySem.F.plainAttrs_list PySem.F.slot_list_append PySem.F.type_list_append mt_append (pv 2) (pa_cons (pe_lamcall (T := TLs PP PR PL) (TT := TTmet K (csOf T)) rfl T.g_law_met T.F_law_met.kp lkM hcM hbM sc_law_met rfl (Or.inl rfl) (met_gives' T gd0 hu1 ⟨rfl, rfl, rfl, rfl⟩) TB rfl hmT huT (k := 12) (hr.mono (by decide)) (lamS_by (by kernel_rfl)) rfl (fun _ _ _ _ _ => rfl) (fun _ _ _ _ E _ _ hr => (pe_call G_applied (hr.mono (by decide)) (by rfl) T.g_applied T.F_applied.kp T.b_applied .nil (passes_call (W := fun cls d _ H => E cls d H) (takes_of rfl rfl rfl rfl) (fun _ _ _ _ h => h)) (pa_cons (pv 1) (pa_cons (pe_tup (pa_cons pe_int (pa_cons pe_int (pa_cons pe_int (pa_cons (pe_tup (pa_cons pe_int (pa_cons pe_int pa_nil))) (pa_cons (pe_tup pa_nil) (pa_cons (pe_tup (pa_cons (pe_tup (pa_cons pe_int (pa_cons pe_int (pa_cons pe_int pa_nil)))) pa_nil)) pa_nil))))))) pa_nil))))) pa_nil)))
  (pss_cons (ps_expr (pe_bm PySem.F.plainAttrs_list PySem.F.slot_list_append PySem.F.type_list_append mt_append (pv 2) (pa_cons (pe_lamcall (T := TLs PP PR PL) (TT := TTmet K (csOf T)) rfl T.g_law_met T.F_law_met.kp lkM hcM hbM sc_law_met rfl (Or.inl rfl) (met_gives' T gd0 hu1 ⟨rfl, rfl, rfl, rfl⟩) TB rfl hmT huT (k := 12) (hr.mono (by decide)) (lamS_by (by kernel_rfl)) rfl (fun _ _ _ _ _ => rfl) (fun _ _ _ _ E _ _ hr => (pe_call G_applied (hr.mono (by decide)) (by rfl) T.g_applied T.F_applied.kp T.b_applied .nil (passes_call (W := fun cls d _ H => E cls d H) (takes_of rfl rfl rfl rfl) (fun _ _ _ _ h => h)) (pa_cons (pv 1) (pa_cons (pe_tup (pa_cons pe_int (pa_cons pe_int (pa_cons pe_int (pa_cons (pe_tup (pa_cons pe_int pa_nil)) (pa_cons (pe_tup (pa_cons (pe_tup (pa_cons pe_int (pa_cons pe_str (pa_cons (pe_tup (pa_cons pe_int pa_nil)) pa_nil)))) pa_nil)) (pa_cons (pe_tup pa_nil) pa_nil))))))) pa_nil))))) pa_nil)))
  (pss_cons (ps_expr (pe_bm PySem.F.plainAttrs_list PySem.F.slot_list_append PySem.F.type_list_append mt_append (pv 2) (pa_cons (pe_lamcall (T := TLs PP PR PL) (TT := TTmet K (csOf T)) rfl T.g_law_met T.F_law_met.kp lkM hcM hbM sc_law_met rfl (Or.inl rfl) (met_gives' T gd0 hu1 ⟨rfl, rfl, rfl, rfl⟩) TB rfl hmT huT (k := 12) (hr.mono (by decide)) (lamS_by (by kernel_rfl)) rfl (fun _ _ _ _ _ => rfl) (fun _ _ _ _ E _ _ hr => (pe_call G_applied (hr.mono (by decide)) (by rfl) T.g_applied T.F_applied.kp T.b_applied .nil (passes_call (W := fun cls d _ H => E cls d H) (takes_of rfl rfl rfl rfl) (fun _ _ _ _ h => h)) (pa_cons (pv 1) (pa_cons (pe_tup (pa_cons pe_int (pa_cons pe_int (pa_cons pe_int (pa_cons (pe_tup pa_nil) (pa_cons (pe_tup (pa_cons (pe_tup (pa_cons pe_int (pa_cons pe_str (pa_cons (pe_tup (pa_cons pe_int pa_nil)) pa_nil)))) pa_nil)) (pa_cons (pe_tup pa_nil) pa_nil))))))) pa_nil))))) pa_nil)))
  (pss_cons (ps_set (i := 3) sc_law_parts_right.nd rfl (.inl rfl) (pe_op op_cat (pe_op op_rep (pe_lst (pa_cons (pe_tup (pa_cons pe_str (pa_cons pe_str pa_nil))) pa_nil)) pe_int) (pe_op op_rep (pe_lst (pa_cons (pe_tup (pa_cons pe_str (pa_cons pe_str pa_nil))) pa_nil)) pe_int)))
  (pss_one (ps_ret (pe_cmpR (op_eqD hr.units) (pv 2) (pe_op op_cat (pv 3) (pe_lst (pa_cons (pe_tup (pa_cons pe_str (pa_cons pe_str (pa_cons (pe_tup (pa_cons pe_str (pa_cons pe_int pa_nil))) pa_nil)))) (pa_cons (pe_tup (pa_cons pe_str (pa_cons pe_str (pa_cons (pe_tup (pa_cons pe_str (pa_cons pe_int pa_nil))) pa_nil)))) (pa_cons (pe_tup (pa_cons pe_str (pa_cons pe_str (pa_cons (pe_tup (pa_cons pe_str pa_nil)) pa_nil)))) pa_nil))))) (nomark _))))))))))))))), ?_⟩
  refine q_two (A := fun v H1 => Dice p H1 ∧ Exd p H H1 ∧ ∃ d, d ∈ badDs ∧ Da K H1 v d) (B := fun v H1 u H2 => Dice p H2 ∧ Exd p H1 H2 ∧ ∃ e, e ∈ noDs ∧ Da K H2 u e) (fun Q' q' => ?_) (fun v H1 ⟨a1, a2, a3⟩ Q' q' => ?_) fun v4 H1 v5 H2 H3 ⟨dc1, x1, d4, m4, h4⟩ ⟨dc2, x2, d5, m5, h5⟩ e3 => ?_
  · exact ⟨.ref p, rfl, p, rfl, hd, fun v H1 d m h x dc => q' v H1 ⟨dc, x, d, m, h⟩⟩
  · exact go_pick (p := p) (ds := noDs) rfl (en_lst (ea_w1 (ew_c .non) (ea_w1 (ew_tup ea_w0 (by show 0 ≤ 100000; decide)) (ea_w1 (ew_tup (ea_w1 (ew_c (.int _)) (ea_w1 (ew_c (.int _)) (ea_w1 (ew_c (.int _)) ea_w0))) (by show 3 ≤ 100000; decide)) (ea_w1 (ew_lst (ea_w1 (ew_c (.int _)) (ea_w1 (ew_c (.int _)) (ea_w1 (ew_c (.int _)) (ea_w1 (ew_tup ea_w0 (by show 0 ≤ 100000; decide)) (ea_w1 (ew_tup ea_w0 (by show 0 ≤ 100000; decide)) (ea_w1 (ew_tup ea_w0 (by show 0 ≤ 100000; decide)) ea_w0)))))) (by show 6 ≤ 100000; decide))
      (ea_w1 (ew_tup (ea_w1 (ew_c (.int _)) (ea_w1 (ew_c (.int _)) (ea_w1 (ew_c (.int _)) (ea_w1 (ew_tup (ea_w1 (ew_c (.int _)) (ea_w1 (ew_c (.int _)) ea_w0)) (by show 2 ≤ 100000; decide)) (ea_w1 (ew_tup ea_w0 (by show 0 ≤ 100000; decide)) (ea_w1 (ew_tup ea_w0 (by show 0 ≤ 100000; decide)) ea_w0)))))) (by show 6 ≤ 100000; decide)) (ea_w1 (ew_c (.str _))
      (ea_w1 (ew_tup (ea_w1 (ew_c (.int _)) (ea_w1 (ew_c (.int _)) (ea_w1 (ew_ev (ev_un ev_c ru_neg) fun _ _ => .int _) (ea_w1 (ew_tup ea_w0 (by show 0 ≤ 100000; decide)) (ea_w1 (ew_tup ea_w0 (by show 0 ≤ 100000; decide)) (ea_w1 (ew_tup ea_w0 (by show 0 ≤ 100000; decide)) ea_w0)))))) (by show 6 ≤ 100000; decide)) ea_w0))))))) (by show 7 ≤ 100000; decide)) a1 (by decide) (by decide) (by decide +kernel) fun v' H2 d m h x dc => q' v' H2 ⟨dc, x, d, m, h⟩
  have a5 := List.all_eq_true.mp no_all d5 m5
  simp only [Bool.and_eq_true, Bool.not_eq_true'] at a5
  obtain ⟨s5, n5⟩ := a5
  have x12 := (x1.trans x2).trans (Exd.of e3)
  have dc3 := dc2.ex e3
  have g4 := da_ex e3 _ _ (da_xd x2 dc1 _ _ (List.all_eq_true.mp bad_n3 d4 m4) h4)
  have g5 := da_ex e3 _ _ h5
  have gW := hW.ke (ke_xd x12 hd)
  have base3 : ∀ b o, H b = some o → b ≠ p → H3 b = some o := fun b o hb hn => x12 b o hn hb
  have T3 : Tabs (TLs PP PR PL) H3 := Tabs.xd x12 hd hT
  clear x1 x2 x12 dc1 dc2 h4 h5 hW hd hT
  refine q_asgM (em_lst1 (em_diff1 rfl rfl g4 T3)) fun l H4 u4 nw e4 t4 hl4 hv4 => ?_
  refine q_app (z := .world) (ev_var rfl) hl4 hv4 (by decide) (by decide +kernel) (fun Hx ex => em_diff2 rfl rfl (gW.ke (ke_xn (e4.trans (xn_ex ex)))) (da_xn (e4.trans (xn_ex ex)) _ _ g4) (t4.ext ex)) fun H5 u5 kp5 t5 hl5 hv5 => ?_
  have e5 := keep_l nw e4 kp5
  refine q_app (z := .world) (ev_var rfl) hl5 hv5 (by decide) (by decide +kernel) (fun Hx ex => em_diff1 rfl rfl (da_xn (e5.trans (xn_ex ex)) _ _ g4) (t5.ext ex)) fun H6 u6 kp6 t6 hl6 hv6 => ?_
  have e6 := keep_l nw e5 kp6
  refine q_app (z := .world) (ev_var rfl) hl6 hv6 (by decide) (by decide +kernel) (fun Hx ex => em_ap1 rfl rfl (da_xn (e6.trans (xn_ex ex)) _ _ g4) (da_xn (e6.trans (xn_ex ex)) _ _ g5) s5 (t6.ext ex)) fun H7 u7 kp7 t7 hl7 hv7 => ?_
  have e7 := keep_l nw e6 kp7
  refine q_app (z := .oper) (ev_var rfl) hl7 hv7 (by decide) (by decide +kernel) (fun Hx ex => em_ap2 rfl rfl (gW.ke (ke_xn (e7.trans (xn_ex ex)))) (da_xn (e7.trans (xn_ex ex)) _ _ g5) s5 n5 (t7.ext ex)) fun H8 u8 kp8 t8 hl8 hv8 => ?_
  have e8 := keep_l nw e7 kp8
  refine q_app (z := .oper) (ev_var rfl) hl8 hv8 (by decide) (by decide +kernel) (fun Hx ex => em_size rfl (da_xn (e8.trans (xn_ex ex)) _ _ g5) s5 n5 (t8.ext ex)) fun H9 u9 kp9 t9 hl9 hv9 => ?_
  have e9 := keep_l nw e8 kp9
  refine q_app (z := .reason (.tuple [.str "fit", .int 60])) (ev_var rfl) hl9 hv9 (by decide) (by decide +kernel) (fun Hx ex => em_ap3 (D := Dg) rfl (fun Hy => ew_tup (ea_w1 (ew_c (.int _)) (ea_w1 (ew_c (.int _)) (ea_w1 (ew_c (.int _)) (ea_w1 (ew_tup (ea_w1 (ew_c (.int _)) (ea_w1 (ew_c (.int _)) ea_w0)) (by show 2 ≤ 100000; decide)) (ea_w1 (ew_tup ea_w0 (by show 0 ≤ 100000; decide)) (ea_w1 (ew_tup (ea_w1 (ew_tup (ea_w1 (ew_c (.int _)) (ea_w1 (ew_c (.int _)) (ea_w1 (ew_c (.int _)) ea_w0))) (by show 3 ≤ 100000; decide)) ea_w0) (by show 1 ≤ 100000; decide)) ea_w0)))))) (by show 6 ≤ 100000; decide)) rfl (gW.ke (ke_xn (e9.trans (xn_ex ex)))) Dg_s Dg_d (by decide) (by decide) (by decide) (fun E H1 Q' hf => ap_fit Dg_fit hf) (fun y h => by cases h) (t9.ext ex)) fun H10 u10 kp10 t10 hl10 hv10 => ?_
  have e10 := keep_l nw e9 kp10
  refine q_app (z := .reason (.tuple [.str "fit", .int 80])) (ev_var rfl) hl10 hv10 (by decide) (by decide +kernel) (fun Hx ex => em_ap3 (D := Dh) rfl (fun Hy => ew_tup (ea_w1 (ew_c (.int _)) (ea_w1 (ew_c (.int _)) (ea_w1 (ew_c (.int _)) (ea_w1 (ew_tup (ea_w1 (ew_c (.int _)) ea_w0) (by show 1 ≤ 100000; decide)) (ea_w1 (ew_tup (ea_w1 (ew_tup (ea_w1 (ew_c (.int _)) (ea_w1 (ew_c (.str _)) (ea_w1 (ew_tup (ea_w1 (ew_c (.int _)) ea_w0) (by show 1 ≤ 100000; decide)) ea_w0))) (by show 3 ≤ 100000; decide)) ea_w0) (by show 1 ≤ 100000; decide)) (ea_w1 (ew_tup ea_w0 (by show 0 ≤ 100000; decide)) ea_w0)))))) (by show 6 ≤ 100000; decide)) rfl (gW.ke (ke_xn (e10.trans (xn_ex ex)))) Dh_s Dh_d (by decide) (by decide) (by decide) (fun E H1 Q' hf => ap_fit Dh_fit hf) (fun y h => by cases h) (t10.ext ex)) fun H11 u11 kp11 t11 hl11 hv11 => ?_
  have e11 := keep_l nw e10 kp11
  refine q_app (z := .reason (.tuple [.str "world"])) (ev_var rfl) hl11 hv11 (by decide) (by decide +kernel) (fun Hx ex => em_ap3 (D := Di) rfl (fun Hy => ew_tup (ea_w1 (ew_c (.int _)) (ea_w1 (ew_c (.int _)) (ea_w1 (ew_c (.int _)) (ea_w1 (ew_tup ea_w0 (by show 0 ≤ 100000; decide)) (ea_w1 (ew_tup (ea_w1 (ew_tup (ea_w1 (ew_c (.int _)) (ea_w1 (ew_c (.str _)) (ea_w1 (ew_tup (ea_w1 (ew_c (.int _)) ea_w0) (by show 1 ≤ 100000; decide)) ea_w0))) (by show 3 ≤ 100000; decide)) ea_w0) (by show 1 ≤ 100000; decide)) (ea_w1 (ew_tup ea_w0 (by show 0 ≤ 100000; decide)) ea_w0)))))) (by show 6 ≤ 100000; decide)) rfl (gW.ke (ke_xn (e11.trans (xn_ex ex)))) Di_s Di_d (by decide) (by decide) (by decide) (fun E H1 Q' hf => .inr (.inl ⟨Di_fit, fun c hc => (by cases hc), Di_no, hf⟩)) (fun y h => by cases h) (t11.ext ex)) fun H12 u12 kp12 t12 hl12 hv12 => ?_
  have e12 := keep_l nw e11 kp12
  have pr : ∀ {a b : Str} {σ : L2.St} {H : Hp}, EvDt K (tTup (tCons (tC (.str a)) (tCons (tC (.str b)) tNil))) σ H (.tuple [.str a, .str b]) := fun {a b σ H} => ew_tup (ea_w1 (ew_c (.str _)) (ea_w1 (ew_c (.str _)) ea_w0)) (by show 2 ≤ 100000; decide)
  refine q_asgN (K := K) (ds := toldD [.world, .world, .world, .world, .oper, .oper]) (en_cat2 (en_e (en_rep (n := 4) (en_e (en_lst (ea_w1 pr ea_w0) (by show 1 ≤ 100000; decide))) ev_c (by decide) (by decide) (by decide))) (en_e (en_rep (n := 2) (en_e (en_lst (ea_w1 pr ea_w0) (by show 1 ≤ 100000; decide))) ev_c (by decide) (by decide) (by decide))) (by decide) (by decide)) fun dl H13 ds hdn e13 hdl hdv => ?_
  have e03 := e12.trans (xn_ex e13)
  refine s_ret (v := .bl true) (ev_is (ev_eqD (evd_told (ks := toldP) (ev_var rfl) (e13 _ _ hl12) (daa_ex e13 _ _ hv12) okP) (evd_ee (ds := toldD toldP) (en_e (en_cat2 (ee_var rfl hdl hdv) (en_e (en_lst (ea_w1 (ew_tup (ea_w1 (ew_c (.str _)) (ea_w1 (ew_c (.str _)) (ea_w1 (ew_tup (ea_w1 (ew_c (.str _)) (ea_w1 (ew_c (.int _)) ea_w0)) (by show 2 ≤ 100000; decide)) ea_w0))) (by show 3 ≤ 100000; decide)) (ea_w1 (ew_tup (ea_w1 (ew_c (.str _)) (ea_w1 (ew_c (.str _)) (ea_w1 (ew_tup (ea_w1 (ew_c (.str _)) (ea_w1 (ew_c (.int _)) ea_w0)) (by show 2 ≤ 100000; decide)) ea_w0))) (by show 3 ≤ 100000; decide)) (ea_w1 (ew_tup (ea_w1 (ew_c (.str _)) (ea_w1 (ew_c (.str _)) (ea_w1 (ew_tup (ea_w1 (ew_c (.str _)) ea_w0) (by show 1 ≤ 100000; decide)) ea_w0))) (by show 3 ≤ 100000; decide)) ea_w0))) (by show 3 ≤ 100000; decide))) (by decide) (by decide))) (nds_told okP)) toldP_sh toldP_sh) (congrArg V.bl toldP_eq)) fun H14 e14 => ?_
  have e04 := e03.trans (xn_ex e14)
  refine q H14 (fun b o hb hn ho => e04 _ _ (base3 b o hb hn) ho) ?_ (t12.ext (e13.trans e14))
  obtain ⟨x, y, z, hdd⟩ := dc3
  exact ⟨x, y, z, e04 _ _ hdd fun _ z => by cases z⟩
end
end Kz
set_option Elab.async false
set_option linter.all false
set_option maxRecDepth 100000
set_option maxHeartbeats 4000000
set_option exponentiation.threshold 500
namespace Kz
open PySem PySem.Spec PyProof.Rows L2 Evl Vr
local macro_rules | `(tactic| walk_at "sc") => `(tactic| first | (with_reducible assumption) | (with_reducible exact sc_mul (by omega)) | (with_reducible exact sc_mulr (by omega)) | (with_reducible exact sc_div (by omega) (by decide)) | (show (0 : Int) < _; omega) | (show _ ≠ (0 : Int); omega) | (with_reducible rfl) | decide)
local macro_rules | `(tactic| walk_at "sq") => `(tactic| first | assumption | exact sq_of (by assumption) | exact st_of (by assumption))
local macro_rules | `(tactic| walk_at "pl") => `(tactic| first | assumption | exact pl_int | exact pl_bl | exact pl_str | exact pl_non | exact pl_lst (by assumption) | exact pl_tup (by assumption) | exact pl_dK (by assumption))
local macro_rules | `(tactic| walk_at "rv") => `(tactic| first
  | with_reducible exact rv_I0
  | with_reducible exact ru_neg
  | ((with_reducible apply rv_I); walk_at "sc")
  | ((with_reducible apply rv_ixL); walk_at "sq"; first | rfl | assumption)
  | ((with_reducible apply rv_ixT); walk_at "sq"; first | rfl | assumption)
  | ((with_reducible apply rv_eq); rfl) | ((with_reducible apply rv_ne); rfl))
local macro_rules | `(tactic| walk_at "rc") => `(tactic| first
  | with_reducible exact rc_I1 | with_reducible exact rc_B1 | with_reducible exact rc_I2 | ((with_reducible apply rc_repr); walk_at "sc") | ((with_reducible apply rc_lenL); walk_at "sq")
  | ((with_reducible apply rc_isiInt); walk_at "pl") | ((with_reducible apply rc_isiBool); walk_at "pl"))
local macro_rules | `(tactic| walk_at "ea") => `(tactic| first
  | with_reducible exact ea_nil | ((with_reducible apply ea_cons); walk_at "ev"; walk_at "ea"))
local macro_rules | `(tactic| walk_at "pow") => `(tactic| first
  | with_reducible exact ev_pow (a := 10) (b := 9) (c := 1000000000) (by decide +kernel) (by decide +kernel)
  | with_reducible exact ev_pow (a := 10) (b := 10) (c := 10000000000) (by decide +kernel) (by decide +kernel)
  | with_reducible exact ev_pow (a := 10) (b := 12) (c := 1000000000000) (by decide +kernel) (by decide +kernel)
  | with_reducible exact ev_pow (a := 10) (b := 17) (c := 100000000000000000) (by decide +kernel) (by decide +kernel)
  | with_reducible exact ev_pow (a := 10) (b := 20) (c := 100000000000000000000) (by decide +kernel) (by decide +kernel)
  | with_reducible exact ev_pow (a := 10) (b := 29) (c := 100000000000000000000000000000) (by decide +kernel) (by decide +kernel)
  | with_reducible exact ev_pow (a := 10) (b := 30) (c := 1000000000000000000000000000000) (by decide +kernel) (by decide +kernel)
  | with_reducible exact ev_pow (a := 10) (b := 40) (c := 10000000000000000000000000000000000000000) (by decide +kernel) (by decide +kernel)
  | with_reducible exact ev_pow (a := 10) (b := 57) (c := 1000000000000000000000000000000000000000000000000000000000) (by decide +kernel) (by decide +kernel)
  | with_reducible exact ev_pow (a := 10) (b := 58) (c := 10000000000000000000000000000000000000000000000000000000000) (by decide +kernel) (by decide +kernel)
  | with_reducible exact ev_pow (a := 10) (b := 59) (c := 100000000000000000000000000000000000000000000000000000000000) (by decide +kernel) (by decide +kernel)
  | with_reducible exact ev_pow (a := 10) (b := 60) (c := 1000000000000000000000000000000000000000000000000000000000000) (by decide +kernel) (by decide +kernel))
local macro_rules | `(tactic| walk_at "call") => `(tactic| (intro H9 e9; first | exact ⟨_, rfl, rfl⟩ | exact ⟨_, _, rfl, rfl⟩ | exact ⟨_, _, _, rfl, rfl⟩ | exact ⟨_, rfl, by walk_at "pl", rfl⟩ | (refine ⟨_, _, _, rfl, ?_, rfl⟩; first | exact Plain.ex e9 (by assumption) | walk_at "pl") | (refine ⟨_, rfl, ?_, rfl⟩; first | exact Plain.ex e9 (by assumption) | walk_at "pl")))
local macro_rules | `(tactic| walk_at "ev") => `(tactic| first
  | with_reducible exact ev_c
  | exact ev_var rfl
  | walk_at "pow"
  | ((with_reducible apply ev_op); walk_at "ev"; walk_at "ev"; walk_at "rv")
  | ((with_reducible apply ev_un); walk_at "ev"; walk_at "rv")
  | ((with_reducible apply ev_cb); walk_at "ea"; walk_at "rc")
  | ((with_reducible apply ev_callP); walk_at "ea"; walk_at "call")
  | ((with_reducible apply ev_chain); walk_at "ev"; walk_at "ev"; walk_at "rv"; walk_at "ev"; walk_at "rv")
  | ((with_reducible apply ev_andV); walk_at "ev"; intro _; walk_at "ev")
  | ((with_reducible apply ev_orV); walk_at "ev"; intro _; walk_at "ev")
  | ((with_reducible apply ev_ite); walk_at "et"; intro _; walk_at "ev"; intro _; walk_at "ev")
  | ((with_reducible apply ev_notV); walk_at "ev"))
local macro_rules | `(tactic| walk_at "et") => `(tactic| first
  | ((with_reducible apply et_test); walk_at "ev")
  | ((with_reducible apply et_B); walk_at "ev")
  | ((with_reducible apply et_and); walk_at "et"; intro _; walk_at "et")
  | ((with_reducible apply et_or); walk_at "et"; intro _; walk_at "et")
  | ((with_reducible apply et_not); walk_at "et"))
open LamX Wo En
theorem okA {ks : List Out} (h : ks.all okO = true) : ∀ k ∈ ks, okO k = true := List.all_eq_true.mp h
section
variable {K : PySem.W.Frag} {H : Hp} {σ : L2.St} {TL : List (Addr × Str)} {C : Cs} {CW CR : Addr} {ts tk : TA} {i j : Nat} {to : TE} {v u z : V} {d y : PyData} {q0 pR : Addr} {W : Wd} {P : List V → Hp → Prop} {E : XK} {m : Str} {sp : Sp} {ks : List V} {f s : Int}
/-- a method of a new object -/
theorem go_methN {R : Addr → Hp → Prop} {P : Addr → List V → Hp → Prop} {Q : VK} (h : ∀ Q : VK, (∀ a H1, R a H1 → Q (.ref a) H1) → to σ H Q) (ho : ∀ a H1, R a H1 → ∃ dx fs, H1 a = some (.ins CR dx fs) ∧ fs.lookup m = none) (ha : ∀ a H1, R a H1 → EvAP ts σ H1 (P a)) (k : ∀ a H1 vs H2, R a H1 → Ex H1 H2 → P a vs H2 → sp (.ref a :: vs) H2 Q E) : tMeth CR m sp [] E to ts σ H Q :=
  h _ fun a H1 r => by
    obtain ⟨dx, fs, h1, h2⟩ := ho a H1 r
    exact ⟨a, dx, fs, rfl, h1, h2, ha a H1 r H1 (Ex.refl H1) _ fun vs H2 e2 p => by
      rw [List.append_nil]
      exact k a H1 vs H2 r e2 p⟩
theorem em_rkBad (ha : EvA ts σ H [v]) (hk : EvA tk σ H [z]) (xa : ∀ H1, EvA ts σ H1 [v]) (xk : ∀ H1, EvA tk σ H1 [z]) (hd : Da K H v d) (hT : Tabs TL H) : Em K TL (tLam TL (TTmet K C) fun E => tMakeK CR 1 1 (spRInit K CW CR C.WE C.IN) (fun vs zs => vs ++ zs) E ts tk) σ H .world :=
  em_of (v := .non) hT (fun E H1 Q' e1 hf => go_makeK (xa H1) (xk H1) fun H2 x dx e2 hx eN => ⟨x, dx, v, z, rfl, upd_same, .inl ⟨d, da_ex (e2.trans eN) _ _ (da_xn e1 _ _ hd), hf _ (e2.trans eN)⟩⟩) fun y h => by cases h
theorem em_rkNum (xa : ∀ H1, EvA ts σ H1 [.ref q0]) (xk : ∀ H1, EvA tk σ H1 [z]) (hW : WdAt K CW H q0 W) (w0 : 0 ≤ W.t) (w1 : W.t ≤ 500000) (hy : Da K H z y) (hr : rqD y = true) (hn : withinD 1 6 y = false) (hT : Tabs TL H) : Em K TL (tLam TL (TTmet K C) fun E => tMakeK CR 1 1 (spRInit K CW CR C.WE C.IN) (fun vs zs => vs ++ zs) E ts tk) σ H (.number y) :=
  em_of (v := z) hT (fun E H1 Q' e1 hf => go_makeK (xa H1) (xk H1) fun H2 x dx e2 hx eN => ⟨x, dx, .ref q0, z, rfl, upd_same, .inr ⟨q0, W, rfl, (hW.ke (ke_xn e1)).ex (e2.trans eN), w0, w1, (da_ex (e2.trans eN) _ _ (da_xn e1 _ _ hy)).pl, fun _ => hf _ (e2.trans eN), fun h => (by rw [hy.within, hn] at h; cases h)⟩⟩) fun y' h => by cases h; exact hy.rq hr
theorem em_rkFine (xa : ∀ H1, EvA ts σ H1 [.ref q0]) (xk : ∀ H1, EvA tk σ H1 [.int s]) (hW : WdAt K CW H q0 W) (w0 : 0 ≤ W.t) (w1 : W.t ≤ 500000) (hs : isWithin 1 6 (.int s) = true) (hT : Tabs TL H) : Em K TL (tLam TL (TTmet K C) fun E => tMakeK CR 1 1 (spRInit K CW CR C.WE C.IN) (fun vs zs => vs ++ zs) E ts tk) σ H .fine :=
  em_of (v := .non) hT (fun E H1 Q' e1 hf => go_makeK (xa H1) (xk H1) fun H2 x dx e2 hx eN => ⟨x, dx, .ref q0, .int s, rfl, upd_same, .inr ⟨q0, W, rfl, (hW.ke (ke_xn e1)).ex (e2.trans eN), w0, w1, pl_int, fun h => (by rw [hs] at h; cases h), fun _ s' _ H3 x3 _ => ⟨rfl, hf H1 (Ex.refl H1) _ _ (x3.out (e2.trans eN) (fresh_back e2 hx))⟩⟩⟩) fun y' h => by cases h
theorem em_rdBad (xa : ∀ H1, EvA ts σ H1 [v]) (hd : Da K H v d) (hT : Tabs TL H) : Em K TL (tLam TL (TTmet K C) fun E => tMake CR (spRInit K CW CR C.WE C.IN) [.int 2] E ts) σ H .world :=
  em_of (v := .non) hT (fun E H1 Q' e1 hf => go_makeD (xa H1) fun H2 x dx e2 hx eN => ⟨x, dx, v, .int 2, rfl, upd_same, .inl ⟨d, da_ex (e2.trans eN) _ _ (da_xn e1 _ _ hd), hf _ (e2.trans eN)⟩⟩) fun y h => by cases h
/-- ring.put(..) -/
theorem em_putBad (hi : σ[i]? = some (some (.ref pR))) (hj : σ[j]? = some (some v)) (hd : Da K H v d) (hR : RgAt K CR H pR f s ks) (hks : ∃ r, ks = .ref q0 :: r) (hW : WdAt K CW H q0 W) (w0 : 0 ≤ W.t) (w1 : W.t ≤ 500000) (s1 : 1 ≤ s) (s6 : s ≤ 6) (f0 : 0 ≤ f) (f1 : f ≤ 500000) (hl : ks.length ≤ 999) (hT : Tabs TL H) :
    Em K TL (tLam TL (TTmet K C) fun E => tMeth CR "put" (spPut K CW CR C.WE C.OE) [] E (tVar i) (tCons (tVar j) tNil)) σ H .world :=
  em_of (v := .non) hT (fun E H1 Q' e1 hf => by
    obtain ⟨dx, aK, aW, hob, _⟩ := (hR.ke (ke_xn e1)).ob
    obtain ⟨r, hr⟩ := hks
    exact go_meth (vs := [v]) (ev_var hi) hob rfl (ea_cons (ev_var hj) ea_nil) fun H2 e2 => ⟨pR, q0, v, W, f, s, ks, r, rfl, (hR.ke (ke_xn e1)).ex e2, hr, (hW.ke (ke_xn e1)).ex e2, w0, w1, s1, s6, f0, f1, hl, .inl ⟨d, da_ex e2 _ _ (da_xn e1 _ _ hd), hf _ e2⟩⟩) fun y h => by cases h
theorem em_putOp {U : Wd} (hi : σ[i]? = some (some (.ref pR))) (ha : ∀ H1, ExtN H H1 → EvAP ts σ H1 (fun vs H' => ∃ q, vs = [.ref q] ∧ WkAt K CW H' q U)) (hU : U.t ≠ f + (ks.length : Int)) (hR : RgAt K CR H pR f s ks) (hks : ∃ r, ks = .ref q0 :: r) (hW : WdAt K CW H q0 W) (w0 : 0 ≤ W.t) (w1 : W.t ≤ 500000) (s1 : 1 ≤ s) (s6 : s ≤ 6) (f0 : 0 ≤ f) (f1 : f ≤ 500000) (hl : ks.length ≤ 999) (hT : Tabs TL H) :
    Em K TL (tLam TL (TTmet K C) fun E => tMeth CR "put" (spPut K CW CR C.WE C.OE) [] E (tVar i) ts) σ H .oper :=
  em_of (v := .non) hT (fun E H1 Q' e1 hf => by
    obtain ⟨dx, aK, aW, hob, _⟩ := (hR.ke (ke_xn e1)).ob
    obtain ⟨r, hr⟩ := hks
    exact go_methP (ev_var hi) hob rfl (ha H1 e1) fun vs H2 e2 ⟨q, hv, hq⟩ => (by subst hv; exact ⟨pR, q0, .ref q, W, f, s, ks, r, rfl, (hR.ke (ke_xn e1)).ex e2, hr, (hW.ke (ke_xn e1)).ex e2, w0, w1, s1, s6, f0, f1, hl, .inr ⟨q, U, rfl, hq, .inl ⟨hU, hf _ e2⟩⟩⟩)) fun y h => by cases h
theorem em_putFine {U B : Wd} {b : Addr} (hi : σ[i]? = some (some (.ref pR))) (ha : ∀ H1, ExtN H H1 → EvAP ts σ H1 (fun vs H' => ∃ q, vs = [.ref q] ∧ WkAt K CW H' q U)) (hU : U.t = f + (ks.length : Int)) (hB : WkAt K CW H b B) (hb : ks[ks.length - 1]? = some (.ref b)) (hwh : wholeT f s (f + (ks.length : Int) - 1) = true) (hR : RgAt K CR H pR f s ks) (hks : ∃ r, ks = .ref q0 :: r) (hW : WdAt K CW H q0 W) (w0 : 0 ≤ W.t) (w1 : W.t ≤ 500000) (s1 : 1 ≤ s) (s6 : s ≤ 6) (f0 : 0 ≤ f) (f1 : f ≤ 500000) (hl : ks.length ≤ 999) (hT : Tabs TL H) :
    Em K TL (tLam TL (TTmet K C) fun E => tMeth CR "put" (spPut K CW CR C.WE C.OE) [] E (tVar i) ts) σ H .fine :=
  em_of (v := .non) hT (fun E H1 Q' e1 hf => by
    obtain ⟨dx, aK, aW, hob, _⟩ := (hR.ke (ke_xn e1)).ob
    obtain ⟨r, hr⟩ := hks
    exact go_methP (ev_var hi) hob rfl (ha H1 e1) fun vs H2 e2 ⟨q, hv, hq⟩ => (by subst hv; exact ⟨pR, q0, .ref q, W, f, s, ks, r, rfl, (hR.ke (ke_xn e1)).ex e2, hr, (hW.ke (ke_xn e1)).ex e2, w0, w1, s1, s6, f0, f1, hl, .inr ⟨q, U, rfl, hq, .inr ⟨hU, .inr ⟨hwh, b, B, hb, (hB.ke (ke_xn e1)).ex e2⟩, fun p' u H3 _ e3 _ _ => hf H1 (Ex.refl H1) _ _ (e2.trans e3)⟩⟩⟩)) fun y h => by cases h
/-- what is no tick -/
theorem em_tkWorld (hi : σ[i]? = some (some (.ref pR))) (hj : σ[j]? = some (some v)) (hy : Da K H v y) (hr : rqD y = true) (hn : tickD f ks.length y = false) (hR : RgAt K CR H pR f s ks) (s1 : 1 ≤ s) (s6 : s ≤ 6) (f0 : 0 ≤ f) (f1 : f ≤ 500000) (hl : ks.length ≤ 1000) (hT : Tabs TL H) :
    Em K TL (tLam TL (TTmet K C) fun E => tMeth CR "world" (spAtR K CR C.IN) [] E (tVar i) (tCons (tVar j) tNil)) σ H (.number y) :=
  em_of (v := v) hT (fun E H1 Q' e1 hf => by
    obtain ⟨dx, aK, aW, hob, _⟩ := (hR.ke (ke_xn e1)).ob
    exact go_meth (vs := [v]) (ev_var hi) hob rfl (ea_cons (ev_var hj) ea_nil) fun H2 e2 => ⟨pR, v, f, s, ks, rfl, (hR.ke (ke_xn e1)).ex e2, s1, s6, f0, f1, hl, (da_ex e2 _ _ (da_xn e1 _ _ hy)).pl, fun t _ h => (by rw [hy.tick, hn] at h; cases h), fun _ => hf _ e2⟩) fun y' h => by cases h; exact hy.rq hr
theorem em_tkWork (hi : σ[i]? = some (some (.ref pR))) (hj : σ[j]? = some (some v)) (hy : Da K H v y) (hr : rqD y = true) (hn : tickD f ks.length y = false) (hR : RgAt K CR H pR f s ks) (s1 : 1 ≤ s) (s6 : s ≤ 6) (hT : Tabs TL H) :
    Em K TL (tLam TL (TTmet K C) fun E => tMeth CR "work" (spWork K CR C.IN) [] E (tVar i) (tCons (tVar j) tNil)) σ H (.number y) :=
  em_of (v := v) hT (fun E H1 Q' e1 hf => by
    obtain ⟨dx, aK, aW, hob, _⟩ := (hR.ke (ke_xn e1)).ob
    exact go_meth (vs := [v]) (ev_var hi) hob rfl (ea_cons (ev_var hj) ea_nil) fun H2 e2 => ⟨pR, v, f, s, ks, rfl, (hR.ke (ke_xn e1)).ex e2, s1, s6, (da_ex e2 _ _ (da_xn e1 _ _ hy)).pl, fun t _ h => (by rw [hy.tick, hn] at h; cases h), fun _ => hf _ e2⟩) fun y' h => by cases h; exact hy.rq hr
theorem em_tkBad {m : Str} (hi : σ[i]? = some (some (.ref pR))) (hj : σ[j]? = some (some v)) (hy : Da K H v y) (hr : rqD y = true) (hn : tickD f ks.length y = false) (hR : RgAt K CR H pR f s ks) (hm : ∀ aK aW, (rfs f (f + (ks.length : Int) - 1) s aK aW).lookup m = none) (s1 : 1 ≤ s) (s6 : s ≤ 6) (hT : Tabs TL H) :
    Em K TL (tLam TL (TTmet K C) fun E => tMeth CR m (spBadT K CR C.IN) [] E (tVar i) (tCons (tVar j) tNil)) σ H (.number y) :=
  em_of (v := v) hT (fun E H1 Q' e1 hf => by
    obtain ⟨dx, aK, aW, hob, _⟩ := (hR.ke (ke_xn e1)).ob
    exact go_meth (vs := [v]) (ev_var hi) hob (hm aK aW) (ea_cons (ev_var hj) ea_nil) fun H2 e2 => ⟨pR, v, f, s, ks, rfl, (hR.ke (ke_xn e1)).ex e2, s1, s6, (da_ex e2 _ _ (da_xn e1 _ _ hy)).pl, by rw [hy.tick]; exact hn, hf _ e2⟩) fun y' h => by cases h; exact hy.rq hr
end
def toldR (y z : PyData) : List Out := [.world, .number y, .world, .world, .oper, .oper, .oper, .fine, .number z, .number z, .number z, .number z]
theorem toldR_all : (spDs.all fun y => tkDs.all fun z => SeqAt.shaped (.list (toldD (toldR y z))) && PyData.eqv (.list (toldD (toldR y z))) (.list (toldD (toldR y z)))) = true := by decide +kernel
theorem wkZ {K : PySem.W.Frag} {C p : Addr} {H : Hp} {t n : Int} (h : WdAt K C H p (Wz t n)) : WkAt K C H p (Wz t n) := ⟨h, (by show 0 ≤ 12; decide), fun t h => (by cases h), List.nodup_nil⟩
theorem wkC {K : PySem.W.Frag} {C p : Addr} {H : Hp} (h : WdAt K C H p Wc) : WkAt K C H p Wc := ⟨h, by decide, fun t h => by
  simp only [Wc, List.mem_cons, List.not_mem_nil, or_false] at h
  rcases h with rfl | rfl <;> decide, by decide⟩
end Kz
set_option Elab.async false
set_option linter.all false
set_option maxRecDepth 100000
set_option maxHeartbeats 4000000
set_option exponentiation.threshold 500
namespace Kz
open PySem PySem.Spec PyProof.Rows L2 Evl Vr
local macro_rules | `(tactic| walk_at "sc") => `(tactic| first | (with_reducible assumption) | (with_reducible exact sc_mul (by omega)) | (with_reducible exact sc_mulr (by omega)) | (with_reducible exact sc_div (by omega) (by decide)) | (show (0 : Int) < _; omega) | (show _ ≠ (0 : Int); omega) | (with_reducible rfl) | decide)
local macro_rules | `(tactic| walk_at "sq") => `(tactic| first | assumption | exact sq_of (by assumption) | exact st_of (by assumption))
local macro_rules | `(tactic| walk_at "pl") => `(tactic| first | assumption | exact pl_int | exact pl_bl | exact pl_str | exact pl_non | exact pl_lst (by assumption) | exact pl_tup (by assumption) | exact pl_dK (by assumption))
local macro_rules | `(tactic| walk_at "rv") => `(tactic| first
  | with_reducible exact rv_I0
  | with_reducible exact ru_neg
  | ((with_reducible apply rv_I); walk_at "sc")
  | ((with_reducible apply rv_ixL); walk_at "sq"; first | rfl | assumption)
  | ((with_reducible apply rv_ixT); walk_at "sq"; first | rfl | assumption)
  | ((with_reducible apply rv_eq); rfl) | ((with_reducible apply rv_ne); rfl))
local macro_rules | `(tactic| walk_at "rc") => `(tactic| first
  | with_reducible exact rc_I1 | with_reducible exact rc_B1 | with_reducible exact rc_I2 | ((with_reducible apply rc_repr); walk_at "sc") | ((with_reducible apply rc_lenL); walk_at "sq")
  | ((with_reducible apply rc_isiInt); walk_at "pl") | ((with_reducible apply rc_isiBool); walk_at "pl"))
local macro_rules | `(tactic| walk_at "ea") => `(tactic| first
  | with_reducible exact ea_nil | ((with_reducible apply ea_cons); walk_at "ev"; walk_at "ea"))
local macro_rules | `(tactic| walk_at "pow") => `(tactic| first
  | with_reducible exact ev_pow (a := 10) (b := 9) (c := 1000000000) (by decide +kernel) (by decide +kernel)
  | with_reducible exact ev_pow (a := 10) (b := 10) (c := 10000000000) (by decide +kernel) (by decide +kernel)
  | with_reducible exact ev_pow (a := 10) (b := 12) (c := 1000000000000) (by decide +kernel) (by decide +kernel)
  | with_reducible exact ev_pow (a := 10) (b := 17) (c := 100000000000000000) (by decide +kernel) (by decide +kernel)
  | with_reducible exact ev_pow (a := 10) (b := 20) (c := 100000000000000000000) (by decide +kernel) (by decide +kernel)
  | with_reducible exact ev_pow (a := 10) (b := 29) (c := 100000000000000000000000000000) (by decide +kernel) (by decide +kernel)
  | with_reducible exact ev_pow (a := 10) (b := 30) (c := 1000000000000000000000000000000) (by decide +kernel) (by decide +kernel)
  | with_reducible exact ev_pow (a := 10) (b := 40) (c := 10000000000000000000000000000000000000000) (by decide +kernel) (by decide +kernel)
  | with_reducible exact ev_pow (a := 10) (b := 57) (c := 1000000000000000000000000000000000000000000000000000000000) (by decide +kernel) (by decide +kernel)
  | with_reducible exact ev_pow (a := 10) (b := 58) (c := 10000000000000000000000000000000000000000000000000000000000) (by decide +kernel) (by decide +kernel)
  | with_reducible exact ev_pow (a := 10) (b := 59) (c := 100000000000000000000000000000000000000000000000000000000000) (by decide +kernel) (by decide +kernel)
  | with_reducible exact ev_pow (a := 10) (b := 60) (c := 1000000000000000000000000000000000000000000000000000000000000) (by decide +kernel) (by decide +kernel))
local macro_rules | `(tactic| walk_at "call") => `(tactic| (intro H9 e9; first | exact ⟨_, rfl, rfl⟩ | exact ⟨_, _, rfl, rfl⟩ | exact ⟨_, _, _, rfl, rfl⟩ | exact ⟨_, rfl, by walk_at "pl", rfl⟩ | (refine ⟨_, _, _, rfl, ?_, rfl⟩; first | exact Plain.ex e9 (by assumption) | walk_at "pl") | (refine ⟨_, rfl, ?_, rfl⟩; first | exact Plain.ex e9 (by assumption) | walk_at "pl")))
local macro_rules | `(tactic| walk_at "ev") => `(tactic| first
  | with_reducible exact ev_c
  | exact ev_var rfl
  | walk_at "pow"
  | ((with_reducible apply ev_op); walk_at "ev"; walk_at "ev"; walk_at "rv")
  | ((with_reducible apply ev_un); walk_at "ev"; walk_at "rv")
  | ((with_reducible apply ev_cb); walk_at "ea"; walk_at "rc")
  | ((with_reducible apply ev_callP); walk_at "ea"; walk_at "call")
  | ((with_reducible apply ev_chain); walk_at "ev"; walk_at "ev"; walk_at "rv"; walk_at "ev"; walk_at "rv")
  | ((with_reducible apply ev_andV); walk_at "ev"; intro _; walk_at "ev")
  | ((with_reducible apply ev_orV); walk_at "ev"; intro _; walk_at "ev")
  | ((with_reducible apply ev_ite); walk_at "et"; intro _; walk_at "ev"; intro _; walk_at "ev")
  | ((with_reducible apply ev_notV); walk_at "ev"))
local macro_rules | `(tactic| walk_at "et") => `(tactic| first
  | ((with_reducible apply et_test); walk_at "ev")
  | ((with_reducible apply et_B); walk_at "ev")
  | ((with_reducible apply et_and); walk_at "et"; intro _; walk_at "et")
  | ((with_reducible apply et_or); walk_at "et"; intro _; walk_at "et")
  | ((with_reducible apply et_not); walk_at "et"))
open LamX Wo En
section
variable {P : Program} {w : World} {K : PySem.W.Frag} {mg : Str → Option Value} {base : Heap}
theorem ok_ring (T : Txt K mg w) {c PP PR PL : Addr} (TB : TabB base mg c PR) (nd3 : Nd3 PP PR PL) (FR : FunL K "_law_ring_right" "_law_ring_right" s_law_ring_right c T.a_law_ring_right T.fd_law_ring_right) : FnG P w K mg base CX0 15 T.a_law_ring_right T.fd_law_ring_right ["dice", "world"] (spRight K T.C_World PP PR PL) := by
  have G_law_pick := ok_pick (P := P) (w := w) (base := base) T
  have G_law_no_world := ok_no_world (P := P) (w := w) (base := base) T
  have G_World___init__ := ok_init (P := P) (w := w) (base := base) T
  have G_Ring___init__ := ok_rinit (P := P) (w := w) (base := base) T
  have G_Ring_put := ok_put (P := P) (w := w) (base := base) T
  have G_Ring_world := ok_world_at (P := P) (w := w) (base := base) T
  have G_Ring_work := ok_work (P := P) (w := w) (base := base) T
  have G_Ring_back_to := ok_back_to (P := P) (w := w) (base := base) T
  have G_Ring_from_tick := ok_from_tick (P := P) (w := w) (base := base) T
  have G_Ring___contains__ := ok_rcontains (P := P) (w := w) (base := base) T
  obtain ⟨ocM, odM, kVM, docM, pmM, anM, cdM, ctM, oslM, hfM, lkM, hcM⟩ := T.F_law_met.ex
  rw [hfM] at lkM
  have hbM := T.b_law_met
  rw [hfM] at hbM
  have hmT : (PR, qR) ∈ TLs PP PR PL := List.mem_cons_of_mem _ (List.mem_cons_self ..)
  have huT := nd3.uR
  refine FR.okG sc_law_ring_right (fun vs H Q E h => ?_) (fun A outer s H vs Q E hr hg h => ?_)
  · obtain ⟨_, _, rfl, _⟩ := h; rfl
  obtain ⟨p, q0, rfl, hd, hW, hT, q⟩ := h
  have gd0 : (A.deeper (envOfC "_law_ring_right" (defScope s_law_ring_right) s.heap.objs.size T.a_law_ring_right (.ref c))).guards = some [] := hg
  have hu1 : (A.deeper (envOfC "_law_ring_right" (defScope s_law_ring_right) s.heap.objs.size T.a_law_ring_right (.ref c))).units + 100 < cLine := by have := hr.un; omega
  have hu64 : (A.deeper (envOfC "_law_ring_right" (defScope s_law_ring_right) s.heap.objs.size T.a_law_ring_right (.ref c))).units + 64 < cLine := by omega
  refine ⟨_, (pss_cons (ps_asg (pe_tup (pa_cons (pe_call G_law_no_world (hr.mono (by decide)) (by rfl) T.g_law_no_world T.F_law_no_world.kp T.b_law_no_world .nil pass0 (pa_cons (pv 0) pa_nil)) (pa_cons (pe_meth (E := E0) (pe_makeK (E := E0) T.mk_Ring G_Ring___init__ (hr.mono (by decide)) (by rfl) T.g_Ring T.kb_Ring___init__ passL (pa_cons (pv 1) pa_nil) (pk_cons pe_int pk_nil)) T.cl_Ring T.m_Ring_put G_Ring_put (hr.mono (by decide)) T.b_Ring_put .nil passL (pa_cons (pe_make T.mk_World G_World___init__ (hr.mono (by decide)) (by rfl) T.g_World T.b_World___init__ .nil pass0 (pa_cons pe_int (pa_cons pe_int (pa_cons pe_int (pa_cons (pe_tup pa_nil) pa_nil))))) pa_nil)) pa_nil))) (pg_tup rfl (pgs_cons (pg_name (i := 4) sc_law_ring_right.nd rfl (.inr rfl)) (pgs_cons (pg_name (i := 6) sc_law_ring_right.nd rfl (.inr rfl)) pgs_nil))))
  (pss_cons (ps_set (i := 5) sc_law_ring_right.nd rfl (.inr rfl) (pe_call G_law_pick (hr.mono (by decide)) (by rfl) T.g_law_pick T.F_law_pick.kp T.b_law_pick .nil pass0 (pa_cons (pv 0) (pa_cons (pe_lst (pa_cons pe_non (pa_cons pe_int (pa_cons pe_int (pa_cons pe_bl (pa_cons pe_str (pa_cons (pe_tup (pa_cons pe_int pa_nil)) (pa_cons (pe_un un_neg pe_int) (pa_cons (pe_op op_pow pe_int pe_int) pa_nil))))))))) pa_nil))))
  (pss_cons (ps_set (i := 7) sc_law_ring_right.nd rfl (.inr rfl) (pe_call G_law_pick (hr.mono (by decide)) (by rfl) T.g_law_pick T.F_law_pick.kp T.b_law_pick .nil pass0 (pa_cons (pv 0) (pa_cons (pe_lst (pa_cons pe_non (pa_cons pe_int (pa_cons pe_int (pa_cons pe_bl (pa_cons pe_str (pa_cons (pe_un un_neg pe_int) (pa_cons (pe_op op_pow pe_int pe_int) pa_nil)))))))) pa_nil))))
  (pss_cons (ps_set (i := 2) sc_law_ring_right.nd rfl (.inl rfl) (pe_lst (pa_cons (pe_lamcall (T := TLs PP PR PL) (TT := TTmet K (csOf T)) rfl T.g_law_met T.F_law_met.kp lkM hcM hbM sc_law_met rfl (Or.inl rfl) (met_gives' T gd0 hu1 ⟨rfl, rfl, rfl, rfl⟩) TB rfl hmT huT (k := 12) (hr.mono (by decide)) (lamS_by (by kernel_rfl)) rfl (fun _ _ _ _ _ => rfl) (fun _ _ _ _ E _ _ hr => (pe_makeK T.mk_Ring G_Ring___init__ (hr.mono (by decide)) (by rfl) T.g_Ring T.kb_Ring___init__ (passes_call (W := fun cls d _ H => E cls d H) (takes_of rfl rfl rfl rfl) (fun _ _ _ _ h => h)) (pa_cons (pv 4) pa_nil) (pk_cons (pv 7) pk_nil)))) pa_nil)))
  (pss_cons (ps_expr (pe_bm PySem.F.plainAttrs_list PySem.F.slot_list_append PySem.F.type_list_append mt_append (pv 2) (pa_cons (pe_lamcall (T := TLs PP PR PL) (TT := TTmet K (csOf T)) rfl T.g_law_met T.F_law_met.kp lkM hcM hbM sc_law_met rfl (Or.inl rfl) (met_gives' T gd0 hu1 ⟨rfl, rfl, rfl, rfl⟩) TB rfl hmT huT (k := 12) (hr.mono (by decide)) (lamS_by (by kernel_rfl)) rfl (fun _ _ _ _ _ => rfl) (fun _ _ _ _ E _ _ hr => (pe_makeK T.mk_Ring G_Ring___init__ (hr.mono (by decide)) (by rfl) T.g_Ring T.kb_Ring___init__ (passes_call (W := fun cls d _ H => E cls d H) (takes_of rfl rfl rfl rfl) (fun _ _ _ _ h => h)) (pa_cons (pv 1) pa_nil) (pk_cons (pv 7) pk_nil)))) pa_nil)))
  (pss_cons (ps_expr (pe_bm PySem.F.plainAttrs_list PySem.F.slot_list_append PySem.F.type_list_append mt_append (pv 2) (pa_cons (pe_lamcall (T := TLs PP PR PL) (TT := TTmet K (csOf T)) rfl T.g_law_met T.F_law_met.kp lkM hcM hbM sc_law_met rfl (Or.inl rfl) (met_gives' T gd0 hu1 ⟨rfl, rfl, rfl, rfl⟩) TB rfl hmT huT (k := 12) (hr.mono (by decide)) (lamS_by (by kernel_rfl)) rfl (fun _ _ _ _ _ => rfl) (fun _ _ _ _ E _ _ hr => (pe_make T.mk_Ring G_Ring___init__ (hr.mono (by decide)) (by rfl) T.g_Ring T.b_Ring___init__ T.vd_Ring___init__ (passes_call (W := fun cls d _ H => E cls d H) (takes_of rfl rfl rfl rfl) (fun _ _ _ _ h => h)) (pa_cons (pv 4) pa_nil)))) pa_nil)))
  (pss_cons (ps_expr (pe_bm PySem.F.plainAttrs_list PySem.F.slot_list_append PySem.F.type_list_append mt_append (pv 2) (pa_cons (pe_lamcall (T := TLs PP PR PL) (TT := TTmet K (csOf T)) rfl T.g_law_met T.F_law_met.kp lkM hcM hbM sc_law_met rfl (Or.inl rfl) (met_gives' T gd0 hu1 ⟨rfl, rfl, rfl, rfl⟩) TB rfl hmT huT (k := 12) (hr.mono (by decide)) (lamS_by (by kernel_rfl)) rfl (fun _ _ _ _ _ => rfl) (fun _ _ _ _ E _ _ hr => (pe_meth (pv 6) T.cl_Ring T.m_Ring_put G_Ring_put (hr.mono (by decide)) T.b_Ring_put .nil (passes_call (W := fun cls d _ H => E cls d H) (takes_of rfl rfl rfl rfl) (fun _ _ _ _ h => h)) (pa_cons (pv 4) pa_nil)))) pa_nil)))
  (pss_cons (ps_expr (pe_bm PySem.F.plainAttrs_list PySem.F.slot_list_append PySem.F.type_list_append mt_append (pv 2) (pa_cons (pe_lamcall (T := TLs PP PR PL) (TT := TTmet K (csOf T)) rfl T.g_law_met T.F_law_met.kp lkM hcM hbM sc_law_met rfl (Or.inl rfl) (met_gives' T gd0 hu1 ⟨rfl, rfl, rfl, rfl⟩) TB rfl hmT huT (k := 12) (hr.mono (by decide)) (lamS_by (by kernel_rfl)) rfl (fun _ _ _ _ _ => rfl) (fun _ _ _ _ E _ _ hr => (pe_meth (pv 6) T.cl_Ring T.m_Ring_put G_Ring_put (hr.mono (by decide)) T.b_Ring_put .nil (passes_call (W := fun cls d _ H => E cls d H) (takes_of rfl rfl rfl rfl) (fun _ _ _ _ h => h)) (pa_cons (pv 1) pa_nil)))) pa_nil)))
  (pss_cons (ps_expr (pe_bm PySem.F.plainAttrs_list PySem.F.slot_list_append PySem.F.type_list_append mt_append (pv 2) (pa_cons (pe_lamcall (T := TLs PP PR PL) (TT := TTmet K (csOf T)) rfl T.g_law_met T.F_law_met.kp lkM hcM hbM sc_law_met rfl (Or.inl rfl) (met_gives' T gd0 hu1 ⟨rfl, rfl, rfl, rfl⟩) TB rfl hmT huT (k := 12) (hr.mono (by decide)) (lamS_by (by kernel_rfl)) rfl (fun _ _ _ _ _ => rfl) (fun _ _ _ _ E _ _ hr => (pe_meth (pv 6) T.cl_Ring T.m_Ring_put G_Ring_put (hr.mono (by decide)) T.b_Ring_put .nil (passes_call (W := fun cls d _ H => E cls d H) (takes_of rfl rfl rfl rfl) (fun _ _ _ _ h => h)) (pa_cons (pe_make T.mk_World G_World___init__ (hr.mono (by decide)) (by rfl) T.g_World T.b_World___init__ .nil pass0 (pa_cons pe_int (pa_cons pe_int (pa_cons pe_int (pa_cons (pe_tup pa_nil) pa_nil))))) pa_nil)))) pa_nil)))
  (pss_cons (ps_expr (pe_bm PySem.F.plainAttrs_list PySem.F.slot_list_append PySem.F.type_list_append mt_append (pv 2) (pa_cons (pe_lamcall (T := TLs PP PR PL) (TT := TTmet K (csOf T)) rfl T.g_law_met T.F_law_met.kp lkM hcM hbM sc_law_met rfl (Or.inl rfl) (met_gives' T gd0 hu1 ⟨rfl, rfl, rfl, rfl⟩) TB rfl hmT huT (k := 12) (hr.mono (by decide)) (lamS_by (by kernel_rfl)) rfl (fun _ _ _ _ _ => rfl) (fun _ _ _ _ E _ _ hr => (pe_meth (pv 6) T.cl_Ring T.m_Ring_put G_Ring_put (hr.mono (by decide)) T.b_Ring_put .nil (passes_call (W := fun cls d _ H => E cls d H) (takes_of rfl rfl rfl rfl) (fun _ _ _ _ h => h)) (pa_cons (pe_make T.mk_World G_World___init__ (hr.mono (by decide)) (by rfl) T.g_World T.b_World___init__ .nil pass0 (pa_cons pe_int (pa_cons pe_int (pa_cons pe_int (pa_cons (pe_tup pa_nil) pa_nil))))) pa_nil)))) pa_nil)))
  (pss_cons (ps_expr (pe_bm PySem.F.plainAttrs_list PySem.F.slot_list_append PySem.F.type_list_append mt_append (pv 2) (pa_cons (pe_lamcall (T := TLs PP PR PL) (TT := TTmet K (csOf T)) rfl T.g_law_met T.F_law_met.kp lkM hcM hbM sc_law_met rfl (Or.inl rfl) (met_gives' T gd0 hu1 ⟨rfl, rfl, rfl, rfl⟩) TB rfl hmT huT (k := 12) (hr.mono (by decide)) (lamS_by (by kernel_rfl)) rfl (fun _ _ _ _ _ => rfl) (fun _ _ _ _ E _ _ hr => (pe_meth (pv 6) T.cl_Ring T.m_Ring_put G_Ring_put (hr.mono (by decide)) T.b_Ring_put .nil (passes_call (W := fun cls d _ H => E cls d H) (takes_of rfl rfl rfl rfl) (fun _ _ _ _ h => h)) (pa_cons (pe_make T.mk_World G_World___init__ (hr.mono (by decide)) (by rfl) T.g_World T.b_World___init__ .nil pass0 (pa_cons pe_int (pa_cons pe_int (pa_cons pe_int (pa_cons (pe_tup pa_nil) pa_nil))))) pa_nil)))) pa_nil)))
  (pss_cons (ps_expr (pe_bm PySem.F.plainAttrs_list PySem.F.slot_list_append PySem.F.type_list_append mt_append (pv 2) (pa_cons (pe_lamcall (T := TLs PP PR PL) (TT := TTmet K (csOf T)) rfl T.g_law_met T.F_law_met.kp lkM hcM hbM sc_law_met rfl (Or.inl rfl) (met_gives' T gd0 hu1 ⟨rfl, rfl, rfl, rfl⟩) TB rfl hmT huT (k := 12) (hr.mono (by decide)) (lamS_by (by kernel_rfl)) rfl (fun _ _ _ _ _ => rfl) (fun _ _ _ _ E _ _ hr => (pe_meth (pv 6) T.cl_Ring T.m_Ring_world G_Ring_world (hr.mono (by decide)) T.b_Ring_world .nil (passes_call (W := fun cls d _ H => E cls d H) (takes_of rfl rfl rfl rfl) (fun _ _ _ _ h => h)) (pa_cons (pv 5) pa_nil)))) pa_nil)))
  (pss_cons (ps_expr (pe_bm PySem.F.plainAttrs_list PySem.F.slot_list_append PySem.F.type_list_append mt_append (pv 2) (pa_cons (pe_lamcall (T := TLs PP PR PL) (TT := TTmet K (csOf T)) rfl T.g_law_met T.F_law_met.kp lkM hcM hbM sc_law_met rfl (Or.inl rfl) (met_gives' T gd0 hu1 ⟨rfl, rfl, rfl, rfl⟩) TB rfl hmT huT (k := 12) (hr.mono (by decide)) (lamS_by (by kernel_rfl)) rfl (fun _ _ _ _ _ => rfl) (fun _ _ _ _ E _ _ hr => (pe_meth (pv 6) T.cl_Ring T.m_Ring_work G_Ring_work (hr.mono (by decide)) T.b_Ring_work .nil (passes_call (W := fun cls d _ H => E cls d H) (takes_of rfl rfl rfl rfl) (fun _ _ _ _ h => h)) (pa_cons (pv 5) pa_nil)))) pa_nil)))
  (pss_cons (ps_expr (pe_bm PySem.F.plainAttrs_list PySem.F.slot_list_append PySem.F.type_list_append mt_append (pv 2) (pa_cons (pe_lamcall (T := TLs PP PR PL) (TT := TTmet K (csOf T)) rfl T.g_law_met T.F_law_met.kp lkM hcM hbM sc_law_met rfl (Or.inl rfl) (met_gives' T gd0 hu1 ⟨rfl, rfl, rfl, rfl⟩) TB rfl hmT huT (k := 12) (hr.mono (by decide)) (lamS_by (by kernel_rfl)) rfl (fun _ _ _ _ _ => rfl) (fun _ _ _ _ E _ _ hr => (pe_meth (pv 6) T.cl_Ring T.m_Ring_back_to G_Ring_back_to (hr.mono (by decide)) T.b_Ring_back_to .nil (passes_call (W := fun cls d _ H => E cls d H) (takes_of rfl rfl rfl rfl) (fun _ _ _ _ h => h)) (pa_cons (pv 5) pa_nil)))) pa_nil)))
  (pss_cons (ps_expr (pe_bm PySem.F.plainAttrs_list PySem.F.slot_list_append PySem.F.type_list_append mt_append (pv 2) (pa_cons (pe_lamcall (T := TLs PP PR PL) (TT := TTmet K (csOf T)) rfl T.g_law_met T.F_law_met.kp lkM hcM hbM sc_law_met rfl (Or.inl rfl) (met_gives' T gd0 hu1 ⟨rfl, rfl, rfl, rfl⟩) TB rfl hmT huT (k := 12) (hr.mono (by decide)) (lamS_by (by kernel_rfl)) rfl (fun _ _ _ _ _ => rfl) (fun _ _ _ _ E _ _ hr => (pe_meth (pv 6) T.cl_Ring T.m_Ring_from_tick G_Ring_from_tick (hr.mono (by decide)) T.b_Ring_from_tick .nil (passes_call (W := fun cls d _ H => E cls d H) (takes_of rfl rfl rfl rfl) (fun _ _ _ _ h => h)) (pa_cons (pv 5) pa_nil)))) pa_nil)))
  (pss_cons (ps_set (i := 3) sc_law_ring_right.nd rfl (.inl rfl) (pe_lst (pa_cons (pe_tup (pa_cons pe_str (pa_cons pe_str pa_nil))) (pa_cons (pe_tup (pa_cons pe_str (pa_cons pe_str (pa_cons (pe_callB (c_reprQ gd0 hu64) (by rfl) T.z_repr (by decide +kernel) (pa_cons (pv 7) pa_nil)) pa_nil)))) (pa_cons (pe_tup (pa_cons pe_str (pa_cons pe_str pa_nil))) (pa_cons (pe_tup (pa_cons pe_str (pa_cons pe_str pa_nil))) pa_nil))))))
  (pss_cons (ps_set (i := 3) sc_law_ring_right.nd rfl (.inl rfl) (pe_op op_cat (pe_op op_cat (pe_op op_cat (pv 3) (pe_op op_rep (pe_lst (pa_cons (pe_tup (pa_cons pe_str (pa_cons pe_str pa_nil))) pa_nil)) pe_int)) (pe_lst (pa_cons (pe_tup (pa_cons pe_str pa_nil)) pa_nil))) (pe_op op_rep (pe_lst (pa_cons (pe_tup (pa_cons pe_str (pa_cons pe_str (pa_cons (pe_callB (c_reprQ gd0 hu64) (by rfl) T.z_repr (by decide +kernel) (pa_cons (pv 5) pa_nil)) pa_nil)))) pa_nil)) pe_int)))
  (pss_one (ps_ret (pe_and (pe_cmpR (op_eqD hr.units) (pv 2) (pv 3) (nomark _)) (pe_one (pe_cmpR (op_niO G_Ring___contains__ (hr.mono (by decide)) T.m_Ring___contains__ T.b_Ring___contains__ pass0) (pv 5) (pv 6) (by rfl))))))))))))))))))))))), ?_⟩
  have p60 : ∀ {σ : L2.St} {H : Hp}, Ev (tOp (rI CPow fun i j => .int (i ^ j.toNat)) (tC (.int 10)) (tC (.int 60))) σ H (.int 1000000000000000000000000000000000000000000000000000000000000) := fun {σ H} => by walk_at "pow"
  have wz : ∀ {σ : L2.St} {H : Hp} {t n : Int} {E : XK}, 0 ≤ t ∧ t ≤ 1000 → 0 ≤ n ∧ n ≤ 1000 → EvAP (tCons (tMake T.C_World (spInit K T.C_World) [] E (tCons (tC (.int t)) (tCons (tC (.int n)) (tCons (tC (.int 0)) (tCons (tTup tNil) tNil))))) tNil) σ H (fun vs H' => ∃ q, vs = [.ref q] ∧ WkAt K T.C_World H' q (Wz t n)) := fun {σ H t n E} h1 h2 =>
    (ap_w1 (W := Wz t n) (ew_make (ap_world (ea_w1 (ew_c (.int _)) (ea_w1 (ew_c (.int _)) (ea_w1 (ew_c (.int _)) (ea_w1 (ew_tup ea_w0 (by show 0 ≤ 100000; decide)) ea_w0))))) (Wz_ok h1 h2))).mono fun vs H' ⟨q, h, hq⟩ => ⟨q, h, wkZ hq⟩
  refine q_two (A := fun v H1 => Dice p H1 ∧ Exd p H H1 ∧ ∃ d, d ∈ badDs ∧ Da K H1 v d) (B := fun v H1 u H2 => Ex H1 H2 ∧ ∃ pR q6, u = .ref pR ∧ RgAt K T.C_Ring H2 pR 5 3 [.ref q0, .ref q6] ∧ WkAt K T.C_World H2 q6 (Wz 6 2)) (fun Q' q' => ?_) (fun v H1 ⟨a1, a2, a3⟩ Q' q' => ?_) fun v4 H1 v6 H2 H3 ⟨dc1, x1, d4, m4, h4⟩ ⟨e2, pR, q6, hv6, hR, hW6⟩ e3 => ?_
  · exact ⟨.ref p, rfl, p, rfl, hd, fun v H1 d m h x dc => q' v H1 ⟨dc, x, d, m, h⟩⟩
  · have hW1 := hW.ke (ke_xd a2 hd)
    refine go_methN (R := fun a H2 => Ex H1 H2 ∧ RgAt K T.C_Ring H2 a 5 3 [.ref q0]) (P := fun _ vs H' => ∃ q, vs = [.ref q] ∧ WkAt K T.C_World H' q (Wz 6 2)) (fun Q2 q2 => ?_) (fun a H2 ⟨_, r2⟩ => ?_) (fun a H2 _ => wz ⟨by decide, by decide⟩ ⟨by decide, by decide⟩) (fun a H2 vs H4 ⟨r1, r2⟩ e4 ⟨q6, hv, hq⟩ => ?_)
    · refine go_makeK (v := .ref q0) (z := .int 3) (ea_cons (ev_var rfl) ea_nil) (ea_cons ev_c ea_nil) fun H2 x dx e2 hx eN => ⟨x, dx, .ref q0, .int 3, rfl, upd_same, .inr ⟨q0, Wc, rfl, hW1.at_.ex (e2.trans eN), by decide, by decide, pl_int, fun h => (by cases h), fun _ s' hs H3 x3 h3 => ⟨rfl, q2 x H3 ⟨x3.out (e2.trans eN) (fresh_back e2 hx), ?_⟩⟩⟩⟩
      cases hs
      exact h3
    · obtain ⟨dx, aK, aW, h1, _⟩ := r2
      exact ⟨dx, _, h1, rfl⟩
    · subst hv
      refine ⟨a, q0, .ref q6, Wc, 5, 3, [.ref q0], [], rfl, r2.ex e4, rfl, hW1.at_.ex (r1.trans e4), by decide, by decide, by decide, by decide, by decide, by decide, by show 1 ≤ 999; decide, .inr ⟨q6, Wz 6 2, rfl, hq, .inr ⟨rfl, .inl (by decide), fun p' u H5 _ e5 hR5 hu => ?_⟩⟩⟩
      have hu := hu (by decide)
      subst hu
      exact q' _ H5 ⟨(r1.trans e4).trans e5, p', q6, rfl, hR5, hq.ex e5⟩
  subst hv6
  have dc3 := dc1.ex (e2.trans e3)
  have g4 := da_ex (e2.trans e3) _ _ h4
  have gW := hW.ke (ke_xd (x1.trans (Exd.of (e2.trans e3))) hd)
  have gR := hR.ex e3
  have g6 := hW6.ex e3
  have base3 : ∀ b o, H b = some o → b ≠ p → H3 b = some o := fun b o hb hn => (x1.trans (Exd.of (e2.trans e3))) b o hn hb
  have T3 : Tabs (TLs PP PR PL) H3 := Tabs.xd (x1.trans (Exd.of (e2.trans e3))) hd hT
  clear x1 e2 e3 dc1 h4 hW hd hT hR hW6
  refine q_pick (p := p) (ds := tkDs) rfl (en_lst (ea_w1 (ew_c .non) (ea_w1 (ew_c (.int _)) (ea_w1 (ew_c (.int _)) (ea_w1 (ew_c (.bl _)) (ea_w1 (ew_c (.str _)) (ea_w1 (ew_tup (ea_w1 (ew_c (.int _)) ea_w0) (by show 1 ≤ 100000; decide)) (ea_w1 (ew_ev (ev_un ev_c ru_neg) fun _ _ => .int _) (ea_w1 (ew_ev p60 fun _ _ => .int _) ea_w0)))))))) (by show 8 ≤ 100000; decide)) dc3 (by decide) (by decide) (by decide +kernel) fun v5 H4 d5 m5 h5 x4 dc4 => ?_
  refine q_pick (p := p) (ds := spDs) rfl (en_lst (ea_w1 (ew_c .non) (ea_w1 (ew_c (.int _)) (ea_w1 (ew_c (.int _)) (ea_w1 (ew_c (.bl _)) (ea_w1 (ew_c (.str _)) (ea_w1 (ew_ev (ev_un ev_c ru_neg) fun _ _ => .int _) (ea_w1 (ew_ev p60 fun _ _ => .int _) ea_w0))))))) (by show 7 ≤ 100000; decide)) dc4 (by decide) (by decide) (by decide +kernel) fun v7 H5 d7 m7 h7 x5 dc5 => ?_
  have a5 := List.all_eq_true.mp tk_all d5 m5
  have a7 := List.all_eq_true.mp sp_all d7 m7
  simp only [Bool.and_eq_true, Bool.not_eq_true'] at a5 a7
  obtain ⟨r5, n5⟩ := a5
  obtain ⟨r7, n7⟩ := a7
  have x35 := x4.trans x5
  have g4 := da_xd x35 dc3 _ _ (List.all_eq_true.mp bad_n3 d4 m4) g4
  have g5 := da_xd x5 dc4 _ _ (List.all_eq_true.mp tk_n3 d5 m5) h5
  have gW := gW.ke (ke_xd x35 dc3)
  have gR := gR.ke (ke_xd x35 dc3)
  have g6 := g6.ke (ke_xd x35 dc3)
  have base5 : ∀ b o, H b = some o → b ≠ p → H5 b = some o := fun b o hb hn => x35 b o hn (base3 b o hb hn)
  have T5 : Tabs (TLs PP PR PL) H5 := Tabs.xd x35 dc3 T3
  clear x4 x5 x35 dc3 dc4 h5 base3 T3
  have ks : ∃ r, ([.ref q0, .ref q6] : List V) = .ref q0 :: r := ⟨_, rfl⟩
  have K_ : ∀ {Hx : Hp}, ExtN H5 Hx → Ke H5 Hx := fun e => ke_xn e
  refine q_asgM (em_lst1 (em_rkBad (ea_cons (ev_var rfl) ea_nil) (ea_cons (ev_var rfl) ea_nil) (fun _ => ea_cons (ev_var rfl) ea_nil) (fun _ => ea_cons (ev_var rfl) ea_nil) g4 T5)) fun l H6 u6 nw e6 t6 hl6 hv6 => ?_
  refine q_app (z := .number d7) (ev_var rfl) hl6 hv6 (by decide) (okA rfl) (fun Hx ex => em_rkNum (fun _ => ea_cons (ev_var rfl) ea_nil) (fun _ => ea_cons (ev_var rfl) ea_nil) (gW.at_.ke (K_ (e6.trans (xn_ex ex)))) (by decide) (by decide) (da_xn (e6.trans (xn_ex ex)) _ _ h7) r7 n7 (t6.ext ex)) fun H7 u7 kp7 t7 hl7 hv7 => ?_
  have e7 := keep_l nw e6 kp7
  refine q_app (z := .world) (ev_var rfl) hl7 hv7 (by show 2 ≤ 1000; decide) (okA rfl) (fun Hx ex => em_rdBad (fun _ => ea_cons (ev_var rfl) ea_nil) (da_xn (e7.trans (xn_ex ex)) _ _ g4) (t7.ext ex)) fun H8 u8 kp8 t8 hl8 hv8 => ?_
  have e8 := keep_l nw e7 kp8
  refine q_app (z := .world) (ev_var rfl) hl8 hv8 (by show 3 ≤ 1000; decide) (okA rfl) (fun Hx ex => em_putBad rfl rfl (da_xn (e8.trans (xn_ex ex)) _ _ g4) (gR.ke (K_ (e8.trans (xn_ex ex)))) ks (gW.at_.ke (K_ (e8.trans (xn_ex ex)))) (by decide) (by decide) (by decide) (by decide) (by decide) (by decide) (by show 2 ≤ 999; decide) (t8.ext ex)) fun H9 u9 kp9 t9 hl9 hv9 => ?_
  have e9 := keep_l nw e8 kp9
  refine q_app (z := .oper) (ev_var rfl) hl9 hv9 (by show 4 ≤ 1000; decide) (okA rfl) (fun Hx ex => em_putOp (U := Wc) rfl (fun Hy ey => fun Hz ez Q' q' => (ea_cons (ev_var rfl) ea_nil) Hz ez _ fun Hu eu => q' [.ref q0] Hu eu ⟨q0, rfl, (gW.ke (K_ (e9.trans ((xn_ex ex).trans ey)))).ex (ez.trans eu)⟩) (by show (5 : Int) ≠ 5 + 2; decide) (gR.ke (K_ (e9.trans (xn_ex ex)))) ks (gW.at_.ke (K_ (e9.trans (xn_ex ex)))) (by decide) (by decide) (by decide) (by decide) (by decide) (by decide) (by show 2 ≤ 999; decide) (t9.ext ex)) fun H10 u10 kp10 t10 hl10 hv10 => ?_
  have e10 := keep_l nw e9 kp10
  refine q_app (z := .oper) (ev_var rfl) hl10 hv10 (by show 5 ≤ 1000; decide) (okA rfl) (fun Hx ex => em_putOp (U := Wz 8 2) rfl (fun Hy ey => wz ⟨by decide, by decide⟩ ⟨by decide, by decide⟩) (by show (8 : Int) ≠ 5 + 2; decide) (gR.ke (K_ (e10.trans (xn_ex ex)))) ks (gW.at_.ke (K_ (e10.trans (xn_ex ex)))) (by decide) (by decide) (by decide) (by decide) (by decide) (by decide) (by show 2 ≤ 999; decide) (t10.ext ex)) fun H11 u11 kp11 t11 hl11 hv11 => ?_
  have e11 := keep_l nw e10 kp11
  refine q_app (z := .oper) (ev_var rfl) hl11 hv11 (by show 6 ≤ 1000; decide) (okA rfl) (fun Hx ex => em_putOp (U := Wz 6 2) rfl (fun Hy ey => wz ⟨by decide, by decide⟩ ⟨by decide, by decide⟩) (by show (6 : Int) ≠ 5 + 2; decide) (gR.ke (K_ (e11.trans (xn_ex ex)))) ks (gW.at_.ke (K_ (e11.trans (xn_ex ex)))) (by decide) (by decide) (by decide) (by decide) (by decide) (by decide) (by show 2 ≤ 999; decide) (t11.ext ex)) fun H12 u12 kp12 t12 hl12 hv12 => ?_
  have e12 := keep_l nw e11 kp12
  refine q_app (z := .fine) (ev_var rfl) hl12 hv12 (by show 7 ≤ 1000; decide) (okA rfl) (fun Hx ex => em_putFine (U := Wz 7 0) rfl (fun Hy ey => wz ⟨by decide, by decide⟩ ⟨by decide, by decide⟩) (by show (7 : Int) = 5 + 2; decide) (g6.ke (K_ (e12.trans (xn_ex ex)))) rfl (by show wholeT 5 3 (5 + 2 - 1) = true; decide) (gR.ke (K_ (e12.trans (xn_ex ex)))) ks (gW.at_.ke (K_ (e12.trans (xn_ex ex)))) (by decide) (by decide) (by decide) (by decide) (by decide) (by decide) (by show 2 ≤ 999; decide) (t12.ext ex)) fun H13 u13 kp13 t13 hl13 hv13 => ?_
  have e13 := keep_l nw e12 kp13
  refine q_app (z := .number d5) (ev_var rfl) hl13 hv13 (by show 8 ≤ 1000; decide) (okA rfl) (fun Hx ex => em_tkWorld rfl rfl (da_xn (e13.trans (xn_ex ex)) _ _ g5) r5 n5 (gR.ke (K_ (e13.trans (xn_ex ex)))) (by decide) (by decide) (by decide) (by decide) (by show 2 ≤ 1000; decide) (t13.ext ex)) fun H14 u14 kp14 t14 hl14 hv14 => ?_
  have e14 := keep_l nw e13 kp14
  refine q_app (z := .number d5) (ev_var rfl) hl14 hv14 (by show 9 ≤ 1000; decide) (okA rfl) (fun Hx ex => em_tkWork rfl rfl (da_xn (e14.trans (xn_ex ex)) _ _ g5) r5 n5 (gR.ke (K_ (e14.trans (xn_ex ex)))) (by decide) (by decide) (t14.ext ex)) fun H15 u15 kp15 t15 hl15 hv15 => ?_
  have e15 := keep_l nw e14 kp15
  refine q_app (z := .number d5) (ev_var rfl) hl15 hv15 (by show 10 ≤ 1000; decide) (okA rfl) (fun Hx ex => em_tkBad rfl rfl (da_xn (e15.trans (xn_ex ex)) _ _ g5) r5 n5 (gR.ke (K_ (e15.trans (xn_ex ex)))) (fun _ _ => rfl) (by decide) (by decide) (t15.ext ex)) fun H16 u16 kp16 t16 hl16 hv16 => ?_
  have e16 := keep_l nw e15 kp16
  refine q_app (z := .number d5) (ev_var rfl) hl16 hv16 (by show 11 ≤ 1000; decide) (okA rfl) (fun Hx ex => em_tkBad rfl rfl (da_xn (e16.trans (xn_ex ex)) _ _ g5) r5 n5 (gR.ke (K_ (e16.trans (xn_ex ex)))) (fun _ _ => rfl) (by decide) (by decide) (t16.ext ex)) fun H17 u17 kp17 t17 hl17 hv17 => ?_
  have e17 := keep_l nw e16 kp17
  have pr : ∀ {a b : Str} {σ : L2.St} {H : Hp}, EvDt K (tTup (tCons (tC (.str a)) (tCons (tC (.str b)) tNil))) σ H (.tuple [.str a, .str b]) := fun {a b σ H} => ew_tup (ea_w1 (ew_c (.str _)) (ea_w1 (ew_c (.str _)) ea_w0)) (by show 2 ≤ 100000; decide)
  have rp : ∀ {σ : L2.St} {Hx : Hp} {te : TE} {v : V} {y : PyData}, Ev te σ Hx v → Rq K Hx v y → EvDt K (tTup (tCons (tC (.str "refused")) (tCons (tC (.str "number")) (tCons (tCB (rReprQ K) (tCons te tNil)) tNil)))) σ Hx (outD (.number y)) := fun h hr => ew_tup (ea_w1 (ew_c (.str _)) (ea_w1 (ew_c (.str _)) (ea_w1 (ew_ev (ev_cb (ea_cons h ea_nil) (rc_reprQ hr)) fun _ _ => .str _) ea_w0))) (by show 3 ≤ 100000; decide)
  have rq7 := Da.rq (da_xn e17 _ _ h7) r7
  have rq5 := Da.rq (da_xn e17 _ _ g5) r5
  refine q_asgN (K := K) (ds := toldD [.world, .number d7, .world, .world]) (en_lst (ea_w1 pr (ea_w1 (rp (ev_var rfl) rq7) (ea_w1 pr (ea_w1 pr ea_w0)))) (by show 4 ≤ 100000; decide)) fun dl H18 ds hdn e18 hdl hdv => ?_
  have rq5 := rq5.xn (xn_ex e18)
  refine q_asgN (K := K) (ds := toldD (toldR d7 d5)) (en_cat2 (en_e (en_cat2 (en_e (en_cat2 (ee_var rfl hdl hdv) (en_e (en_rep (n := 3) (en_e (en_lst (ea_w1 pr ea_w0) (by show 1 ≤ 100000; decide))) ev_c (by show 1 ≤ 100; decide) (by decide) (by decide))) (by show 4 ≤ 1000; decide) (by show 3 ≤ 1000; decide))) (en_e (en_lst (ea_w1 (ew_tup (ea_w1 (ew_c (.str _)) ea_w0) (by show 1 ≤ 100000; decide)) ea_w0) (by show 1 ≤ 100000; decide))) (by show 7 ≤ 1000; decide) (by show 1 ≤ 1000; decide))) (en_e (en_rep (n := 4) (en_e (en_lst (ea_w1 (rp (ev_var rfl) rq5) ea_w0) (by show 1 ≤ 100000; decide))) ev_c (by show 1 ≤ 100; decide) (by decide) (by decide))) (by show 8 ≤ 1000; decide) (by show 4 ≤ 1000; decide)) fun el H19 es hen e19 hel hev => ?_
  have e05 := (e17.trans (xn_ex e18)).trans (xn_ex e19)
  have okR := okA (ks := toldR d7 d5) rfl
  have sh := List.all_eq_true.mp (List.all_eq_true.mp toldR_all d7 m7) d5 m5
  rw [Bool.and_eq_true] at sh
  obtain ⟨dx, aK, aW, hob, _⟩ := (gR.ke (K_ e05)).ob
  refine s_ret (v := .bl true) (ev_is (ev_andV (a := true) (b := true) (ev_is (ev_eqD (evd_told (ks := toldR d7 d5) (ev_var rfl) ((e18.trans e19) _ _ hl17) (daa_ex (e18.trans e19) _ _ hv17) okR) (evd_told (ks := toldR d7 d5) (ev_var rfl) hel hev okR) sh.1 sh.1) (congrArg V.bl sh.2)) fun _ => ev_is (ev_op (ev_var rfl) (ev_var rfl) (rv_niO hob fun H20 e20 => ⟨pR, v5, 5, 3, _, rfl, (gR.ke (K_ e05)).ex e20, (da_ex e20 _ _ (da_xn e05 _ _ g5)).pl, rfl⟩)) (by rw [g5.tick]; exact congrArg (fun b => V.bl !b) n5)) rfl) fun H20 e20 => ?_
  have e00 := e05.trans (xn_ex e20)
  refine q H20 (fun b o hb hn ho => e00 _ _ (base5 b o hb hn) ho) ?_ (t17.ext ((e18.trans e19).trans e20))
  obtain ⟨x, y, z, hdd⟩ := dc5
  exact ⟨x, y, z, e00 _ _ hdd fun _ z => by cases z⟩
end
end Kz
set_option Elab.async false
set_option linter.all false
set_option maxRecDepth 100000
set_option maxHeartbeats 4000000
set_option exponentiation.threshold 500
namespace Kz
open PySem PySem.Spec PyProof.Rows L2 Evl Vr
local macro_rules | `(tactic| walk_at "sc") => `(tactic| first | (with_reducible assumption) | (with_reducible exact sc_mul (by omega)) | (with_reducible exact sc_mulr (by omega)) | (with_reducible exact sc_div (by omega) (by decide)) | (show (0 : Int) < _; omega) | (show _ ≠ (0 : Int); omega) | (with_reducible rfl) | decide)
local macro_rules | `(tactic| walk_at "sq") => `(tactic| first | assumption | exact sq_of (by assumption) | exact st_of (by assumption))
local macro_rules | `(tactic| walk_at "pl") => `(tactic| first | assumption | exact pl_int | exact pl_bl | exact pl_str | exact pl_non | exact pl_lst (by assumption) | exact pl_tup (by assumption) | exact pl_dK (by assumption))
local macro_rules | `(tactic| walk_at "rv") => `(tactic| first
  | with_reducible exact rv_I0
  | with_reducible exact ru_neg
  | ((with_reducible apply rv_I); walk_at "sc")
  | ((with_reducible apply rv_ixL); walk_at "sq"; first | rfl | assumption)
  | ((with_reducible apply rv_ixT); walk_at "sq"; first | rfl | assumption)
  | ((with_reducible apply rv_eq); rfl) | ((with_reducible apply rv_ne); rfl))
local macro_rules | `(tactic| walk_at "rc") => `(tactic| first
  | with_reducible exact rc_I1 | with_reducible exact rc_B1 | with_reducible exact rc_I2 | ((with_reducible apply rc_repr); walk_at "sc") | ((with_reducible apply rc_lenL); walk_at "sq")
  | ((with_reducible apply rc_isiInt); walk_at "pl") | ((with_reducible apply rc_isiBool); walk_at "pl"))
local macro_rules | `(tactic| walk_at "ea") => `(tactic| first
  | with_reducible exact ea_nil | ((with_reducible apply ea_cons); walk_at "ev"; walk_at "ea"))
local macro_rules | `(tactic| walk_at "pow") => `(tactic| first
  | with_reducible exact ev_pow (a := 10) (b := 9) (c := 1000000000) (by decide +kernel) (by decide +kernel)
  | with_reducible exact ev_pow (a := 10) (b := 10) (c := 10000000000) (by decide +kernel) (by decide +kernel)
  | with_reducible exact ev_pow (a := 10) (b := 12) (c := 1000000000000) (by decide +kernel) (by decide +kernel)
  | with_reducible exact ev_pow (a := 10) (b := 17) (c := 100000000000000000) (by decide +kernel) (by decide +kernel)
  | with_reducible exact ev_pow (a := 10) (b := 20) (c := 100000000000000000000) (by decide +kernel) (by decide +kernel)
  | with_reducible exact ev_pow (a := 10) (b := 29) (c := 100000000000000000000000000000) (by decide +kernel) (by decide +kernel)
  | with_reducible exact ev_pow (a := 10) (b := 30) (c := 1000000000000000000000000000000) (by decide +kernel) (by decide +kernel)
  | with_reducible exact ev_pow (a := 10) (b := 40) (c := 10000000000000000000000000000000000000000) (by decide +kernel) (by decide +kernel)
  | with_reducible exact ev_pow (a := 10) (b := 57) (c := 1000000000000000000000000000000000000000000000000000000000) (by decide +kernel) (by decide +kernel)
  | with_reducible exact ev_pow (a := 10) (b := 58) (c := 10000000000000000000000000000000000000000000000000000000000) (by decide +kernel) (by decide +kernel)
  | with_reducible exact ev_pow (a := 10) (b := 59) (c := 100000000000000000000000000000000000000000000000000000000000) (by decide +kernel) (by decide +kernel)
  | with_reducible exact ev_pow (a := 10) (b := 60) (c := 1000000000000000000000000000000000000000000000000000000000000) (by decide +kernel) (by decide +kernel))
local macro_rules | `(tactic| walk_at "call") => `(tactic| (intro H9 e9; first | exact ⟨_, rfl, rfl⟩ | exact ⟨_, _, rfl, rfl⟩ | exact ⟨_, _, _, rfl, rfl⟩ | exact ⟨_, rfl, by walk_at "pl", rfl⟩ | (refine ⟨_, _, _, rfl, ?_, rfl⟩; first | exact Plain.ex e9 (by assumption) | walk_at "pl") | (refine ⟨_, rfl, ?_, rfl⟩; first | exact Plain.ex e9 (by assumption) | walk_at "pl")))
local macro_rules | `(tactic| walk_at "ev") => `(tactic| first
  | with_reducible exact ev_c
  | exact ev_var rfl
  | walk_at "pow"
  | ((with_reducible apply ev_op); walk_at "ev"; walk_at "ev"; walk_at "rv")
  | ((with_reducible apply ev_un); walk_at "ev"; walk_at "rv")
  | ((with_reducible apply ev_cb); walk_at "ea"; walk_at "rc")
  | ((with_reducible apply ev_callP); walk_at "ea"; walk_at "call")
  | ((with_reducible apply ev_chain); walk_at "ev"; walk_at "ev"; walk_at "rv"; walk_at "ev"; walk_at "rv")
  | ((with_reducible apply ev_andV); walk_at "ev"; intro _; walk_at "ev")
  | ((with_reducible apply ev_orV); walk_at "ev"; intro _; walk_at "ev")
  | ((with_reducible apply ev_ite); walk_at "et"; intro _; walk_at "ev"; intro _; walk_at "ev")
  | ((with_reducible apply ev_notV); walk_at "ev"))
local macro_rules | `(tactic| walk_at "et") => `(tactic| first
  | ((with_reducible apply et_test); walk_at "ev")
  | ((with_reducible apply et_B); walk_at "ev")
  | ((with_reducible apply et_and); walk_at "et"; intro _; walk_at "et")
  | ((with_reducible apply et_or); walk_at "et"; intro _; walk_at "et")
  | ((with_reducible apply et_not); walk_at "et"))
open LamX Wo En
def Dj : Df := ⟨0, 3, 0, [], [], [(0, 1, 7)]⟩
def Dk : Df := ⟨0, 3, 0, [], [], [(0, 2, 7)]⟩
theorem Dk_fit : ((unfit Wc Dk).contains 0 && (unfit Wc Dk).all (fun j => decide (0 ≤ j))) = true := by decide +kernel
theorem Dj_fit : unfit Wc Dj = [] := by decide +kernel
theorem Dj_len : (behind Wc Dj).length ≤ 12 := by decide +kernel
theorem Dj_asc : ascI (Tg.ids (behind Wc Dj) ++ [Dj.n]) = true := by decide +kernel
theorem Dj_fits : Fits Wc Dj := fun c hc => by
  obtain rfl : c = (0, 1, 7) := List.mem_singleton.mp hc
  exact ⟨⟨0, "hero", [2, 2]⟩, List.mem_cons_self .., rfl, by decide, by decide, by decide⟩
theorem Dj_d : diffD Dj.d = true := by decide +kernel
theorem Dk_d : diffD Dk.d = true := by decide +kernel
theorem Dj_s : sm Dj.d = true := by decide +kernel
theorem Dk_s : sm Dk.d = true := by decide +kernel
def toldL : List Out := [.fine, .fine, .fine, .fine, .reason (.tuple [.str "fit", .int 0])]
theorem toldL_sh : SeqAt.shaped (.list (toldD toldL)) = true := by decide +kernel
theorem toldL_eq : PyData.eqv (.list (toldD toldL)) (.list (toldD toldL)) = true := by decide +kernel
theorem okL : ∀ k ∈ toldL, okO k = true := okA (by decide +kernel)
section
variable {P : Program} {w : World} {K : PySem.W.Frag} {mg : Str → Option Value} {base : Heap}
def spLaw (K : PySem.W.Frag) (PP PR PL : Addr) : Sp := fun vs H Q _ => ∃ (a : Addr) (ns : List Int), vs = [.ref a] ∧ SqL K H a (ns.map V.int) ∧ ns.length ≤ 63 ∧ Tabs (TLs PP PR PL) H ∧ ∀ H', Q (.bl true) H'
theorem ok_law (T : Txt K mg w) {cP cR c PP PR PL fl : Addr} {fd : FuncData} (TP : TabB base mg cP PP) (TR : TabB base mg cR PR) (TB : TabB base mg c PL) (nd3 : Nd3 PP PR PL) (FP : FunL K "_law_parts_right" "_law_parts_right" s_law_parts_right cP T.a_law_parts_right T.fd_law_parts_right) (FR : FunL K "_law_ring_right" "_law_ring_right" s_law_ring_right cR T.a_law_ring_right T.fd_law_ring_right) (FL : FunL K "law" "law" s_law c fl fd) : FnG P w K mg base CX0 16 fl fd ["script"] (spLaw K PP PR PL) := by
  have G_law_dice := ok_dice (P := P) (w := w) (base := base) T
  have G_law_parts_right := ok_parts (P := P) (w := w) (base := base) T TP nd3 FP
  have G_law_ring_right := ok_ring (P := P) (w := w) (base := base) T TR nd3 FR
  have G_World___init__ := ok_init (P := P) (w := w) (base := base) T
  have G_Ring___init__ := ok_rinit (P := P) (w := w) (base := base) T
  have G_Ring_world := ok_world_at (P := P) (w := w) (base := base) T
  have G_applied := ok_applied (P := P) (w := w) (base := base) T
  obtain ⟨ocM, odM, kVM, docM, pmM, anM, cdM, ctM, oslM, hfM, lkM, hcM⟩ := T.F_law_met.ex
  rw [hfM] at lkM
  have hbM := T.b_law_met
  rw [hfM] at hbM
  have hmT : (PL, qL) ∈ TLs PP PR PL := List.mem_cons_of_mem _ (List.mem_cons_of_mem _ (List.mem_cons_self ..))
  have huT := nd3.uL
  refine FL.okG sc_law (fun vs H Q E h => ?_) (fun A outer s H vs Q E hr hg h => ?_)
  · obtain ⟨_, _, rfl, _⟩ := h; rfl
  obtain ⟨a, ns, rfl, hS, hlen, hT, q⟩ := h
  have gd0 : (A.deeper (envOfC "law" (defScope s_law) s.heap.objs.size fl (.ref c))).guards = some [] := hg
  have hu1 : (A.deeper (envOfC "law" (defScope s_law) s.heap.objs.size fl (.ref c))).units + 100 < cLine := by have := hr.un; omega
  have hu64 : (A.deeper (envOfC "law" (defScope s_law) s.heap.objs.size fl (.ref c))).units + 64 < cLine := by omega
  refine ⟨_, (pss_cons (ps_set (i := 4) sc_law.nd rfl (.inr rfl) (pe_make T.mk_World G_World___init__ (hr.mono (by decide)) (by rfl) T.g_World T.b_World___init__ .nil pass0 (pa_cons pe_int (pa_cons pe_int (pa_cons pe_int (pa_cons (pe_tup (pa_cons (pe_tup (pa_cons pe_int (pa_cons pe_str (pa_cons (pe_tup (pa_cons pe_int (pa_cons pe_int pa_nil))) pa_nil)))) (pa_cons (pe_tup (pa_cons pe_int (pa_cons pe_str (pa_cons (pe_tup (pa_cons pe_int (pa_cons pe_int (pa_cons pe_int pa_nil)))) pa_nil)))) pa_nil))) pa_nil))))))
  (pss_cons (ps_for PassesOwn.never rfl (pi_range1 rfl T.z_range (pa_cons (pe_callB (c_max rfl) (by rfl) T.z_max (by decide +kernel) (pa_cons pe_int (pa_cons (pe_callB (c_min rfl) (by rfl) T.z_min (by decide +kernel) (pa_cons pe_int (pa_cons (pe_callB c_len (by rfl) T.z_len PySem.boot_len (pa_cons (pv 0) pa_nil)) pa_nil))) pa_nil))) pa_nil)) (pg_name (i := 1) sc_law.nd rfl (.inl rfl)) (pss_cons (ps_set (i := 2) sc_law.nd rfl (.inl rfl) (pe_call G_law_dice (hr.mono (by decide)) (by rfl) T.g_law_dice T.F_law_dice.kp T.b_law_dice .nil pass0 (pa_cons (pv 0) (pa_cons (pv 1) pa_nil))))
  (pss_one (ps_if (PW.pt (pw_or (pt_not (pt_val (pe_callG G_law_parts_right (hr.mono (by decide)) gd0 (by rfl) T.g_law_parts_right T.F_law_parts_right.kp T.b_law_parts_right .nil pass0 (pa_cons (pv 2) (pa_cons (pv 4) pa_nil))))) (pw_or (pt_not (pt_val (pe_callG G_law_ring_right (hr.mono (by decide)) gd0 (by rfl) T.g_law_ring_right T.F_law_ring_right.kp T.b_law_ring_right .nil pass0 (pa_cons (pv 2) (pa_cons (pv 4) pa_nil))))) (pw_or1 (pt_not (pt_val (pe_callG G_law_parts_right (hr.mono (by decide)) gd0 (by rfl) T.g_law_parts_right T.F_law_parts_right.kp T.b_law_parts_right .nil pass0 (pa_cons (pv 2) (pa_cons (pv 4) pa_nil))))))))) (pss_one (ps_ret pe_bl)) pss_nil))))
  (pss_cons (ps_set (i := 3) sc_law.nd rfl (.inl rfl) (pe_lst (pa_cons (pe_lamcall (T := TLs PP PR PL) (TT := TTmet K (csOf T)) rfl T.g_law_met T.F_law_met.kp lkM hcM hbM sc_law_met rfl (Or.inl rfl) (met_gives' T gd0 hu1 ⟨rfl, rfl, rfl, rfl⟩) TB rfl hmT huT (k := 12) (hr.mono (by decide)) (lamS_by (by kernel_rfl)) rfl (fun _ _ _ _ _ => rfl) (fun _ _ _ _ E _ _ hr => (pe_makeK T.mk_Ring G_Ring___init__ (hr.mono (by decide)) (by rfl) T.g_Ring T.kb_Ring___init__ (passes_call (W := fun cls d _ H => E cls d H) (takes_of rfl rfl rfl rfl) (fun _ _ _ _ h => h)) (pa_cons (pv 4) pa_nil) (pk_cons pe_int pk_nil)))) pa_nil)))
  (pss_cons (ps_expr (pe_bm PySem.F.plainAttrs_list PySem.F.slot_list_append PySem.F.type_list_append mt_append (pv 3) (pa_cons (pe_lamcall (T := TLs PP PR PL) (TT := TTmet K (csOf T)) rfl T.g_law_met T.F_law_met.kp lkM hcM hbM sc_law_met rfl (Or.inl rfl) (met_gives' T gd0 hu1 ⟨rfl, rfl, rfl, rfl⟩) TB rfl hmT huT (k := 12) (hr.mono (by decide)) (lamS_by (by kernel_rfl)) rfl (fun _ _ _ _ _ => rfl) (fun _ _ _ _ E _ _ hr => (pe_makeK T.mk_Ring G_Ring___init__ (hr.mono (by decide)) (by rfl) T.g_Ring T.kb_Ring___init__ (passes_call (W := fun cls d _ H => E cls d H) (takes_of rfl rfl rfl rfl) (fun _ _ _ _ h => h)) (pa_cons (pv 4) pa_nil) (pk_cons pe_int pk_nil)))) pa_nil)))
  (pss_cons (ps_expr (pe_bm PySem.F.plainAttrs_list PySem.F.slot_list_append PySem.F.type_list_append mt_append (pv 3) (pa_cons (pe_lamcall (T := TLs PP PR PL) (TT := TTmet K (csOf T)) rfl T.g_law_met T.F_law_met.kp lkM hcM hbM sc_law_met rfl (Or.inl rfl) (met_gives' T gd0 hu1 ⟨rfl, rfl, rfl, rfl⟩) TB rfl hmT huT (k := 12) (hr.mono (by decide)) (lamS_by (by kernel_rfl)) rfl (fun _ _ _ _ _ => rfl) (fun _ _ _ _ E _ _ hr => (pe_meth (pe_make T.mk_Ring G_Ring___init__ (hr.mono (by decide)) (by rfl) T.g_Ring T.b_Ring___init__ T.vd_Ring___init__ (passes_call (W := fun cls d _ H => E cls d H) (takes_of rfl rfl rfl rfl) (fun _ _ _ _ h => h)) (pa_cons (pv 4) pa_nil)) T.cl_Ring T.m_Ring_world G_Ring_world (hr.mono (by decide)) T.b_Ring_world .nil (passes_call (W := fun cls d _ H => E cls d H) (takes_of rfl rfl rfl rfl) (fun _ _ _ _ h => h)) (pa_cons pe_int pa_nil)))) pa_nil)))
  (pss_cons (ps_expr (pe_bm PySem.F.plainAttrs_list PySem.F.slot_list_append PySem.F.type_list_append mt_append (pv 3) (pa_cons (pe_lamcall (T := TLs PP PR PL) (TT := TTmet K (csOf T)) rfl T.g_law_met T.F_law_met.kp lkM hcM hbM sc_law_met rfl (Or.inl rfl) (met_gives' T gd0 hu1 ⟨rfl, rfl, rfl, rfl⟩) TB rfl hmT huT (k := 12) (hr.mono (by decide)) (lamS_by (by kernel_rfl)) rfl (fun _ _ _ _ _ => rfl) (fun _ _ _ _ E _ _ hr => (pe_call G_applied (hr.mono (by decide)) (by rfl) T.g_applied T.F_applied.kp T.b_applied .nil (passes_call (W := fun cls d _ H => E cls d H) (takes_of rfl rfl rfl rfl) (fun _ _ _ _ h => h)) (pa_cons (pv 4) (pa_cons (pe_tup (pa_cons pe_int (pa_cons pe_int (pa_cons pe_int (pa_cons (pe_tup pa_nil) (pa_cons (pe_tup pa_nil) (pa_cons (pe_tup (pa_cons (pe_tup (pa_cons pe_int (pa_cons pe_int (pa_cons pe_int pa_nil)))) pa_nil)) pa_nil))))))) pa_nil))))) pa_nil)))
  (pss_cons (ps_expr (pe_bm PySem.F.plainAttrs_list PySem.F.slot_list_append PySem.F.type_list_append mt_append (pv 3) (pa_cons (pe_lamcall (T := TLs PP PR PL) (TT := TTmet K (csOf T)) rfl T.g_law_met T.F_law_met.kp lkM hcM hbM sc_law_met rfl (Or.inl rfl) (met_gives' T gd0 hu1 ⟨rfl, rfl, rfl, rfl⟩) TB rfl hmT huT (k := 12) (hr.mono (by decide)) (lamS_by (by kernel_rfl)) rfl (fun _ _ _ _ _ => rfl) (fun _ _ _ _ E _ _ hr => (pe_call G_applied (hr.mono (by decide)) (by rfl) T.g_applied T.F_applied.kp T.b_applied .nil (passes_call (W := fun cls d _ H => E cls d H) (takes_of rfl rfl rfl rfl) (fun _ _ _ _ h => h)) (pa_cons (pv 4) (pa_cons (pe_tup (pa_cons pe_int (pa_cons pe_int (pa_cons pe_int (pa_cons (pe_tup pa_nil) (pa_cons (pe_tup pa_nil) (pa_cons (pe_tup (pa_cons (pe_tup (pa_cons pe_int (pa_cons pe_int (pa_cons pe_int pa_nil)))) pa_nil)) pa_nil))))))) pa_nil))))) pa_nil)))
  (pss_one (ps_ret (pe_cmpR (op_eqD hr.units) (pv 3) (pe_op op_cat (pe_op op_rep (pe_lst (pa_cons (pe_tup (pa_cons pe_str pa_nil)) pa_nil)) pe_int) (pe_lst (pa_cons (pe_tup (pa_cons pe_str (pa_cons pe_str (pa_cons (pe_tup (pa_cons pe_str (pa_cons pe_int pa_nil))) pa_nil)))) pa_nil))) (nomark _))))))))))), ?_⟩
  refine q_asgW (W := Wc) (ew_make (ap_world (ea_w1 (ew_c (.int _)) (ea_w1 (ew_c (.int _)) (ea_w1 (ew_c (.int _)) (ea_w1 (ew_tup (ds := Wc.ts.map tgD) (ea_w1 (ew_tup (ea_w1 (ew_c (.int _)) (ea_w1 (ew_c (.str _)) (ea_w1 (ew_tup (ea_w1 (ew_c (.int _)) (ea_w1 (ew_c (.int _)) ea_w0)) (by show 2 ≤ 100000; decide)) ea_w0))) (by show 3 ≤ 100000; decide)) (ea_w1 (ew_tup (ea_w1 (ew_c (.int _)) (ea_w1 (ew_c (.str _)) (ea_w1 (ew_tup (ea_w1 (ew_c (.int _)) (ea_w1 (ew_c (.int _)) (ea_w1 (ew_c (.int _)) ea_w0))) (by show 3 ≤ 100000; decide)) ea_w0))) (by show 3 ≤ 100000; decide)) ea_w0)) (by show 2 ≤ 100000; decide)) ea_w0))))) Wc_ok) fun q0 H0 n0 e0 hW0 => ?_
  have hW := wkC hW0
  have hcnt : ∃ m : Int, 0 ≤ m ∧ m ≤ 1000 ∧ (if (if (ns.map V.int).length < (4 : Int) then ((ns.map V.int).length : Int) else 4) > 1 then (if (ns.map V.int).length < (4 : Int) then ((ns.map V.int).length : Int) else 4) else 1) = m := ⟨_, by split <;> split <;> omega, by split <;> split <;> omega, rfl⟩
  obtain ⟨m, hm0, hm1, hm⟩ := hcnt
  have hS0 := ex_l e0 hS
  refine q_forR1 (n := m) (ea_cons (ev_is (by walk_at "ev") (by rw [← hm])) ea_nil) ⟨hm0, by omega⟩ (fun i σ' H' => ExtN H0 H' ∧ Tabs (TLs PP PR PL) H' ∧ ∃ z1 z2, σ' = [some (.ref a), z1, z2, none, some (.ref q0)]) (fun H1 e1 => ⟨xn_ex e1, (hT.ext e0).ext e1, none, none, rfl⟩) ?_ ?_
  · rintro i σ' H1 hi ⟨e1, t1, z1, z2, rfl⟩
    refine ⟨.ref a, rfl, .int i, rfl, a, ns, i, rfl, xn_l e1 hS0, fun p H3 hp e3 d3 => ?_⟩
    have nz : ∀ b o, H1 b = some o → b ≠ p := fun b o hb z => by subst z; rw [hp] at hb; cases hb
    have w3 := (hW.ke (ke_xn e1)).ex e3
    refine ⟨.ref p, rfl, .ref q0, rfl, p, q0, rfl, d3, w3, t1.ext e3, fun H4 k4 d4 t4 => ⟨true, rfl, ?_⟩⟩
    show (if (!true) = true then _ else _)
    rw [if_neg (by decide)]
    have x4 : ExtN H1 H4 := fun b o hb ho => k4 b o (e3 _ _ hb) (nz b o hb) ho
    have w1 := hW.ke (ke_xn e1)
    refine ⟨.ref p, rfl, .ref q0, rfl, p, q0, rfl, d4, w1.ke (ke_xn x4), t4, fun H5 k5 d5 t5 => ⟨true, rfl, ?_⟩⟩
    show (if (!true) = true then _ else _)
    rw [if_neg (by decide)]
    have x5 : ExtN H1 H5 := fun b o hb ho => k5 b o (x4 b o hb ho) (nz b o hb) ho
    refine ⟨.ref p, rfl, .ref q0, rfl, p, q0, rfl, d5, w1.ke (ke_xn x5), t5, fun H6 k6 d6 t6 => ⟨true, rfl, ?_⟩⟩
    show (if (!true) = true then _ else _)
    rw [if_neg (by decide)]
    exact ⟨fun b o hb ho => k6 b o (x5 b o (e1 _ _ hb ho) ho) (nz b o (e1 _ _ hb ho)) ho, t6, _, _, rfl⟩
  rintro σ' H1 ⟨e1, t1, z1, z2, rfl⟩
  have gW := hW.ke (ke_xn e1)
  have K_ : ∀ {Hx : Hp}, ExtN H1 Hx → Ke H1 Hx := fun e => ke_xn e
  refine q_asgM (em_lst1 (em_rkFine (s := 1) (fun _ => ea_cons (ev_var rfl) ea_nil) (fun _ => ea_cons ev_c ea_nil) gW.at_ (by decide) (by decide) (by decide) t1)) fun l H2 u2 nw e2 t2 hl2 hv2 => ?_
  refine q_app (z := .fine) (ev_var rfl) hl2 hv2 (by decide) (okA rfl) (fun Hx ex => em_rkFine (s := 6) (fun _ => ea_cons (ev_var rfl) ea_nil) (fun _ => ea_cons ev_c ea_nil) (gW.at_.ke (K_ (e2.trans (xn_ex ex)))) (by decide) (by decide) (by decide) (t2.ext ex)) fun H3 u3 kp3 t3 hl3 hv3 => ?_
  have e3 := keep_l nw e2 kp3
  refine q_app (z := .fine) (ev_var rfl) hl3 hv3 (by decide) (okA rfl) (fun Hx ex => em_of (v := .non) (t3.ext ex) (fun E Hy Q' ey hf => ?_) (fun y h => by cases h)) fun H4 u4 kp4 t4 hl4 hv4 => ?_
  · have gy := gW.at_.ke (K_ ((e3.trans (xn_ex ex)).trans ey))
    refine go_methN (R := fun r Hz => Ex Hy Hz ∧ RgAt K T.C_Ring Hz r 5 2 [.ref q0]) (P := fun _ vs _ => vs = [.int 5]) (fun Q2 q2 => ?_) (fun r Hz ⟨_, r2⟩ => ?_) (fun r Hz _ => ap_of (ea_cons ev_c ea_nil)) (fun r Hz vs Hu ⟨r1, r2⟩ eu hv => ?_)
    · refine go_makeD (v := .ref q0) (z := .int 2) (ea_cons (ev_var rfl) ea_nil) fun H5 x dx e5 hx eN => ⟨x, dx, .ref q0, .int 2, rfl, upd_same, .inr ⟨q0, Wc, rfl, gy.ex (e5.trans eN), by decide, by decide, pl_int, fun h => (by cases h), fun _ s' hs H6 x6 h6 => ⟨rfl, q2 x H6 ⟨x6.out (e5.trans eN) (fresh_back e5 hx), ?_⟩⟩⟩⟩
      cases hs
      exact h6
    · obtain ⟨dx, aK, aW, h1, _⟩ := r2
      exact ⟨dx, _, h1, rfl⟩
    · subst hv
      exact ⟨r, .int 5, 5, 2, [.ref q0], rfl, r2.ex eu, by decide, by decide, by decide, by decide, by show 1 ≤ 1000; decide, pl_int, fun t ht _ => (by cases ht; exact ⟨by decide, .ref q0, rfl, fun H' e' => hf Hy (Ex.refl Hy) _ _ ((r1.trans eu).trans e')⟩), fun h => (by cases h)⟩
  have e4 := keep_l nw e3 kp4
  refine q_app (z := .fine) (ev_var rfl) hl4 hv4 (by decide) (okA rfl) (fun Hx ex => em_ap3 (D := Dj) rfl (fun Hy => ew_tup (ea_w1 (ew_c (.int _)) (ea_w1 (ew_c (.int _)) (ea_w1 (ew_c (.int _)) (ea_w1 (ew_tup ea_w0 (by show 0 ≤ 100000; decide)) (ea_w1 (ew_tup ea_w0 (by show 0 ≤ 100000; decide)) (ea_w1 (ew_tup (ea_w1 (ew_tup (ea_w1 (ew_c (.int _)) (ea_w1 (ew_c (.int _)) (ea_w1 (ew_c (.int _)) ea_w0))) (by show 3 ≤ 100000; decide)) ea_w0) (by show 1 ≤ 100000; decide)) ea_w0)))))) (by show 6 ≤ 100000; decide)) rfl (gW.ke (K_ (e4.trans (xn_ex ex)))) Dj_s Dj_d (by decide) (by decide) (by decide) (fun E Hy Q' hf => .inr (.inr ⟨Dj_fit, Dj_fits, Dj_len, Dj_asc, fun p' H' _ e' _ => hf _ _ e'⟩)) (fun y h => by cases h) (t4.ext ex)) fun H5 u5 kp5 t5 hl5 hv5 => ?_
  have e5 := keep_l nw e4 kp5
  refine q_app (z := .reason (.tuple [.str "fit", .int 0])) (ev_var rfl) hl5 hv5 (by decide) okL (fun Hx ex => em_ap3 (D := Dk) rfl (fun Hy => ew_tup (ea_w1 (ew_c (.int _)) (ea_w1 (ew_c (.int _)) (ea_w1 (ew_c (.int _)) (ea_w1 (ew_tup ea_w0 (by show 0 ≤ 100000; decide)) (ea_w1 (ew_tup ea_w0 (by show 0 ≤ 100000; decide)) (ea_w1 (ew_tup (ea_w1 (ew_tup (ea_w1 (ew_c (.int _)) (ea_w1 (ew_c (.int _)) (ea_w1 (ew_c (.int _)) ea_w0))) (by show 3 ≤ 100000; decide)) ea_w0) (by show 1 ≤ 100000; decide)) ea_w0)))))) (by show 6 ≤ 100000; decide)) rfl (gW.ke (K_ (e5.trans (xn_ex ex)))) Dk_s Dk_d (by decide) (by decide) (by decide) (fun E Hy Q' hf => ap_fit Dk_fit hf) (fun y h => by cases h) (t5.ext ex)) fun H6 u6 kp6 t6 hl6 hv6 => ?_
  exact s_ret (v := .bl true) (ev_is (ev_eqD (evd_told (ks := toldL) (ev_var rfl) hl6 hv6 okL) (evd_ee (ds := toldD toldL) (en_e (en_cat2 (en_e (en_rep (n := 4) (en_e (en_lst (ea_w1 (ew_tup (ea_w1 (ew_c (.str _)) ea_w0) (by show 1 ≤ 100000; decide)) ea_w0) (by show 1 ≤ 100000; decide))) ev_c (by decide) (by decide) (by decide))) (en_e (en_lst (ea_w1 (ew_tup (ea_w1 (ew_c (.str _)) (ea_w1 (ew_c (.str _)) (ea_w1 (ew_tup (ea_w1 (ew_c (.str _)) (ea_w1 (ew_c (.int _)) ea_w0)) (by show 2 ≤ 100000; decide)) ea_w0))) (by show 3 ≤ 100000; decide)) ea_w0) (by show 1 ≤ 100000; decide))) (by decide) (by decide))) (nds_told okL)) toldL_sh toldL_sh) (congrArg V.bl toldL_eq)) fun H7 e7 => q H7
end
end Kz
set_option Elab.async false
set_option linter.all false
set_option maxRecDepth 100000
set_option maxHeartbeats 4000000
/-! the end of a law whose promise is kept where no repr is under way, with tables of code objects -/
namespace L2
open PySem PySem.Spec PyProof.Rows Evl Vr LamX
def oxB (K : PySem.W.Frag) (C : Addr) (ni : String) (tl : List Value) : Bool := match K.lookup C with
  | some ⟨.type "type", _, .cls cd, sl⟩ => (match cd.mro, sl.toList with
    | .ref C' :: bm, [_, _, _, _, some (.builtin n), _] => C' == C && (n == ni && (!cd.hasDel && (decide (bm = tl) && cd.hasDict)))
    | _, _ => false)
  | _ => false
theorem oxB_ok {K : PySem.W.Frag} {C : Addr} {ni : String} {tl : List Value} (h : oxB K C ni tl = true) : ∃ nm q N bs sn sub ab col dd k0 k1 k2 k3 k5, K.lookup C = some (excClassObj nm q C N bs tl true sn sub ab col dd k0 k1 k2 k3 k5 ni) := by
  unfold oxB at h
  split at h
  · rename_i dd cd sl ho
    split at h
    · rename_i C' bm k0 k1 k2 k3 n k5 hm hs
      simp only [Bool.and_eq_true, beq_iff_eq, Bool.not_eq_true', decide_eq_true_eq] at h
      obtain ⟨rfl, rfl, h1, rfl, h2⟩ := h
      obtain ⟨nm, bs, mro, ns, qn, hd, sn, sub, ab, col, del⟩ := cd
      dsimp only at hm h1 h2
      subst hm h1 h2
      obtain ⟨l⟩ := sl
      have hs : l = [k0, k1, k2, k3, some (.builtin n), k5] := hs
      subst hs
      exact ⟨nm, qn, ns, bs, sn, sub, ab, col, dd, k0, k1, k2, k3, k5, ho⟩
    · cases h
  · cases h
/-- an object of a kind that is neither the script's nor a table's is not tracked -/
theorem law_callG {P : Program} {w : World} {K : PySem.W.Frag} {mg mb : Str → Option Value} {CX : CXT} {k : Nat} {fa a : Addr} {cs : List (Addr × Addr)} {fd : FuncData} {x : Str} {sp : Sp} {s : Shared} {us : List Value} {ns : List Int} (kin : K.In s.heap) (g0 : s.heap.Ns mainGlobals mg) (b0 : s.heap.Ns builtinsNs mb)
    (bb : ∀ x : Str, x ≠ "__name__" → mb x = bootBuiltins x) (lim : s.heap.NoLimit) (no : s.gens = #[]) (tabs : ∀ q ∈ cs, s.heap.get? q.2 = some { cls := .none, data := .fields #[] }) (free : ∀ q ∈ cs, K.lookup q.2 = none) (codes : ∀ q ∈ cs, PySem.W.CodeHd s.heap q.1 q.2)
    (main : ∃ (bm : Addr) (ob : Obj), mg "__builtins__" = some (.ref bm) ∧ bm ≠ builtinsNs ∧ s.heap.get? bm = some ob ∧ ob.cls = .type "module" ∧ ob.dict = some builtinsNs ∧ ob.data = .plain) (at_ : s.heap.get? a = some { cls := .type "list", data := .seq us.toArray }) (iva : IntsAre us ns) (short : ns.length ≤ sizeLine)
    (room : Room k callerA) (F : ∀ base : Heap, K.In base → base.Ns mainGlobals mg → (∀ q ∈ cs, TabB base mg q.1 q.2) → FnG P w K mg base CX k fa fd [x] sp) (bnd : ∀ (s : Shared) (u : Value), BindsTo s fd ⟨[u], []⟩ [(x, u)])
    (good : ∀ H : Hp, (∀ q ∈ cs, H q.2 = some (.tbl #[])) → SqL K H a (ns.map V.int) → sp [.ref a] H (fun v _ => v = .bl true) fun _ _ _ => False) (tight : ∀ H e s', CX [] H s (fun _ _ _ => False) e s' → False) :
    codeAny (model P w) callerA (.call (.ref fa) ⟨[.ref a], []⟩) (fun r s' => r = .ok (.ret (.bool true)) ∧ OldK s.heap s'.heap ∧ s'.os = s.os ∧ AllBare s'.gens) s := by
  have vals := vals_ints iva
  let ts := cs.map (·.2)
  have tab : ∀ b ∈ ts, s.heap.get? b = some { cls := .none, data := .fields #[] } := fun b hb => by obtain ⟨q, hq, rfl⟩ := List.mem_map.mp hb; exact tabs q hq
  have mem : ∀ q ∈ cs, q.2 ∈ ts := fun q hq => List.mem_map_of_mem hq
  have apart : a ∉ ts := fun z => by
    have h := tab a z; rw [at_] at h; exact absurd (congrArg Obj.data (Option.some.inj h)) (fun z => by cases z)
  have run : ∀ H : Hp, (∀ q ∈ cs, H q.2 = some (.tbl #[])) → SqL K H a (ns.map V.int) → HOk P w H s.heap → (∀ b, H b = none ∨ b ∈ ts ∨ (b = a ∧ K.lookup a = none ∧ ∃ o xs, H b = some (.frz o (.lst xs)))) →
      codeAny (model P w) callerA (.call (.ref fa) ⟨[.ref a], []⟩) (fun r s' => r = .ok (.ret (.bool true)) ∧ OldK s.heap s'.heap ∧ s'.os = s.os ∧ AllBare s'.gens) s := fun H hq hs ok only => by
    -- what is no list and no table is not tracked
    have away : ∀ {b : Addr} {o : Obj}, s.heap.get? b = some o → (∀ l n, o.data ≠ .seq l n) → o.data ≠ .fields #[] → H b = none := fun {b o} e h1 h2 => by
      rcases only b with z | z | ⟨rfl, _⟩
      · exact z
      · rw [tab b z] at e; cases e; exact absurd rfl h2
      · rw [at_] at e; cases e; exact absurd rfl (h1 _ _)
    have keepN : ∀ {b : Addr} {m : Str → Option Value}, s.heap.Ns b m → (hidT s.heap H).Ns b m := fun {b m} ⟨o, es, ep, e, d, r⟩ => ⟨o, es, ep, hidT_get e (away e (fun l n z => by rw [d] at z; cases z) (fun z => by rw [d] at z; cases z)), d, r⟩
    have kinB : K.In (hidT s.heap H) := fun b o e => hidT_get (kin b o e) (by
      rcases only b with z | z | ⟨rfl, z, _⟩
      · exact z
      · obtain ⟨q, hq, rfl⟩ := List.mem_map.mp z; rw [free q hq] at e; cases e
      · rw [z] at e; cases e)
    have M : L2.Mod K mg (hidT s.heap H) := ⟨kinB, keepN g0, ⟨mb, keepN b0, bb⟩, let ⟨mc, h1, h2⟩ := lim; ⟨mc, keepN h1, h2⟩⟩
    have TB : ∀ q ∈ cs, TabB (hidT s.heap H) mg q.1 q.2 := fun q hq2 => by
      refine ⟨?_, ?_, fun z => ?_⟩
      · obtain ⟨o, vs, f, tf, fl, tg, inF, tx, tt, e, r1, r2, r3, r⟩ := codes q hq2
        exact ⟨o, vs, f, tf, fl, tg, inF, tx, tt, hidT_get e (away e (fun l n z => by rw [r2] at z; cases z) (fun z => by rw [r2] at z; cases z; simp at r3)), r1, r2, r3, r⟩
      · obtain ⟨bm, ob, h1, h2, h3, h4, h5, h6⟩ := main
        refine ⟨bm, ob, h1, h2, fun z => ?_, fun z => ?_, hidT_get h3 (away h3 (fun l n z => by rw [h6] at z; cases z) (fun z => by rw [h6] at z; cases z)), h4, h5, h6⟩
        · obtain ⟨o, es, ep, e, d, _⟩ := g0; rw [z, e] at h3; cases h3; rw [d] at h6; cases h6
        · rw [z, tabs q hq2] at h3; cases h3; cases h6
      · obtain ⟨o, es, ep, e, d, _⟩ := g0; rw [z, tabs q hq2] at e; cases e; cases d
    have e0 : Env0 P w K mg (hidT s.heap H) callerA [] s H := ⟨rfl, M, fun b o e => of_hidT e, Nat.le_of_eq (hidT_size _ _), trivial, (fun b hb => absurd (show b ∈ ([] : List Addr) from hb) List.not_mem_nil), ok, .of_eq no⟩
    refine codeAny_mono ((F _ kinB (keepN g0) TB).go callerA [] s H ⟨[.ref a], []⟩ [.ref a] [.ref a] _ _ room rfl e0 (bnd s (.ref a)) (.cons rfl .nil) (good H hq hs)) fun r s' h => ?_
    cases r with
    | error e => exact (tight H e s' h).elim
    | ok fl =>
      cases fl with
      | next | brk | cont => exact h.elim
      | ret u =>
        obtain ⟨v, H', os, bare, un, ok', ru, hv⟩ := h
        have hv : v = .bl true := hv
        subst hv; obtain rfl : u = Value.bool true := ru
        have same : ∀ b o, b ∉ ts → s.heap.get? b = some o → s'.heap.get? b = some o := fun b o nb e => by
          rcases only b with z | z | ⟨_, _, o1, xs, z⟩
          · exact un.keep b o e z (fun m => absurd (show b ∈ ([] : List Addr) from m) List.not_mem_nil) (by simp)
          · exact absurd z nb
          · obtain ⟨e1, _⟩ := ok b _ z; obtain ⟨e2, _⟩ := ok' b _ (un.frzs b o1 _ z); rw [e] at e1; cases e1; exact e2
        have grew : ∀ q ∈ cs, ∃ more : Array Value, s'.heap.get? q.2 = some { cls := .none, data := .fields more } := fun q hq2 => by obtain ⟨more, z⟩ := un.tbls q.2 #[] (hq q hq2); exact ⟨_, ok' q.2 _ z⟩
        refine ⟨rfl, ⟨fun b o e => ?_, fun b o e => ?_⟩, os, bare⟩
        · by_cases hb : b ∈ ts
          · obtain ⟨q, hq2, rfl⟩ := List.mem_map.mp hb; obtain ⟨more, hm⟩ := grew q hq2; rw [tabs q hq2] at e; cases e
            exact .inr (.inl ⟨((codes q hq2).tab (tabs q hq2)).isCodeTable, rfl, #[], more, rfl, by rw [Array.empty_append]; exact hm⟩)
          · exact .inl (same b o hb e)
        · by_cases hb : b ∈ ts
          · obtain ⟨q, hq2, rfl⟩ := List.mem_map.mp hb; obtain ⟨more, hm⟩ := grew q hq2; exact ⟨_, hm⟩
          · exact ⟨o, same b o hb e⟩
  have len := iva.length
  by_cases hk : K.lookup a = none
  · refine run (fun b => if b = a then some (.frz { cls := .type "list", data := .seq us.toArray } (.lst (ns.map V.int))) else if b ∈ ts then some (.tbl #[]) else none) (fun q hq => ?_) (.inl (.inr ⟨_, if_pos rfl⟩)) (fun b u z => ?_) fun b => ?_
    · show (if q.2 = a then _ else if q.2 ∈ ts then _ else _) = _
      rw [if_neg (fun z => apart (by rw [← z]; exact mem q hq)), if_pos (mem q hq)]
    · by_cases h1 : b = a
      · have z := (if_pos h1).symm.trans z; cases z; subst h1
        exact ⟨at_, by rw [List.length_map]; exact short, us, _, vals, at_⟩
      · have z := (if_neg h1).symm.trans z
        by_cases h2 : b ∈ ts
        · have z := (if_pos h2).symm.trans z; cases z; exact tab b h2
        · have z := (if_neg h2).symm.trans z; cases z
    · by_cases h1 : b = a
      · exact .inr (.inr ⟨h1, hk, _, _, if_pos h1⟩)
      · by_cases h2 : b ∈ ts
        · exact .inr (.inl h2)
        · exact .inl ((if_neg h1).trans (if_neg h2))
  · obtain ⟨o, ho⟩ := Option.ne_none_iff_exists'.mp hk
    have e := kin a o ho
    rw [at_] at e; cases e
    refine run (fun b => if b ∈ ts then some (.tbl #[]) else none) (fun q hq => if_pos (mem q hq)) (.inr ⟨_, us.toArray, _, ho, rfl, rfl, rfl, by rw [List.size_toArray, len]; exact short, by simpa using vals⟩) (fun b u z => ?_) fun b => ?_
    · by_cases h2 : b ∈ ts
      · have z := (if_pos h2).symm.trans z; cases z; exact tab b h2
      · have z := (if_neg h2).symm.trans z; cases z
    · by_cases h2 : b ∈ ts
      · exact .inr (.inl h2)
      · exact .inl (if_neg h2)
/-- what is to be told of the law at the head's heap -/
def LawG (l : PySem.W.OpenLaw) (w : World) (K : PySem.W.Frag) (CX : CXT) (k n : Nat) (x : Str) (mg : Str → Option Value) (fa : Addr) (h : Heap) : Prop :=
  ∃ (fd : FuncData) (cs : List (Addr × Addr)) (sp : Sp), (∀ q ∈ cs, h.get? q.2 = some { cls := .none, data := .fields #[] }) ∧ (∀ q ∈ cs, K.lookup q.2 = none) ∧ (∀ q ∈ cs, PySem.W.CodeHd h q.1 q.2) ∧ (∀ (s : Shared) (u : Value), BindsTo s fd ⟨[u], []⟩ [(x, u)]) ∧
    (∀ (H : Hp) (a : Addr) (ns : List Int), ns.length ≤ n → (∀ q ∈ cs, H q.2 = some (.tbl #[])) → SqL K H a (ns.map V.int) → sp [.ref a] H (fun v _ => v = .bl true) fun _ _ _ => False) ∧ ∀ base : Heap, K.In base → base.Ns mainGlobals mg → (∀ q ∈ cs, TabB base mg q.1 q.2) → FnG l.prog w K mg base CX k fa fd [x] sp
theorem walk_ofG {l : PySem.W.OpenLaw} {n k : Nat} {q : Program} {loose : List Str} {XP : (Str → Option Value) → Heap → Prop} {YP : World → Heap → Prop} {d : DefRec} {K : Params → PySem.W.Frag} {CX : World → CXT} {x : Str} (hn : l.most = some n) (hn2 : n ≤ sizeLine) (hdf : d.params.defaults = []) (room : Room k callerA)
    (hY : ∀ (w : World) (h : Heap), YP w h → (K w.params).In h) (F : ∀ (w : World) (mg : Str → Option Value) (fa : Addr) (h : Heap), YP w h → (K w.params).In h → h.Ns mainGlobals mg → mg d.name = some (.ref fa) → LawG l w (K w.params) (CX w) k n x mg fa h)
    (tight : ∀ (w : World) (H : Hp) (s : Shared) (e : Value) (s' : Shared), CX w [] H s (fun _ _ _ => False) e s' → False) : PySem.W.WalkO q loose XP YP l.row.toRowW d [] (fun f vs => PySem.call f vs) :=
  Att.attach_call hn hdf fun w s₀ s₁ mg mb fa o pm cd doc a vs ns G Y ho hd hcd hmg hobj hints hlen hg => by
    obtain ⟨fd, cs, sp, h1, h2, h3, h4, h5, h6⟩ := F w mg fa _ Y (hY w _ Y) G.T.g hmg
    exact law_callG (hY w _ Y) G.T.g G.T.b G.T.builtins G.T.nolimit hg h1 h2 h3 G.T.bmain hobj hints (Nat.le_trans hlen hn2) room h6 h4 (fun H hH hS => h5 H a ns hlen hH hS) fun H e s' => tight w H s₁ e s'
end L2
set_option Elab.async false
set_option linter.all false
set_option maxRecDepth 100000
set_option maxHeartbeats 4000000
set_option exponentiation.threshold 500
namespace Kz
open PySem PySem.Spec PyProof.Rows L2 Evl Vr
open LamX Wo
def oexB (K : PySem.W.Frag) (C : Addr) : Bool := match K.lookup C with
  | some ⟨.type "type", _, .cls cd, sl⟩ => (match cd.mro, sl.toList with
    | .ref C' :: bm, [_, _, _, _, some (.builtin n), _] => C' == C && (n == "ValueError.__new__" && (!cd.hasDel && (PySem.HandSPX.refsVE bm && cd.hasDict)))
    | _, _ => false)
  | _ => false
theorem oexB_ok {K : PySem.W.Frag} {C : Addr} (h : oexB K C = true) : ∃ nm q N bs bm sn sub ab col dd k0 k1 k2 k3 k5, K.lookup C = some (excClassObj nm q C N bs bm true sn sub ab col dd k0 k1 k2 k3 k5 "ValueError.__new__") ∧ PySem.HandSPX.refsVE bm = true := by
  unfold oexB at h
  split at h
  · rename_i dd cd sl ho
    split at h
    · rename_i C' bm k0 k1 k2 k3 n k5 hm hs
      simp only [Bool.and_eq_true, beq_iff_eq, Bool.not_eq_true', decide_eq_true_eq] at h
      obtain ⟨rfl, rfl, h1, hr, h2⟩ := h
      obtain ⟨nm, bs, mro, ns, qn, hd, sn, sub, ab, col, del⟩ := cd
      dsimp only at hm h1 h2
      subst hm h1 h2
      obtain ⟨l⟩ := sl
      have hs : l = [k0, k1, k2, k3, some (.builtin "ValueError.__new__"), k5] := hs
      subst hs
      exact ⟨nm, qn, ns, bs, bm, sn, sub, ab, col, dd, k0, k1, k2, k3, k5, ho, hr⟩
    · cases h
  · cases h
theorem vals_ref {e : Addr} {ds : List Value} (h : Vals [V.ref e] ds) : ds = [Value.ref e] := by
  cases h with
  | cons h t =>
    cases t
    cases h
    rfl
theorem vals_nil {ds : List Value} (h : Vals [] ds) : ds = [] := by
  cases h
  rfl
theorem all_mk {l : PySem.W.OpenLaw} {w : World} {K : PySem.W.Frag} {h : Heap} {mg : Str → Option Value} {fa f0 f1 f2 f3 f4 f5 f6 f7 f8 f9 f10 f11 f12 f13 f14 f15 f16 f17 f18 f19 f20 f21 f22 f23 f24 f25 f26 f27 f28 f29 f30 f31 f32 f33 f34 f35 f36 f37 f38 f39 f40 f41 f42 f43 f44 f45 f46 f47 f48 f49 f50 f51 f52 f53 f54 f55 f56 f57 f58 f59 f60 : Addr} (X : K.In h) (G : h.Ns mainGlobals mg) (hfa : mg "law" = some (.ref fa)) {aWE : Addr} {aOE : Addr} {aIN fIN : Addr} {ocIN : Value} {odIN : Option Addr} {kVIN dcIN pmIN : Value} {anIN : Option Addr} {cdIN ctIN : Value} {slIN : Array (Option Value)} {aUN fUN : Addr} {ocUN : Value} {odUN : Option Addr} {kVUN dcUN pmUN : Value} {anUN : Option Addr} {cdUN ctUN : Value} {slUN : Array (Option Value)} {aRE fRE : Addr} {ocRE : Value} {odRE : Option Addr} {kVRE dcRE pmRE : Value} {anRE : Option Addr} {cdRE ctRE : Value} {slRE : Array (Option Value)} {C_World : Addr} {C_Ring : Addr} {t_MODULUS : Tok} {t_MOST : Tok} {t_MAX_THINGS : Tok} {t_MAX_FIELDS : Tok} {t_LEAST_SIZE : Tok} {t_MOST_SPACING : Tok}
    {od0 an0 od1 an1 od2 an2 od3 an3 od4 an4 od5 an5 od6 an6 od7 an7 od8 an8 od9 an9 od10 an10 od11 an11 od12 an12 od13 an13 od14 an14 od15 an15 od16 an16 od17 an17 od18 an18 od19 an19 od20 an20 od21 an21 od22 an22 od23 an23 od24 an24 od25 an25 od26 an26 od27 an27 od28 an28 od29 an29 od30 an30 od31 an31 od32 an32 od33 an33 od34 an34 od35 an35 od36 an36 od37 an37 od38 an38 od39 an39 od40 an40 od41 an41 od42 an42 od43 an43 od44 an44 od45 an45 od46 an46 od47 an47 od48 an48 od49 an49 od50 an50 od51 an51 od52 an52 od53 an53 od54 an54 od55 an55 od56 an56 od57 an57 od58 an58 od59 an59 od60 an60 : Option Addr} {sl0 sl1 sl2 sl3 sl4 sl5 sl6 sl7 sl8 sl9 sl10 sl11 sl12 sl13 sl14 sl15 sl16 sl17 sl18 sl19 sl20 sl21 sl22 sl23 sl24 sl25 sl26 sl27 sl28 sl29 sl30 sl31 sl32 sl33 sl34 sl35 sl36 sl37 sl38 sl39 sl40 sl41 sl42 sl43 sl44 sl45 sl46 sl47 sl48 sl49 sl50 sl51 sl52 sl53 sl54 sl55 sl56 sl57 sl58 sl59 sl60 : Array (Option Value)} {oc0 kV0 dc0 pm0 cd0 ct0 oc1 kV1 dc1 pm1 cd1 ct1 oc2 kV2 dc2 pm2 cd2 ct2 oc3 kV3 dc3 pm3 cd3 ct3 oc4 kV4 dc4 pm4 cd4 ct4 oc5 kV5 dc5 pm5 cd5 ct5 oc6 kV6 dc6 pm6 cd6 ct6 oc7 kV7 dc7 pm7 cd7 ct7 oc8 kV8 dc8 pm8 cd8 ct8 oc9 kV9 dc9 pm9 cd9 ct9 oc10 kV10 dc10 pm10 cd10 ct10 oc11 kV11 dc11 pm11 cd11 ct11 oc12 kV12 dc12 pm12 cd12 ct12 oc13 kV13 dc13 pm13 cd13 ct13 oc14 kV14 dc14 pm14 cd14 ct14 oc15 kV15 dc15 pm15 cd15 ct15 oc16 kV16 dc16 pm16 cd16 ct16 oc17 kV17 dc17 pm17 cd17 ct17 oc18 kV18 dc18 pm18 cd18 ct18 oc19 kV19 dc19 pm19 cd19 ct19 oc20 kV20 dc20 pm20 cd20 ct20 oc21 kV21 dc21 pm21 cd21 ct21 oc22 kV22 dc22 pm22 cd22 ct22 oc23 kV23 dc23 pm23 cd23 ct23 oc24 kV24 dc24 pm24 cd24 ct24 oc25 kV25 dc25 pm25 cd25 ct25 oc26 kV26 dc26 pm26 cd26 ct26 oc27 kV27 dc27 pm27 cd27 ct27 oc28 kV28 dc28 pm28 cd28 ct28 oc29 kV29 dc29 pm29 cd29 ct29 oc30 kV30 dc30 pm30 cd30 ct30 oc31 kV31 dc31 pm31 cd31 ct31 oc32 kV32 dc32 pm32 cd32 ct32 oc33 kV33 dc33 pm33 cd33 ct33 oc34 kV34 dc34 pm34 cd34 ct34 oc35 kV35 dc35 pm35 cd35 ct35 oc36 kV36 dc36 pm36 cd36 ct36 oc37 kV37 dc37 pm37 cd37 ct37 oc38 kV38 dc38 pm38 cd38 ct38 oc39 dc39 pm39 cd39 ct39 oc40 kV40 dc40 pm40 cd40 ct40 oc41 kV41 dc41 pm41 cd41 ct41 oc42 kV42 dc42 pm42 cd42 ct42 oc43 kV43 dc43 pm43 cd43 ct43 oc44 kV44 dc44 pm44 cd44 ct44 oc45 kV45 dc45 pm45 cd45 ct45 oc46 kV46 dc46 pm46 cd46 ct46 oc47 kV47 dc47 pm47 cd47 ct47 oc48 kV48 dc48 pm48 cd48 ct48 oc49 kV49 dc49 pm49 cd49 ct49 oc50 kV50 dc50 pm50 cd50 ct50 oc51 kV51 dc51 pm51 cd51 ct51 oc52 kV52 dc52 pm52 cd52 ct52 oc53 kV53 dc53 pm53 cd53 ct53 oc54 kV54 dc54 pm54 cd54 ct54 oc55 kV55 dc55 pm55 cd55 ct55 oc56 kV56 dc56 pm56 cd56 ct56 oc57 kV57 dc57 pm57 cd57 ct57 oc58 kV58 dc58 pm58 ct58 oc59 kV59 dc59 pm59 ct59 oc60 kV60 dc60 pm60 ct60 : Value}
    (aC_World : PySem.W.nsIn K mainGlobals "World" = some (some (.ref C_World))) (pg_World : PySem.W.plainGet K C_World Str.empty = true) (hd_World : PySem.W.hasDictIn K C_World = true) (po_World : PySem.W.plainOver K C_World = true) (sa_World : PySem.W.findIn K (.ref C_World) "__setattr__" = some (some (.builtin "object.__setattr__"))) (mi_World : PySem.W.makesIn K C_World = true) (kc_World : PySem.W.keepIn K (.ref C_World) = true)
    (nA_World_tick : PySem.W.findIn K (.ref C_World) "tick" = some none)
    (nA_World_next_id : PySem.W.findIn K (.ref C_World) "next_id" = some none)
    (nA_World_luck : PySem.W.findIn K (.ref C_World) "luck" = some none)
    (nA_World_things : PySem.W.findIn K (.ref C_World) "things" = some none)
    (nA_World_order : PySem.W.findIn K (.ref C_World) "order" = some none)
    (nA_World_table : PySem.W.findIn K (.ref C_World) "table" = some none)
    (aC_Ring : PySem.W.nsIn K mainGlobals "Ring" = some (some (.ref C_Ring))) (pg_Ring : PySem.W.plainGet K C_Ring Str.empty = true) (hd_Ring : PySem.W.hasDictIn K C_Ring = true) (po_Ring : PySem.W.plainOver K C_Ring = true) (sa_Ring : PySem.W.findIn K (.ref C_Ring) "__setattr__" = some (some (.builtin "object.__setattr__"))) (mi_Ring : PySem.W.makesIn K C_Ring = true) (kc_Ring : PySem.W.keepIn K (.ref C_Ring) = true)
    (nA_Ring_first : PySem.W.findIn K (.ref C_Ring) "first" = some none)
    (nA_Ring_last : PySem.W.findIn K (.ref C_Ring) "last" = some none)
    (nA_Ring_spacing : PySem.W.findIn K (.ref C_Ring) "spacing" = some none)
    (nA_Ring_kept : PySem.W.findIn K (.ref C_Ring) "kept" = some none)
    (nA_Ring_wholes : PySem.W.findIn K (.ref C_Ring) "wholes" = some none)
    (a0 : PySem.W.nsIn K mainGlobals "is_integer" = some (some (.ref f0))) (l0 : K.lookup f0 = some ⟨oc0, od0, .func (PySem.W.fnOf "is_integer" "is_integer" (defArgs s_is_integer) (defBody s_is_integer) (defScope s_is_integer) .none kV0 dc0 pm0 an0 cd0 ct0), sl0⟩) (c0 : PySem.W.codeIn K cd0 "is_integer" = true) (k0 : PySem.W.keepIn K (.ref f0) = true)
    (a1 : PySem.W.nsIn K mainGlobals "is_within" = some (some (.ref f1))) (l1 : K.lookup f1 = some ⟨oc1, od1, .func (PySem.W.fnOf "is_within" "is_within" (defArgs s_is_within) (defBody s_is_within) (defScope s_is_within) .none kV1 dc1 pm1 an1 cd1 ct1), sl1⟩) (c1 : PySem.W.codeIn K cd1 "is_within" = true) (k1 : PySem.W.keepIn K (.ref f1) = true)
    (a2 : PySem.W.nsIn K mainGlobals "is_whole" = some (some (.ref f2))) (l2 : K.lookup f2 = some ⟨oc2, od2, .func (PySem.W.fnOf "is_whole" "is_whole" (defArgs s_is_whole) (defBody s_is_whole) (defScope s_is_whole) .none kV2 dc2 pm2 an2 cd2 ct2), sl2⟩) (c2 : PySem.W.codeIn K cd2 "is_whole" = true) (k2 : PySem.W.keepIn K (.ref f2) = true)
    (a3 : PySem.W.nsIn K mainGlobals "is_name" = some (some (.ref f3))) (l3 : K.lookup f3 = some ⟨oc3, od3, .func (PySem.W.fnOf "is_name" "is_name" (defArgs s_is_name) (defBody s_is_name) (defScope s_is_name) .none kV3 dc3 pm3 an3 cd3 ct3), sl3⟩) (c3 : PySem.W.codeIn K cd3 "is_name" = true) (k3 : PySem.W.keepIn K (.ref f3) = true)
    (a4 : PySem.W.nsIn K mainGlobals "need_within" = some (some (.ref f4))) (l4 : K.lookup f4 = some ⟨oc4, od4, .func (PySem.W.fnOf "need_within" "need_within" (defArgs s_need_within) (defBody s_need_within) (defScope s_need_within) .none kV4 dc4 pm4 an4 cd4 ct4), sl4⟩) (c4 : PySem.W.codeIn K cd4 "need_within" = true) (k4 : PySem.W.keepIn K (.ref f4) = true)
    (a5 : PySem.W.nsIn K mainGlobals "is_luck" = some (some (.ref f5))) (l5 : K.lookup f5 = some ⟨oc5, od5, .func (PySem.W.fnOf "is_luck" "is_luck" (defArgs s_is_luck) (defBody s_is_luck) (defScope s_is_luck) .none kV5 dc5 pm5 an5 cd5 ct5), sl5⟩) (c5 : PySem.W.codeIn K cd5 "is_luck" = true) (k5 : PySem.W.keepIn K (.ref f5) = true)
    (a6 : PySem.W.nsIn K mainGlobals "is_number" = some (some (.ref f6))) (l6 : K.lookup f6 = some ⟨oc6, od6, .func (PySem.W.fnOf "is_number" "is_number" (defArgs s_is_number) (defBody s_is_number) (defScope s_is_number) .none kV6 dc6 pm6 an6 cd6 ct6), sl6⟩) (c6 : PySem.W.codeIn K cd6 "is_number" = true) (k6 : PySem.W.keepIn K (.ref f6) = true)
    (a7 : PySem.W.findIn K (.ref C_World) "__init__" = some (some (.ref f7))) (i7 : PySem.W.isFn K (.ref f7) = true) (l7 : K.lookup f7 = some ⟨oc7, od7, .func (PySem.W.fnOf "__init__" "World.__init__" (defArgs s_World___init__) (defBody s_World___init__) (defScope s_World___init__) .none kV7 dc7 pm7 an7 cd7 ct7), sl7⟩) (c7 : PySem.W.codeIn K cd7 "World.__init__" = true) (k7 : PySem.W.keepIn K (.ref f7) = true)
    (a8 : PySem.W.findIn K (.ref C_World) "_fill" = some (some (.ref f8))) (i8 : PySem.W.isFn K (.ref f8) = true) (l8 : K.lookup f8 = some ⟨oc8, od8, .func (PySem.W.fnOf "_fill" "World._fill" (defArgs s_World__fill) (defBody s_World__fill) (defScope s_World__fill) .none kV8 dc8 pm8 an8 cd8 ct8), sl8⟩) (c8 : PySem.W.codeIn K cd8 "World._fill" = true) (k8 : PySem.W.keepIn K (.ref f8) = true)
    (a9 : PySem.W.findIn K (.ref C_World) "ids" = some (some (.ref f9))) (i9 : PySem.W.isFn K (.ref f9) = true) (l9 : K.lookup f9 = some ⟨oc9, od9, .func (PySem.W.fnOf "ids" "World.ids" (defArgs s_World_ids) (defBody s_World_ids) (defScope s_World_ids) .none kV9 dc9 pm9 an9 cd9 ct9), sl9⟩) (c9 : PySem.W.codeIn K cd9 "World.ids" = true) (k9 : PySem.W.keepIn K (.ref f9) = true)
    (a10 : PySem.W.findIn K (.ref C_World) "kind_of" = some (some (.ref f10))) (i10 : PySem.W.isFn K (.ref f10) = true) (l10 : K.lookup f10 = some ⟨oc10, od10, .func (PySem.W.fnOf "kind_of" "World.kind_of" (defArgs s_World_kind_of) (defBody s_World_kind_of) (defScope s_World_kind_of) .none kV10 dc10 pm10 an10 cd10 ct10), sl10⟩) (c10 : PySem.W.codeIn K cd10 "World.kind_of" = true) (k10 : PySem.W.keepIn K (.ref f10) = true)
    (a11 : PySem.W.findIn K (.ref C_World) "numbers" = some (some (.ref f11))) (i11 : PySem.W.isFn K (.ref f11) = true) (l11 : K.lookup f11 = some ⟨oc11, od11, .func (PySem.W.fnOf "numbers" "World.numbers" (defArgs s_World_numbers) (defBody s_World_numbers) (defScope s_World_numbers) .none kV11 dc11 pm11 an11 cd11 ct11), sl11⟩) (c11 : PySem.W.codeIn K cd11 "World.numbers" = true) (k11 : PySem.W.keepIn K (.ref f11) = true)
    (a12 : PySem.W.findIn K (.ref C_World) "__contains__" = some (some (.ref f12))) (i12 : PySem.W.isFn K (.ref f12) = true) (l12 : K.lookup f12 = some ⟨oc12, od12, .func (PySem.W.fnOf "__contains__" "World.__contains__" (defArgs s_World___contains__) (defBody s_World___contains__) (defScope s_World___contains__) .none kV12 dc12 pm12 an12 cd12 ct12), sl12⟩) (c12 : PySem.W.codeIn K cd12 "World.__contains__" = true) (k12 : PySem.W.keepIn K (.ref f12) = true)
    (a13 : PySem.W.findIn K (.ref C_World) "__len__" = some (some (.ref f13))) (i13 : PySem.W.isFn K (.ref f13) = true) (l13 : K.lookup f13 = some ⟨oc13, od13, .func (PySem.W.fnOf "__len__" "World.__len__" (defArgs s_World___len__) (defBody s_World___len__) (defScope s_World___len__) .none kV13 dc13 pm13 an13 cd13 ct13), sl13⟩) (c13 : PySem.W.codeIn K cd13 "World.__len__" = true) (k13 : PySem.W.keepIn K (.ref f13) = true)
    (a14 : PySem.W.findIn K (.ref C_World) "__iter__" = some (some (.ref f14))) (i14 : PySem.W.isFn K (.ref f14) = true) (l14 : K.lookup f14 = some ⟨oc14, od14, .func (PySem.W.fnOf "__iter__" "World.__iter__" (defArgs s_World___iter__) (defBody s_World___iter__) (defScope s_World___iter__) .none kV14 dc14 pm14 an14 cd14 ct14), sl14⟩) (c14 : PySem.W.codeIn K cd14 "World.__iter__" = true) (k14 : PySem.W.keepIn K (.ref f14) = true)
    (a15 : PySem.W.findIn K (.ref C_World) "__eq__" = some (some (.ref f15))) (i15 : PySem.W.isFn K (.ref f15) = true) (l15 : K.lookup f15 = some ⟨oc15, od15, .func (PySem.W.fnOf "__eq__" "World.__eq__" (defArgs s_World___eq__) (defBody s_World___eq__) (defScope s_World___eq__) .none kV15 dc15 pm15 an15 cd15 ct15), sl15⟩) (c15 : PySem.W.codeIn K cd15 "World.__eq__" = true) (k15 : PySem.W.keepIn K (.ref f15) = true)
    (a16 : PySem.W.findIn K (.ref C_World) "__str__" = some (some (.ref f16))) (i16 : PySem.W.isFn K (.ref f16) = true) (l16 : K.lookup f16 = some ⟨oc16, od16, .func (PySem.W.fnOf "__str__" "World.__str__" (defArgs s_World___str__) (defBody s_World___str__) (defScope s_World___str__) .none kV16 dc16 pm16 an16 cd16 ct16), sl16⟩) (c16 : PySem.W.codeIn K cd16 "World.__str__" = true) (k16 : PySem.W.keepIn K (.ref f16) = true)
    (a17 : PySem.W.nsIn K mainGlobals "properties_of" = some (some (.ref f17))) (l17 : K.lookup f17 = some ⟨oc17, od17, .func (PySem.W.fnOf "properties_of" "properties_of" (defArgs s_properties_of) (defBody s_properties_of) (defScope s_properties_of) .none kV17 dc17 pm17 an17 cd17 ct17), sl17⟩) (c17 : PySem.W.codeIn K cd17 "properties_of" = true) (k17 : PySem.W.keepIn K (.ref f17) = true)
    (a18 : PySem.W.nsIn K mainGlobals "world_of" = some (some (.ref f18))) (l18 : K.lookup f18 = some ⟨oc18, od18, .func (PySem.W.fnOf "world_of" "world_of" (defArgs s_world_of) (defBody s_world_of) (defScope s_world_of) .none kV18 dc18 pm18 an18 cd18 ct18), sl18⟩) (c18 : PySem.W.codeIn K cd18 "world_of" = true) (k18 : PySem.W.keepIn K (.ref f18) = true)
    (a19 : PySem.W.nsIn K mainGlobals "are_things" = some (some (.ref f19))) (l19 : K.lookup f19 = some ⟨oc19, od19, .func (PySem.W.fnOf "are_things" "are_things" (defArgs s_are_things) (defBody s_are_things) (defScope s_are_things) .none kV19 dc19 pm19 an19 cd19 ct19), sl19⟩) (c19 : PySem.W.codeIn K cd19 "are_things" = true) (k19 : PySem.W.keepIn K (.ref f19) = true)
    (a20 : PySem.W.nsIn K mainGlobals "is_thing" = some (some (.ref f20))) (l20 : K.lookup f20 = some ⟨oc20, od20, .func (PySem.W.fnOf "is_thing" "is_thing" (defArgs s_is_thing) (defBody s_is_thing) (defScope s_is_thing) .none kV20 dc20 pm20 an20 cd20 ct20), sl20⟩) (c20 : PySem.W.codeIn K cd20 "is_thing" = true) (k20 : PySem.W.keepIn K (.ref f20) = true)
    (a21 : PySem.W.nsIn K mainGlobals "are_numbers" = some (some (.ref f21))) (l21 : K.lookup f21 = some ⟨oc21, od21, .func (PySem.W.fnOf "are_numbers" "are_numbers" (defArgs s_are_numbers) (defBody s_are_numbers) (defScope s_are_numbers) .none kV21 dc21 pm21 an21 cd21 ct21), sl21⟩) (c21 : PySem.W.codeIn K cd21 "are_numbers" = true) (k21 : PySem.W.keepIn K (.ref f21) = true)
    (a22 : PySem.W.nsIn K mainGlobals "are_in_sequence" = some (some (.ref f22))) (l22 : K.lookup f22 = some ⟨oc22, od22, .func (PySem.W.fnOf "are_in_sequence" "are_in_sequence" (defArgs s_are_in_sequence) (defBody s_are_in_sequence) (defScope s_are_in_sequence) .none kV22 dc22 pm22 an22 cd22 ct22), sl22⟩) (c22 : PySem.W.codeIn K cd22 "are_in_sequence" = true) (k22 : PySem.W.keepIn K (.ref f22) = true)
    (a23 : PySem.W.nsIn K mainGlobals "need_world" = some (some (.ref f23))) (l23 : K.lookup f23 = some ⟨oc23, od23, .func (PySem.W.fnOf "need_world" "need_world" (defArgs s_need_world) (defBody s_need_world) (defScope s_need_world) .none kV23 dc23 pm23 an23 cd23 ct23), sl23⟩) (c23 : PySem.W.codeIn K cd23 "need_world" = true) (k23 : PySem.W.keepIn K (.ref f23) = true)
    (a24 : PySem.W.nsIn K mainGlobals "do_ascend" = some (some (.ref f24))) (l24 : K.lookup f24 = some ⟨oc24, od24, .func (PySem.W.fnOf "do_ascend" "do_ascend" (defArgs s_do_ascend) (defBody s_do_ascend) (defScope s_do_ascend) .none kV24 dc24 pm24 an24 cd24 ct24), sl24⟩) (c24 : PySem.W.codeIn K cd24 "do_ascend" = true) (k24 : PySem.W.keepIn K (.ref f24) = true)
    (a25 : PySem.W.nsIn K mainGlobals "is_difference" = some (some (.ref f25))) (l25 : K.lookup f25 = some ⟨oc25, od25, .func (PySem.W.fnOf "is_difference" "is_difference" (defArgs s_is_difference) (defBody s_is_difference) (defScope s_is_difference) .none kV25 dc25 pm25 an25 cd25 ct25), sl25⟩) (c25 : PySem.W.codeIn K cd25 "is_difference" = true) (k25 : PySem.W.keepIn K (.ref f25) = true)
    (a26 : PySem.W.nsIn K mainGlobals "are_gone" = some (some (.ref f26))) (l26 : K.lookup f26 = some ⟨oc26, od26, .func (PySem.W.fnOf "are_gone" "are_gone" (defArgs s_are_gone) (defBody s_are_gone) (defScope s_are_gone) .none kV26 dc26 pm26 an26 cd26 ct26), sl26⟩) (c26 : PySem.W.codeIn K cd26 "are_gone" = true) (k26 : PySem.W.keepIn K (.ref f26) = true)
    (a27 : PySem.W.nsIn K mainGlobals "are_coming" = some (some (.ref f27))) (l27 : K.lookup f27 = some ⟨oc27, od27, .func (PySem.W.fnOf "are_coming" "are_coming" (defArgs s_are_coming) (defBody s_are_coming) (defScope s_are_coming) .none kV27 dc27 pm27 an27 cd27 ct27), sl27⟩) (c27 : PySem.W.codeIn K cd27 "are_coming" = true) (k27 : PySem.W.keepIn K (.ref f27) = true)
    (a28 : PySem.W.nsIn K mainGlobals "are_changes" = some (some (.ref f28))) (l28 : K.lookup f28 = some ⟨oc28, od28, .func (PySem.W.fnOf "are_changes" "are_changes" (defArgs s_are_changes) (defBody s_are_changes) (defScope s_are_changes) .none kV28 dc28 pm28 an28 cd28 ct28), sl28⟩) (c28 : PySem.W.codeIn K cd28 "are_changes" = true) (k28 : PySem.W.keepIn K (.ref f28) = true)
    (a29 : PySem.W.nsIn K mainGlobals "is_change" = some (some (.ref f29))) (l29 : K.lookup f29 = some ⟨oc29, od29, .func (PySem.W.fnOf "is_change" "is_change" (defArgs s_is_change) (defBody s_is_change) (defScope s_is_change) .none kV29 dc29 pm29 an29 cd29 ct29), sl29⟩) (c29 : PySem.W.codeIn K cd29 "is_change" = true) (k29 : PySem.W.keepIn K (.ref f29) = true)
    (a30 : PySem.W.nsIn K mainGlobals "difference" = some (some (.ref f30))) (l30 : K.lookup f30 = some ⟨oc30, od30, .func (PySem.W.fnOf "difference" "difference" (defArgs s_difference) (defBody s_difference) (defScope s_difference) .none kV30 dc30 pm30 an30 cd30 ct30), sl30⟩) (c30 : PySem.W.codeIn K cd30 "difference" = true) (k30 : PySem.W.keepIn K (.ref f30) = true)
    (a31 : PySem.W.nsIn K mainGlobals "difference_of" = some (some (.ref f31))) (l31 : K.lookup f31 = some ⟨oc31, od31, .func (PySem.W.fnOf "difference_of" "difference_of" (defArgs s_difference_of) (defBody s_difference_of) (defScope s_difference_of) .none kV31 dc31 pm31 an31 cd31 ct31), sl31⟩) (c31 : PySem.W.codeIn K cd31 "difference_of" = true) (k31 : PySem.W.keepIn K (.ref f31) = true)
    (a32 : PySem.W.nsIn K mainGlobals "has_alike" = some (some (.ref f32))) (l32 : K.lookup f32 = some ⟨oc32, od32, .func (PySem.W.fnOf "has_alike" "has_alike" (defArgs s_has_alike) (defBody s_has_alike) (defScope s_has_alike) .none kV32 dc32 pm32 an32 cd32 ct32), sl32⟩) (c32 : PySem.W.codeIn K cd32 "has_alike" = true) (k32 : PySem.W.keepIn K (.ref f32) = true)
    (a33 : PySem.W.nsIn K mainGlobals "changes_of" = some (some (.ref f33))) (l33 : K.lookup f33 = some ⟨oc33, od33, .func (PySem.W.fnOf "changes_of" "changes_of" (defArgs s_changes_of) (defBody s_changes_of) (defScope s_changes_of) .none kV33 dc33 pm33 an33 cd33 ct33), sl33⟩) (c33 : PySem.W.codeIn K cd33 "changes_of" = true) (k33 : PySem.W.keepIn K (.ref f33) = true)
    (a34 : PySem.W.nsIn K mainGlobals "applied" = some (some (.ref f34))) (l34 : K.lookup f34 = some ⟨oc34, od34, .func (PySem.W.fnOf "applied" "applied" (defArgs s_applied) (defBody s_applied) (defScope s_applied) .none kV34 dc34 pm34 an34 cd34 ct34), sl34⟩) (c34 : PySem.W.codeIn K cd34 "applied" = true) (k34 : PySem.W.keepIn K (.ref f34) = true)
    (a35 : PySem.W.nsIn K mainGlobals "world_behind" = some (some (.ref f35))) (l35 : K.lookup f35 = some ⟨oc35, od35, .func (PySem.W.fnOf "world_behind" "world_behind" (defArgs s_world_behind) (defBody s_world_behind) (defScope s_world_behind) .none kV35 dc35 pm35 an35 cd35 ct35), sl35⟩) (c35 : PySem.W.codeIn K cd35 "world_behind" = true) (k35 : PySem.W.keepIn K (.ref f35) = true)
    (a36 : PySem.W.nsIn K mainGlobals "ids_that_fail" = some (some (.ref f36))) (l36 : K.lookup f36 = some ⟨oc36, od36, .func (PySem.W.fnOf "ids_that_fail" "ids_that_fail" (defArgs s_ids_that_fail) (defBody s_ids_that_fail) (defScope s_ids_that_fail) .none kV36 dc36 pm36 an36 cd36 ct36), sl36⟩) (c36 : PySem.W.codeIn K cd36 "ids_that_fail" = true) (k36 : PySem.W.keepIn K (.ref f36) = true)
    (a37 : PySem.W.nsIn K mainGlobals "things_behind" = some (some (.ref f37))) (l37 : K.lookup f37 = some ⟨oc37, od37, .func (PySem.W.fnOf "things_behind" "things_behind" (defArgs s_things_behind) (defBody s_things_behind) (defScope s_things_behind) .none kV37 dc37 pm37 an37 cd37 ct37), sl37⟩) (c37 : PySem.W.codeIn K cd37 "things_behind" = true) (k37 : PySem.W.keepIn K (.ref f37) = true)
    (a38 : PySem.W.nsIn K mainGlobals "size" = some (some (.ref f38))) (l38 : K.lookup f38 = some ⟨oc38, od38, .func (PySem.W.fnOf "size" "size" (defArgs s_size) (defBody s_size) (defScope s_size) .none kV38 dc38 pm38 an38 cd38 ct38), sl38⟩) (c38 : PySem.W.codeIn K cd38 "size" = true) (k38 : PySem.W.keepIn K (.ref f38) = true)
    {kD39 : Addr} {tD39 : Tok}
    (a39 : PySem.W.findIn K (.ref C_Ring) "__init__" = some (some (.ref f39))) (i39 : PySem.W.isFn K (.ref f39) = true) (l39 : K.lookup f39 = some ⟨oc39, od39, .func (PySem.W.fnOf "__init__" "Ring.__init__" (defArgs s_Ring___init__) (defBody s_Ring___init__) (defScope s_Ring___init__) .none (.ref kD39) dc39 pm39 an39 cd39 ct39), sl39⟩) (c39 : PySem.W.codeIn K cd39 "Ring.__init__" = true) (k39 : PySem.W.keepIn K (.ref f39) = true)
    (n39 : PySem.W.nsIn K kD39 "spacing" = some (some (.int (2) tD39)))
    (a40 : PySem.W.findIn K (.ref C_Ring) "_fill" = some (some (.ref f40))) (i40 : PySem.W.isFn K (.ref f40) = true) (l40 : K.lookup f40 = some ⟨oc40, od40, .func (PySem.W.fnOf "_fill" "Ring._fill" (defArgs s_Ring__fill) (defBody s_Ring__fill) (defScope s_Ring__fill) .none kV40 dc40 pm40 an40 cd40 ct40), sl40⟩) (c40 : PySem.W.codeIn K cd40 "Ring._fill" = true) (k40 : PySem.W.keepIn K (.ref f40) = true)
    (a41 : PySem.W.findIn K (.ref C_Ring) "_is_whole" = some (some (.ref f41))) (i41 : PySem.W.isFn K (.ref f41) = true) (l41 : K.lookup f41 = some ⟨oc41, od41, .func (PySem.W.fnOf "_is_whole" "Ring._is_whole" (defArgs s_Ring__is_whole) (defBody s_Ring__is_whole) (defScope s_Ring__is_whole) .none kV41 dc41 pm41 an41 cd41 ct41), sl41⟩) (c41 : PySem.W.codeIn K cd41 "Ring._is_whole" = true) (k41 : PySem.W.keepIn K (.ref f41) = true)
    (a42 : PySem.W.findIn K (.ref C_Ring) "put" = some (some (.ref f42))) (i42 : PySem.W.isFn K (.ref f42) = true) (l42 : K.lookup f42 = some ⟨oc42, od42, .func (PySem.W.fnOf "put" "Ring.put" (defArgs s_Ring_put) (defBody s_Ring_put) (defScope s_Ring_put) .none kV42 dc42 pm42 an42 cd42 ct42), sl42⟩) (c42 : PySem.W.codeIn K cd42 "Ring.put" = true) (k42 : PySem.W.keepIn K (.ref f42) = true)
    (a43 : PySem.W.findIn K (.ref C_Ring) "world" = some (some (.ref f43))) (i43 : PySem.W.isFn K (.ref f43) = true) (l43 : K.lookup f43 = some ⟨oc43, od43, .func (PySem.W.fnOf "world" "Ring.world" (defArgs s_Ring_world) (defBody s_Ring_world) (defScope s_Ring_world) .none kV43 dc43 pm43 an43 cd43 ct43), sl43⟩) (c43 : PySem.W.codeIn K cd43 "Ring.world" = true) (k43 : PySem.W.keepIn K (.ref f43) = true)
    (a44 : PySem.W.findIn K (.ref C_Ring) "work" = some (some (.ref f44))) (i44 : PySem.W.isFn K (.ref f44) = true) (l44 : K.lookup f44 = some ⟨oc44, od44, .func (PySem.W.fnOf "work" "Ring.work" (defArgs s_Ring_work) (defBody s_Ring_work) (defScope s_Ring_work) .none kV44 dc44 pm44 an44 cd44 ct44), sl44⟩) (c44 : PySem.W.codeIn K cd44 "Ring.work" = true) (k44 : PySem.W.keepIn K (.ref f44) = true)
    (a45 : PySem.W.findIn K (.ref C_Ring) "back_to" = some (some (.ref f45))) (i45 : PySem.W.isFn K (.ref f45) = true) (l45 : K.lookup f45 = some ⟨oc45, od45, .func (PySem.W.fnOf "back_to" "Ring.back_to" (defArgs s_Ring_back_to) (defBody s_Ring_back_to) (defScope s_Ring_back_to) .none kV45 dc45 pm45 an45 cd45 ct45), sl45⟩) (c45 : PySem.W.codeIn K cd45 "Ring.back_to" = true) (k45 : PySem.W.keepIn K (.ref f45) = true)
    (a46 : PySem.W.findIn K (.ref C_Ring) "from_tick" = some (some (.ref f46))) (i46 : PySem.W.isFn K (.ref f46) = true) (l46 : K.lookup f46 = some ⟨oc46, od46, .func (PySem.W.fnOf "from_tick" "Ring.from_tick" (defArgs s_Ring_from_tick) (defBody s_Ring_from_tick) (defScope s_Ring_from_tick) .none kV46 dc46 pm46 an46 cd46 ct46), sl46⟩) (c46 : PySem.W.codeIn K cd46 "Ring.from_tick" = true) (k46 : PySem.W.keepIn K (.ref f46) = true)
    (a47 : PySem.W.findIn K (.ref C_Ring) "_need_tick" = some (some (.ref f47))) (i47 : PySem.W.isFn K (.ref f47) = true) (l47 : K.lookup f47 = some ⟨oc47, od47, .func (PySem.W.fnOf "_need_tick" "Ring._need_tick" (defArgs s_Ring__need_tick) (defBody s_Ring__need_tick) (defScope s_Ring__need_tick) .none kV47 dc47 pm47 an47 cd47 ct47), sl47⟩) (c47 : PySem.W.codeIn K cd47 "Ring._need_tick" = true) (k47 : PySem.W.keepIn K (.ref f47) = true)
    (a48 : PySem.W.findIn K (.ref C_Ring) "__contains__" = some (some (.ref f48))) (i48 : PySem.W.isFn K (.ref f48) = true) (l48 : K.lookup f48 = some ⟨oc48, od48, .func (PySem.W.fnOf "__contains__" "Ring.__contains__" (defArgs s_Ring___contains__) (defBody s_Ring___contains__) (defScope s_Ring___contains__) .none kV48 dc48 pm48 an48 cd48 ct48), sl48⟩) (c48 : PySem.W.codeIn K cd48 "Ring.__contains__" = true) (k48 : PySem.W.keepIn K (.ref f48) = true)
    (a49 : PySem.W.findIn K (.ref C_Ring) "__len__" = some (some (.ref f49))) (i49 : PySem.W.isFn K (.ref f49) = true) (l49 : K.lookup f49 = some ⟨oc49, od49, .func (PySem.W.fnOf "__len__" "Ring.__len__" (defArgs s_Ring___len__) (defBody s_Ring___len__) (defScope s_Ring___len__) .none kV49 dc49 pm49 an49 cd49 ct49), sl49⟩) (c49 : PySem.W.codeIn K cd49 "Ring.__len__" = true) (k49 : PySem.W.keepIn K (.ref f49) = true)
    (a50 : PySem.W.findIn K (.ref C_Ring) "__eq__" = some (some (.ref f50))) (i50 : PySem.W.isFn K (.ref f50) = true) (l50 : K.lookup f50 = some ⟨oc50, od50, .func (PySem.W.fnOf "__eq__" "Ring.__eq__" (defArgs s_Ring___eq__) (defBody s_Ring___eq__) (defScope s_Ring___eq__) .none kV50 dc50 pm50 an50 cd50 ct50), sl50⟩) (c50 : PySem.W.codeIn K cd50 "Ring.__eq__" = true) (k50 : PySem.W.keepIn K (.ref f50) = true)
    (a51 : PySem.W.nsIn K mainGlobals "parts_of" = some (some (.ref f51))) (l51 : K.lookup f51 = some ⟨oc51, od51, .func (PySem.W.fnOf "parts_of" "parts_of" (defArgs s_parts_of) (defBody s_parts_of) (defScope s_parts_of) .none kV51 dc51 pm51 an51 cd51 ct51), sl51⟩) (c51 : PySem.W.codeIn K cd51 "parts_of" = true) (k51 : PySem.W.keepIn K (.ref f51) = true)
    (a52 : PySem.W.nsIn K mainGlobals "ring_of" = some (some (.ref f52))) (l52 : K.lookup f52 = some ⟨oc52, od52, .func (PySem.W.fnOf "ring_of" "ring_of" (defArgs s_ring_of) (defBody s_ring_of) (defScope s_ring_of) .none kV52 dc52 pm52 an52 cd52 ct52), sl52⟩) (c52 : PySem.W.codeIn K cd52 "ring_of" = true) (k52 : PySem.W.keepIn K (.ref f52) = true)
    (a53 : PySem.W.nsIn K mainGlobals "_law_dice" = some (some (.ref f53))) (l53 : K.lookup f53 = some ⟨oc53, od53, .func (PySem.W.fnOf "_law_dice" "_law_dice" (defArgs s_law_dice) (defBody s_law_dice) (defScope s_law_dice) .none kV53 dc53 pm53 an53 cd53 ct53), sl53⟩) (c53 : PySem.W.codeIn K cd53 "_law_dice" = true) (k53 : PySem.W.keepIn K (.ref f53) = true)
    (a54 : PySem.W.nsIn K mainGlobals "_law_roll" = some (some (.ref f54))) (l54 : K.lookup f54 = some ⟨oc54, od54, .func (PySem.W.fnOf "_law_roll" "_law_roll" (defArgs s_law_roll) (defBody s_law_roll) (defScope s_law_roll) .none kV54 dc54 pm54 an54 cd54 ct54), sl54⟩) (c54 : PySem.W.codeIn K cd54 "_law_roll" = true) (k54 : PySem.W.keepIn K (.ref f54) = true)
    (a55 : PySem.W.nsIn K mainGlobals "_law_pick" = some (some (.ref f55))) (l55 : K.lookup f55 = some ⟨oc55, od55, .func (PySem.W.fnOf "_law_pick" "_law_pick" (defArgs s_law_pick) (defBody s_law_pick) (defScope s_law_pick) .none kV55 dc55 pm55 an55 cd55 ct55), sl55⟩) (c55 : PySem.W.codeIn K cd55 "_law_pick" = true) (k55 : PySem.W.keepIn K (.ref f55) = true)
    (a56 : PySem.W.nsIn K mainGlobals "_law_met" = some (some (.ref f56))) (l56 : K.lookup f56 = some ⟨oc56, od56, .func (PySem.W.fnOf "_law_met" "_law_met" (defArgs s_law_met) (defBody s_law_met) (defScope s_law_met) .none kV56 dc56 pm56 an56 cd56 ct56), sl56⟩) (c56 : PySem.W.codeIn K cd56 "_law_met" = true) (k56 : PySem.W.keepIn K (.ref f56) = true)
    (a57 : PySem.W.nsIn K mainGlobals "_law_no_world" = some (some (.ref f57))) (l57 : K.lookup f57 = some ⟨oc57, od57, .func (PySem.W.fnOf "_law_no_world" "_law_no_world" (defArgs s_law_no_world) (defBody s_law_no_world) (defScope s_law_no_world) .none kV57 dc57 pm57 an57 cd57 ct57), sl57⟩) (c57 : PySem.W.codeIn K cd57 "_law_no_world" = true) (k57 : PySem.W.keepIn K (.ref f57) = true)
    {cc58 pt58 : Addr} {ock58 : Value} {odk58 : Option Addr} {vk58 : Array Value} {slk58 : Array (Option Value)}
    (a58 : PySem.W.nsIn K mainGlobals "_law_parts_right" = some (some (.ref f58))) (l58 : K.lookup f58 = some ⟨oc58, od58, .func (PySem.W.fnOf "_law_parts_right" "_law_parts_right" (defArgs s_law_parts_right) (defBody s_law_parts_right) (defScope s_law_parts_right) .none kV58 dc58 pm58 an58 (.ref cc58) ct58), sl58⟩) (c58 : PySem.W.codeIn K (.ref cc58) "_law_parts_right" = true) (k58 : PySem.W.keepIn K (.ref f58) = true)
    (u58 : K.lookup cc58 = some ⟨ock58, odk58, .fields vk58, slk58⟩) (w58 : vk58[11]? = some (.ref pt58)) (y58 : PySem.W.codeHdIn K cc58 pt58 = true) (r58 : h.get? pt58 = some { cls := .none, data := .fields #[] }) (fr58 : K.lookup pt58 = none)
    {cc59 pt59 : Addr} {ock59 : Value} {odk59 : Option Addr} {vk59 : Array Value} {slk59 : Array (Option Value)}
    (a59 : PySem.W.nsIn K mainGlobals "_law_ring_right" = some (some (.ref f59))) (l59 : K.lookup f59 = some ⟨oc59, od59, .func (PySem.W.fnOf "_law_ring_right" "_law_ring_right" (defArgs s_law_ring_right) (defBody s_law_ring_right) (defScope s_law_ring_right) .none kV59 dc59 pm59 an59 (.ref cc59) ct59), sl59⟩) (c59 : PySem.W.codeIn K (.ref cc59) "_law_ring_right" = true) (k59 : PySem.W.keepIn K (.ref f59) = true)
    (u59 : K.lookup cc59 = some ⟨ock59, odk59, .fields vk59, slk59⟩) (w59 : vk59[11]? = some (.ref pt59)) (y59 : PySem.W.codeHdIn K cc59 pt59 = true) (r59 : h.get? pt59 = some { cls := .none, data := .fields #[] }) (fr59 : K.lookup pt59 = none)
    {cc60 pt60 : Addr} {ock60 : Value} {odk60 : Option Addr} {vk60 : Array Value} {slk60 : Array (Option Value)}
    (a60 : PySem.W.nsIn K mainGlobals "law" = some (some (.ref f60))) (l60 : K.lookup f60 = some ⟨oc60, od60, .func (PySem.W.fnOf "law" "law" (defArgs s_law) (defBody s_law) (defScope s_law) .none kV60 dc60 pm60 an60 (.ref cc60) ct60), sl60⟩) (c60 : PySem.W.codeIn K (.ref cc60) "law" = true) (k60 : PySem.W.keepIn K (.ref f60) = true)
    (u60 : K.lookup cc60 = some ⟨ock60, odk60, .fields vk60, slk60⟩) (w60 : vk60[11]? = some (.ref pt60)) (y60 : PySem.W.codeHdIn K cc60 pt60 = true) (r60 : h.get? pt60 = some { cls := .none, data := .fields #[] }) (fr60 : K.lookup pt60 = none)
    (z_abs : PySem.W.nsIn K mainGlobals "abs" = some none)
    (z_max : PySem.W.nsIn K mainGlobals "max" = some none)
    (z_min : PySem.W.nsIn K mainGlobals "min" = some none)
    (z_int : PySem.W.nsIn K mainGlobals "int" = some none)
    (z_len : PySem.W.nsIn K mainGlobals "len" = some none)
    (z_range : PySem.W.nsIn K mainGlobals "range" = some none)
    (z_repr : PySem.W.nsIn K mainGlobals "repr" = some none)
    (z_isinstance : PySem.W.nsIn K mainGlobals "isinstance" = some none)
    (z_sorted : PySem.W.nsIn K mainGlobals "sorted" = some none)
    (z_str : PySem.W.nsIn K mainGlobals "str" = some none)
    (z_bool : PySem.W.nsIn K mainGlobals "bool" = some none)
    (z_sum : PySem.W.nsIn K mainGlobals "sum" = some none)
    (z_tuple : PySem.W.nsIn K mainGlobals "tuple" = some none)
    (z_list : PySem.W.nsIn K mainGlobals "list" = some none)
    (z_set : PySem.W.nsIn K mainGlobals "set" = some none)
    (z_all : PySem.W.nsIn K mainGlobals "all" = some none)
    (z_enumerate : PySem.W.nsIn K mainGlobals "enumerate" = some none)
    (z_zip : PySem.W.nsIn K mainGlobals "zip" = some none)
    (z_iter : PySem.W.nsIn K mainGlobals "iter" = some none)
    (v_MODULUS : PySem.W.nsIn K mainGlobals "MODULUS" = some (some (.int (999999937) t_MODULUS)))
    (v_MOST : PySem.W.nsIn K mainGlobals "MOST" = some (some (.int (1000000000) t_MOST)))
    (v_MAX_THINGS : PySem.W.nsIn K mainGlobals "MAX_THINGS" = some (some (.int (12) t_MAX_THINGS)))
    (v_MAX_FIELDS : PySem.W.nsIn K mainGlobals "MAX_FIELDS" = some (some (.int (8) t_MAX_FIELDS)))
    (v_LEAST_SIZE : PySem.W.nsIn K mainGlobals "LEAST_SIZE" = some (some (.int (3) t_LEAST_SIZE)))
    (v_MOST_SPACING : PySem.W.nsIn K mainGlobals "MOST_SPACING" = some (some (.int (6) t_MOST_SPACING)))
    (vha_World : PySem.W.findIn K (.ref C_World) "__class__" = some (some (.builtin "object.__class__")))
    (vhn_World : PySem.W.specialIn K (.builtin "object.__class__") "__get__" = some (some (.builtin "getset_descriptor.__get__")))
    (vht_World : PySem.W.takesIn K (.builtin "object.__class__") = some true)
    (vhm_World : PySem.W.mroIn K C_World (.type "object") = some true)
    (vhy_World : PySem.W.typeIn K (.ref C_World) = some (.type "type"))
    (vhs_World_tuple : PySem.W.subIn K (.type "tuple") (.ref C_World) = some false)
    (vhs_World_NoneType : PySem.W.subIn K (.type "NoneType") (.ref C_World) = some false)
    (vhs_World_str : PySem.W.subIn K (.type "str") (.ref C_World) = some false)
    (vne_World : PySem.W.findIn K (.ref C_World) "__ne__" = some (some (.builtin "object.__ne__")))
    (vob_World : PySem.W.subIn K (.ref C_World) (.type "object") = some true)
    (wg_WE : PySem.W.nsIn K mainGlobals "InvalidWorld" = some (some (.ref aWE)))
    (wx_WE : PySem.W.excIn K aWE [.type "ValueError", .type "Exception", .type "BaseException", .type "object"] "ValueError.__new__" = true)
    (wk_WE : PySem.W.keepIn K (.ref aWE) = true)
    (we_WE : PySem.W.subIn K (.ref aWE) (.type "BaseException") = some true)
    (wy_WE : PySem.W.typeIn K (.ref aWE) = some (.type "type"))
    (wg_OE : PySem.W.nsIn K mainGlobals "InvalidOperation" = some (some (.ref aOE)))
    (wx_OE : PySem.W.excIn K aOE [.type "ValueError", .type "Exception", .type "BaseException", .type "object"] "ValueError.__new__" = true)
    (wk_OE : PySem.W.keepIn K (.ref aOE) = true)
    (we_OE : PySem.W.subIn K (.ref aOE) (.type "BaseException") = some true)
    (wy_OE : PySem.W.typeIn K (.ref aOE) = some (.type "type"))
    (wg_IN : PySem.W.nsIn K mainGlobals "InvalidNumber" = some (some (.ref aIN)))
    (wo_IN : oxB K aIN "IndexError.__new__" [.type "IndexError", .type "LookupError", .type "Exception", .type "BaseException", .type "object"] = true)
    (ws_IN : PySem.W.findIn K (.ref aIN) "__setattr__" = some (some (.builtin "object.__setattr__")))
    (wk_IN : PySem.W.keepIn K (.ref aIN) = true)
    (we_IN : PySem.W.subIn K (.ref aIN) (.type "BaseException") = some true)
    (wy_IN : PySem.W.typeIn K (.ref aIN) = some (.type "type"))
    (wi_IN : PySem.W.findIn K (.ref aIN) "__init__" = some (some (.ref fIN)))
    (wt_IN : PySem.W.typeIn K (.ref fIN) = some (.type "function"))
    (wl_IN : K.lookup fIN = some ⟨ocIN, odIN, .func (PySem.W.fnOf "__init__" "InvalidNumber.__init__" (defArgs s_InvalidNumber___init__) (defBody s_InvalidNumber___init__) (defScope s_InvalidNumber___init__) .none kVIN dcIN pmIN anIN cdIN ctIN), slIN⟩)
    (wc_IN : PySem.W.codeIn K cdIN "InvalidNumber.__init__" = true)
    (wq_IN : PySem.W.keepIn K (.ref fIN) = true)
    (wf_IN : PySem.W.findIn K (.ref aIN) "given" = some none)
    (wxf_IN : xfB K aIN = true)
    (wg_UN : PySem.W.nsIn K mainGlobals "UnknownName" = some (some (.ref aUN)))
    (wo_UN : oxB K aUN "LookupError.__new__" [.type "KeyError", .type "LookupError", .type "Exception", .type "BaseException", .type "object"] = true)
    (ws_UN : PySem.W.findIn K (.ref aUN) "__setattr__" = some (some (.builtin "object.__setattr__")))
    (wk_UN : PySem.W.keepIn K (.ref aUN) = true)
    (we_UN : PySem.W.subIn K (.ref aUN) (.type "BaseException") = some true)
    (wy_UN : PySem.W.typeIn K (.ref aUN) = some (.type "type"))
    (wi_UN : PySem.W.findIn K (.ref aUN) "__init__" = some (some (.ref fUN)))
    (wt_UN : PySem.W.typeIn K (.ref fUN) = some (.type "function"))
    (wl_UN : K.lookup fUN = some ⟨ocUN, odUN, .func (PySem.W.fnOf "__init__" "UnknownName.__init__" (defArgs s_UnknownName___init__) (defBody s_UnknownName___init__) (defScope s_UnknownName___init__) .none kVUN dcUN pmUN anUN cdUN ctUN), slUN⟩)
    (wc_UN : PySem.W.codeIn K cdUN "UnknownName.__init__" = true)
    (wq_UN : PySem.W.keepIn K (.ref fUN) = true)
    (wf_UN : PySem.W.findIn K (.ref aUN) "wanted" = some none)
    (wxf_UN : xfB K aUN = true)
    (wg_RE : PySem.W.nsIn K mainGlobals "Refused" = some (some (.ref aRE)))
    (wo_RE : oxB K aRE "ArithmeticError.__new__" [.type "ArithmeticError", .type "Exception", .type "BaseException", .type "object"] = true)
    (ws_RE : PySem.W.findIn K (.ref aRE) "__setattr__" = some (some (.builtin "object.__setattr__")))
    (wk_RE : PySem.W.keepIn K (.ref aRE) = true)
    (we_RE : PySem.W.subIn K (.ref aRE) (.type "BaseException") = some true)
    (wy_RE : PySem.W.typeIn K (.ref aRE) = some (.type "type"))
    (wi_RE : PySem.W.findIn K (.ref aRE) "__init__" = some (some (.ref fRE)))
    (wt_RE : PySem.W.typeIn K (.ref fRE) = some (.type "function"))
    (wl_RE : K.lookup fRE = some ⟨ocRE, odRE, .func (PySem.W.fnOf "__init__" "Refused.__init__" (defArgs s_Refused___init__) (defBody s_Refused___init__) (defScope s_Refused___init__) .none kVRE dcRE pmRE anRE cdRE ctRE), slRE⟩)
    (wc_RE : PySem.W.codeIn K cdRE "Refused.__init__" = true)
    (wq_RE : PySem.W.keepIn K (.ref fRE) = true)
    (wf_RE : PySem.W.findIn K (.ref aRE) "reason" = some none)
    (wxf_RE : xfB K aRE = true)
    (wm_WE_WE : PySem.W.exmOne K (.ref aWE) (.ref aWE) = some true)
    (wm_OE_WE : PySem.W.exmOne K (.ref aOE) (.ref aWE) = some false)
    (wm_OE_OE : PySem.W.exmOne K (.ref aOE) (.ref aOE) = some true)
    (wm_IN_WE : PySem.W.exmOne K (.ref aIN) (.ref aWE) = some false)
    (wm_IN_OE : PySem.W.exmOne K (.ref aIN) (.ref aOE) = some false)
    (wm_IN_IN : PySem.W.exmOne K (.ref aIN) (.ref aIN) = some true)
    (wm_RE_WE : PySem.W.exmOne K (.ref aRE) (.ref aWE) = some false)
    (wm_RE_OE : PySem.W.exmOne K (.ref aRE) (.ref aOE) = some false)
    (wm_RE_IN : PySem.W.exmOne K (.ref aRE) (.ref aIN) = some false)
    (wm_RE_RE : PySem.W.exmOne K (.ref aRE) (.ref aRE) = some true)
    (vhs_World_list : PySem.W.subIn K (.type "list") (.ref C_World) = some false)
    (vhs_World_int : PySem.W.subIn K (.type "int") (.ref C_World) = some false)
    (vhs_World_dict : PySem.W.subIn K (.type "dict") (.ref C_World) = some false)
    (vhs_World_bool : PySem.W.subIn K (.type "bool") (.ref C_World) = some false)
    (hne58_59 : pt58 ≠ pt59)
    (hne58_60 : pt58 ≠ pt60)
    (hne59_60 : pt59 ≠ pt60)
    : LawG l w K CX0 16 63 "script" mg fa h := by
  have e := hfa.symm.trans (PySem.W.mg_of X G a60)
  cases e
  have F0 := fun_mk (st := s_is_integer) l0 c0 k0
  have b0 := F0.binds (ps := ["value"]) fun _ _ _ _ _ _ us hl => match us, hl with | [_], _ => rfl
  have F1 := fun_mk (st := s_is_within) l1 c1 k1
  have b1 := F1.binds (ps := ["value", "low", "high"]) fun _ _ _ _ _ _ us hl => match us, hl with | [_, _, _], _ => rfl
  have F2 := fun_mk (st := s_is_whole) l2 c2 k2
  have b2 := F2.binds (ps := ["value"]) fun _ _ _ _ _ _ us hl => match us, hl with | [_], _ => rfl
  have F3 := fun_mk (st := s_is_name) l3 c3 k3
  have b3 := F3.binds (ps := ["value"]) fun _ _ _ _ _ _ us hl => match us, hl with | [_], _ => rfl
  have F4 := fun_mk (st := s_need_within) l4 c4 k4
  have b4 := F4.binds (ps := ["value", "low", "high"]) fun _ _ _ _ _ _ us hl => match us, hl with | [_, _, _], _ => rfl
  have F5 := fun_mk (st := s_is_luck) l5 c5 k5
  have b5 := F5.binds (ps := ["value"]) fun _ _ _ _ _ _ us hl => match us, hl with | [_], _ => rfl
  have F6 := fun_mk (st := s_is_number) l6 c6 k6
  have b6 := F6.binds (ps := ["value"]) fun _ _ _ _ _ _ us hl => match us, hl with | [_], _ => rfl
  have F7 := fun_mk (st := s_World___init__) l7 c7 k7
  have b7 := F7.binds (ps := ["self", "tick", "next_id", "luck", "things"]) fun _ _ _ _ _ _ us hl => match us, hl with | [_, _, _, _, _], _ => rfl
  have F8 := fun_mk (st := s_World__fill) l8 c8 k8
  have b8 := F8.binds (ps := ["self", "tick", "next_id", "luck", "things"]) fun _ _ _ _ _ _ us hl => match us, hl with | [_, _, _, _, _], _ => rfl
  have F9 := fun_mk (st := s_World_ids) l9 c9 k9
  have b9 := F9.binds (ps := ["self", "kind"]) fun _ _ _ _ _ _ us hl => match us, hl with | [_, _], _ => rfl
  have F10 := fun_mk (st := s_World_kind_of) l10 c10 k10
  have b10 := F10.binds (ps := ["self", "thing"]) fun _ _ _ _ _ _ us hl => match us, hl with | [_, _], _ => rfl
  have F11 := fun_mk (st := s_World_numbers) l11 c11 k11
  have b11 := F11.binds (ps := ["self", "thing"]) fun _ _ _ _ _ _ us hl => match us, hl with | [_, _], _ => rfl
  have F12 := fun_mk (st := s_World___contains__) l12 c12 k12
  have b12 := F12.binds (ps := ["self", "value"]) fun _ _ _ _ _ _ us hl => match us, hl with | [_, _], _ => rfl
  have F13 := fun_mk (st := s_World___len__) l13 c13 k13
  have b13 := F13.binds (ps := ["self"]) fun _ _ _ _ _ _ us hl => match us, hl with | [_], _ => rfl
  have F14 := fun_mk (st := s_World___iter__) l14 c14 k14
  have b14 := F14.binds (ps := ["self"]) fun _ _ _ _ _ _ us hl => match us, hl with | [_], _ => rfl
  have F15 := fun_mk (st := s_World___eq__) l15 c15 k15
  have b15 := F15.binds (ps := ["self", "other"]) fun _ _ _ _ _ _ us hl => match us, hl with | [_, _], _ => rfl
  have F16 := fun_mk (st := s_World___str__) l16 c16 k16
  have b16 := F16.binds (ps := ["self"]) fun _ _ _ _ _ _ us hl => match us, hl with | [_], _ => rfl
  have F17 := fun_mk (st := s_properties_of) l17 c17 k17
  have b17 := F17.binds (ps := ["world"]) fun _ _ _ _ _ _ us hl => match us, hl with | [_], _ => rfl
  have F18 := fun_mk (st := s_world_of) l18 c18 k18
  have b18 := F18.binds (ps := ["tick", "next_id", "luck", "things"]) fun _ _ _ _ _ _ us hl => match us, hl with | [_, _, _, _], _ => rfl
  have F19 := fun_mk (st := s_are_things) l19 c19 k19
  have b19 := F19.binds (ps := ["value"]) fun _ _ _ _ _ _ us hl => match us, hl with | [_], _ => rfl
  have F20 := fun_mk (st := s_is_thing) l20 c20 k20
  have b20 := F20.binds (ps := ["value"]) fun _ _ _ _ _ _ us hl => match us, hl with | [_], _ => rfl
  have F21 := fun_mk (st := s_are_numbers) l21 c21 k21
  have b21 := F21.binds (ps := ["value"]) fun _ _ _ _ _ _ us hl => match us, hl with | [_], _ => rfl
  have F22 := fun_mk (st := s_are_in_sequence) l22 c22 k22
  have b22 := F22.binds (ps := ["things", "next_id"]) fun _ _ _ _ _ _ us hl => match us, hl with | [_, _], _ => rfl
  have F23 := fun_mk (st := s_need_world) l23 c23 k23
  have b23 := F23.binds (ps := ["value"]) fun _ _ _ _ _ _ us hl => match us, hl with | [_], _ => rfl
  have F24 := fun_mk (st := s_do_ascend) l24 c24 k24
  have b24 := F24.binds (ps := ["members"]) fun _ _ _ _ _ _ us hl => match us, hl with | [_], _ => rfl
  have F25 := fun_mk (st := s_is_difference) l25 c25 k25
  have b25 := F25.binds (ps := ["value"]) fun _ _ _ _ _ _ us hl => match us, hl with | [_], _ => rfl
  have F26 := fun_mk (st := s_are_gone) l26 c26 k26
  have b26 := F26.binds (ps := ["value"]) fun _ _ _ _ _ _ us hl => match us, hl with | [_], _ => rfl
  have F27 := fun_mk (st := s_are_coming) l27 c27 k27
  have b27 := F27.binds (ps := ["value"]) fun _ _ _ _ _ _ us hl => match us, hl with | [_], _ => rfl
  have F28 := fun_mk (st := s_are_changes) l28 c28 k28
  have b28 := F28.binds (ps := ["value"]) fun _ _ _ _ _ _ us hl => match us, hl with | [_], _ => rfl
  have F29 := fun_mk (st := s_is_change) l29 c29 k29
  have b29 := F29.binds (ps := ["value"]) fun _ _ _ _ _ _ us hl => match us, hl with | [_], _ => rfl
  have F30 := fun_mk (st := s_difference) l30 c30 k30
  have b30 := F30.binds (ps := ["one", "other"]) fun _ _ _ _ _ _ us hl => match us, hl with | [_, _], _ => rfl
  have F31 := fun_mk (st := s_difference_of) l31 c31 k31
  have b31 := F31.binds (ps := ["one", "other"]) fun _ _ _ _ _ _ us hl => match us, hl with | [_, _], _ => rfl
  have F32 := fun_mk (st := s_has_alike) l32 c32 k32
  have b32 := F32.binds (ps := ["world", "told"]) fun _ _ _ _ _ _ us hl => match us, hl with | [_, _], _ => rfl
  have F33 := fun_mk (st := s_changes_of) l33 c33 k33
  have b33 := F33.binds (ps := ["former", "told"]) fun _ _ _ _ _ _ us hl => match us, hl with | [_, _], _ => rfl
  have F34 := fun_mk (st := s_applied) l34 c34 k34
  have b34 := F34.binds (ps := ["world", "told"]) fun _ _ _ _ _ _ us hl => match us, hl with | [_, _], _ => rfl
  have F35 := fun_mk (st := s_world_behind) l35 c35 k35
  have b35 := F35.binds (ps := ["world", "told"]) fun _ _ _ _ _ _ us hl => match us, hl with | [_, _], _ => rfl
  have F36 := fun_mk (st := s_ids_that_fail) l36 c36 k36
  have b36 := F36.binds (ps := ["world", "told"]) fun _ _ _ _ _ _ us hl => match us, hl with | [_, _], _ => rfl
  have F37 := fun_mk (st := s_things_behind) l37 c37 k37
  have b37 := F37.binds (ps := ["world", "told"]) fun _ _ _ _ _ _ us hl => match us, hl with | [_, _], _ => rfl
  have F38 := fun_mk (st := s_size) l38 c38 k38
  have b38 := F38.binds (ps := ["told"]) fun _ _ _ _ _ _ us hl => match us, hl with | [_], _ => rfl
  have F39 := fun_mk (st := s_Ring___init__) l39 c39 k39
  have D39 : FunD K "__init__" "Ring.__init__" (defArgs s_Ring___init__) (defBody s_Ring___init__) (defScope s_Ring___init__) [] [("spacing", V.int (2))] f39 _ := ⟨⟨_, _, _, _, _, _, _, _, _, _, rfl, l39, c39, .inl ⟨rfl, rfl⟩, .inr ⟨kD39, rfl, fun q hq => by cases List.mem_singleton.mp hq; exact ⟨_, n39, _, rfl⟩⟩⟩, k39⟩
  obtain ⟨ds39, vd39, b39⟩ := D39.binds0 (ps := ["self", "world", "spacing"]) 2 (by decide) rfl fun _ _ _ _ _ _ us ks hu hk => match us, hu, ks, hk with | [_, _], _, [_], _ => ⟨_, _, _, _, _, _, rfl, rfl, rfl⟩
  obtain ⟨_, kb39⟩ := D39.kbinds0 (ps := ["self", "world", "spacing"]) 2 ["spacing"] [] (fun us _ ws => us ++ ws) (by decide) (fun _ h => by cases h) (fun r1 _ r3 => r1.append r3) fun _ _ _ _ _ _ us mv ws hu hm hw => match us, hu, mv, hm, ws, hw with | [_, _], _, [], _, [_], _ => rfl
  have F40 := fun_mk (st := s_Ring__fill) l40 c40 k40
  have b40 := F40.binds (ps := ["self", "first", "spacing", "kept"]) fun _ _ _ _ _ _ us hl => match us, hl with | [_, _, _, _], _ => rfl
  have F41 := fun_mk (st := s_Ring__is_whole) l41 c41 k41
  have b41 := F41.binds (ps := ["self", "tick"]) fun _ _ _ _ _ _ us hl => match us, hl with | [_, _], _ => rfl
  have F42 := fun_mk (st := s_Ring_put) l42 c42 k42
  have b42 := F42.binds (ps := ["self", "world"]) fun _ _ _ _ _ _ us hl => match us, hl with | [_, _], _ => rfl
  have F43 := fun_mk (st := s_Ring_world) l43 c43 k43
  have b43 := F43.binds (ps := ["self", "tick"]) fun _ _ _ _ _ _ us hl => match us, hl with | [_, _], _ => rfl
  have F44 := fun_mk (st := s_Ring_work) l44 c44 k44
  have b44 := F44.binds (ps := ["self", "tick"]) fun _ _ _ _ _ _ us hl => match us, hl with | [_, _], _ => rfl
  have F45 := fun_mk (st := s_Ring_back_to) l45 c45 k45
  have b45 := F45.binds (ps := ["self", "tick"]) fun _ _ _ _ _ _ us hl => match us, hl with | [_, _], _ => rfl
  have F46 := fun_mk (st := s_Ring_from_tick) l46 c46 k46
  have b46 := F46.binds (ps := ["self", "tick"]) fun _ _ _ _ _ _ us hl => match us, hl with | [_, _], _ => rfl
  have F47 := fun_mk (st := s_Ring__need_tick) l47 c47 k47
  have b47 := F47.binds (ps := ["self", "tick"]) fun _ _ _ _ _ _ us hl => match us, hl with | [_, _], _ => rfl
  have F48 := fun_mk (st := s_Ring___contains__) l48 c48 k48
  have b48 := F48.binds (ps := ["self", "value"]) fun _ _ _ _ _ _ us hl => match us, hl with | [_, _], _ => rfl
  have F49 := fun_mk (st := s_Ring___len__) l49 c49 k49
  have b49 := F49.binds (ps := ["self"]) fun _ _ _ _ _ _ us hl => match us, hl with | [_], _ => rfl
  have F50 := fun_mk (st := s_Ring___eq__) l50 c50 k50
  have b50 := F50.binds (ps := ["self", "other"]) fun _ _ _ _ _ _ us hl => match us, hl with | [_, _], _ => rfl
  have F51 := fun_mk (st := s_parts_of) l51 c51 k51
  have b51 := F51.binds (ps := ["ring"]) fun _ _ _ _ _ _ us hl => match us, hl with | [_], _ => rfl
  have F52 := fun_mk (st := s_ring_of) l52 c52 k52
  have b52 := F52.binds (ps := ["first", "spacing", "kept"]) fun _ _ _ _ _ _ us hl => match us, hl with | [_, _, _], _ => rfl
  have F53 := fun_mk (st := s_law_dice) l53 c53 k53
  have b53 := F53.binds (ps := ["script", "spot"]) fun _ _ _ _ _ _ us hl => match us, hl with | [_, _], _ => rfl
  have F54 := fun_mk (st := s_law_roll) l54 c54 k54
  have b54 := F54.binds (ps := ["dice", "total"]) fun _ _ _ _ _ _ us hl => match us, hl with | [_, _], _ => rfl
  have F55 := fun_mk (st := s_law_pick) l55 c55 k55
  have b55 := F55.binds (ps := ["dice", "items"]) fun _ _ _ _ _ _ us hl => match us, hl with | [_, _], _ => rfl
  have F56 := fun_mk (st := s_law_met) l56 c56 k56
  have b56 := F56.binds (ps := ["call"]) fun _ _ _ _ _ _ us hl => match us, hl with | [_], _ => rfl
  have F57 := fun_mk (st := s_law_no_world) l57 c57 k57
  have b57 := F57.binds (ps := ["dice"]) fun _ _ _ _ _ _ us hl => match us, hl with | [_], _ => rfl
  have F58 := fun_mk (st := s_law_parts_right) l58 c58 k58
  have b58 := F58.binds (ps := ["dice", "world"]) fun _ _ _ _ _ _ us hl => match us, hl with | [_, _], _ => rfl
  have F59 := fun_mk (st := s_law_ring_right) l59 c59 k59
  have b59 := F59.binds (ps := ["dice", "world"]) fun _ _ _ _ _ _ us hl => match us, hl with | [_, _], _ => rfl
  have F60 := fun_mk (st := s_law) l60 c60 k60
  let T : Txt K mg w := {
    a_is_integer := f0
    fd_is_integer := _
    F_is_integer := F0
    g_is_integer := PySem.W.mg_of X G a0
    b_is_integer := b0
    a_is_within := f1
    fd_is_within := _
    F_is_within := F1
    g_is_within := PySem.W.mg_of X G a1
    b_is_within := b1
    a_is_whole := f2
    fd_is_whole := _
    F_is_whole := F2
    g_is_whole := PySem.W.mg_of X G a2
    b_is_whole := b2
    a_is_name := f3
    fd_is_name := _
    F_is_name := F3
    g_is_name := PySem.W.mg_of X G a3
    b_is_name := b3
    a_need_within := f4
    fd_need_within := _
    F_need_within := F4
    g_need_within := PySem.W.mg_of X G a4
    b_need_within := b4
    a_is_luck := f5
    fd_is_luck := _
    F_is_luck := F5
    g_is_luck := PySem.W.mg_of X G a5
    b_is_luck := b5
    a_is_number := f6
    fd_is_number := _
    F_is_number := F6
    g_is_number := PySem.W.mg_of X G a6
    b_is_number := b6
    a_World___init__ := f7
    fd_World___init__ := _
    F_World___init__ := F7
    m_World___init__ := ⟨a7, i7, k7⟩
    b_World___init__ := b7
    mk_World := ⟨mi_World, a7, i7, kc_World⟩
    a_World__fill := f8
    fd_World__fill := _
    F_World__fill := F8
    m_World__fill := ⟨a8, i8, k8⟩
    b_World__fill := b8
    a_World_ids := f9
    fd_World_ids := _
    F_World_ids := F9
    m_World_ids := ⟨a9, i9, k9⟩
    b_World_ids := b9
    a_World_kind_of := f10
    fd_World_kind_of := _
    F_World_kind_of := F10
    m_World_kind_of := ⟨a10, i10, k10⟩
    b_World_kind_of := b10
    a_World_numbers := f11
    fd_World_numbers := _
    F_World_numbers := F11
    m_World_numbers := ⟨a11, i11, k11⟩
    b_World_numbers := b11
    a_World___contains__ := f12
    fd_World___contains__ := _
    F_World___contains__ := F12
    m_World___contains__ := ⟨a12, i12, k12⟩
    b_World___contains__ := b12
    a_World___len__ := f13
    fd_World___len__ := _
    F_World___len__ := F13
    m_World___len__ := ⟨a13, i13, k13⟩
    b_World___len__ := b13
    a_World___iter__ := f14
    fd_World___iter__ := _
    F_World___iter__ := F14
    m_World___iter__ := ⟨a14, i14, k14⟩
    b_World___iter__ := b14
    a_World___eq__ := f15
    fd_World___eq__ := _
    F_World___eq__ := F15
    m_World___eq__ := ⟨a15, i15, k15⟩
    b_World___eq__ := b15
    a_World___str__ := f16
    fd_World___str__ := _
    F_World___str__ := F16
    m_World___str__ := ⟨a16, i16, k16⟩
    b_World___str__ := b16
    a_properties_of := f17
    fd_properties_of := _
    F_properties_of := F17
    g_properties_of := PySem.W.mg_of X G a17
    b_properties_of := b17
    a_world_of := f18
    fd_world_of := _
    F_world_of := F18
    g_world_of := PySem.W.mg_of X G a18
    b_world_of := b18
    a_are_things := f19
    fd_are_things := _
    F_are_things := F19
    g_are_things := PySem.W.mg_of X G a19
    b_are_things := b19
    a_is_thing := f20
    fd_is_thing := _
    F_is_thing := F20
    g_is_thing := PySem.W.mg_of X G a20
    b_is_thing := b20
    a_are_numbers := f21
    fd_are_numbers := _
    F_are_numbers := F21
    g_are_numbers := PySem.W.mg_of X G a21
    b_are_numbers := b21
    a_are_in_sequence := f22
    fd_are_in_sequence := _
    F_are_in_sequence := F22
    g_are_in_sequence := PySem.W.mg_of X G a22
    b_are_in_sequence := b22
    a_need_world := f23
    fd_need_world := _
    F_need_world := F23
    g_need_world := PySem.W.mg_of X G a23
    b_need_world := b23
    a_do_ascend := f24
    fd_do_ascend := _
    F_do_ascend := F24
    g_do_ascend := PySem.W.mg_of X G a24
    b_do_ascend := b24
    a_is_difference := f25
    fd_is_difference := _
    F_is_difference := F25
    g_is_difference := PySem.W.mg_of X G a25
    b_is_difference := b25
    a_are_gone := f26
    fd_are_gone := _
    F_are_gone := F26
    g_are_gone := PySem.W.mg_of X G a26
    b_are_gone := b26
    a_are_coming := f27
    fd_are_coming := _
    F_are_coming := F27
    g_are_coming := PySem.W.mg_of X G a27
    b_are_coming := b27
    a_are_changes := f28
    fd_are_changes := _
    F_are_changes := F28
    g_are_changes := PySem.W.mg_of X G a28
    b_are_changes := b28
    a_is_change := f29
    fd_is_change := _
    F_is_change := F29
    g_is_change := PySem.W.mg_of X G a29
    b_is_change := b29
    a_difference := f30
    fd_difference := _
    F_difference := F30
    g_difference := PySem.W.mg_of X G a30
    b_difference := b30
    a_difference_of := f31
    fd_difference_of := _
    F_difference_of := F31
    g_difference_of := PySem.W.mg_of X G a31
    b_difference_of := b31
    a_has_alike := f32
    fd_has_alike := _
    F_has_alike := F32
    g_has_alike := PySem.W.mg_of X G a32
    b_has_alike := b32
    a_changes_of := f33
    fd_changes_of := _
    F_changes_of := F33
    g_changes_of := PySem.W.mg_of X G a33
    b_changes_of := b33
    a_applied := f34
    fd_applied := _
    F_applied := F34
    g_applied := PySem.W.mg_of X G a34
    b_applied := b34
    a_world_behind := f35
    fd_world_behind := _
    F_world_behind := F35
    g_world_behind := PySem.W.mg_of X G a35
    b_world_behind := b35
    a_ids_that_fail := f36
    fd_ids_that_fail := _
    F_ids_that_fail := F36
    g_ids_that_fail := PySem.W.mg_of X G a36
    b_ids_that_fail := b36
    a_things_behind := f37
    fd_things_behind := _
    F_things_behind := F37
    g_things_behind := PySem.W.mg_of X G a37
    b_things_behind := b37
    a_size := f38
    fd_size := _
    F_size := F38
    g_size := PySem.W.mg_of X G a38
    b_size := b38
    a_Ring___init__ := f39
    fd_Ring___init__ := _
    F_Ring___init__ := F39
    m_Ring___init__ := ⟨a39, i39, k39⟩
    b_Ring___init__ := b39
    mk_Ring := ⟨mi_Ring, a39, i39, kc_Ring⟩
    ds_Ring___init__ := ds39
    vd_Ring___init__ := vd39
    kb_Ring___init__ := kb39
    a_Ring__fill := f40
    fd_Ring__fill := _
    F_Ring__fill := F40
    m_Ring__fill := ⟨a40, i40, k40⟩
    b_Ring__fill := b40
    a_Ring__is_whole := f41
    fd_Ring__is_whole := _
    F_Ring__is_whole := F41
    m_Ring__is_whole := ⟨a41, i41, k41⟩
    b_Ring__is_whole := b41
    a_Ring_put := f42
    fd_Ring_put := _
    F_Ring_put := F42
    m_Ring_put := ⟨a42, i42, k42⟩
    b_Ring_put := b42
    a_Ring_world := f43
    fd_Ring_world := _
    F_Ring_world := F43
    m_Ring_world := ⟨a43, i43, k43⟩
    b_Ring_world := b43
    a_Ring_work := f44
    fd_Ring_work := _
    F_Ring_work := F44
    m_Ring_work := ⟨a44, i44, k44⟩
    b_Ring_work := b44
    a_Ring_back_to := f45
    fd_Ring_back_to := _
    F_Ring_back_to := F45
    m_Ring_back_to := ⟨a45, i45, k45⟩
    b_Ring_back_to := b45
    a_Ring_from_tick := f46
    fd_Ring_from_tick := _
    F_Ring_from_tick := F46
    m_Ring_from_tick := ⟨a46, i46, k46⟩
    b_Ring_from_tick := b46
    a_Ring__need_tick := f47
    fd_Ring__need_tick := _
    F_Ring__need_tick := F47
    m_Ring__need_tick := ⟨a47, i47, k47⟩
    b_Ring__need_tick := b47
    a_Ring___contains__ := f48
    fd_Ring___contains__ := _
    F_Ring___contains__ := F48
    m_Ring___contains__ := ⟨a48, i48, k48⟩
    b_Ring___contains__ := b48
    a_Ring___len__ := f49
    fd_Ring___len__ := _
    F_Ring___len__ := F49
    m_Ring___len__ := ⟨a49, i49, k49⟩
    b_Ring___len__ := b49
    a_Ring___eq__ := f50
    fd_Ring___eq__ := _
    F_Ring___eq__ := F50
    m_Ring___eq__ := ⟨a50, i50, k50⟩
    b_Ring___eq__ := b50
    a_parts_of := f51
    fd_parts_of := _
    F_parts_of := F51
    g_parts_of := PySem.W.mg_of X G a51
    b_parts_of := b51
    a_ring_of := f52
    fd_ring_of := _
    F_ring_of := F52
    g_ring_of := PySem.W.mg_of X G a52
    b_ring_of := b52
    a_law_dice := f53
    fd_law_dice := _
    F_law_dice := F53
    g_law_dice := PySem.W.mg_of X G a53
    b_law_dice := b53
    a_law_roll := f54
    fd_law_roll := _
    F_law_roll := F54
    g_law_roll := PySem.W.mg_of X G a54
    b_law_roll := b54
    a_law_pick := f55
    fd_law_pick := _
    F_law_pick := F55
    g_law_pick := PySem.W.mg_of X G a55
    b_law_pick := b55
    a_law_met := f56
    fd_law_met := _
    F_law_met := F56
    g_law_met := PySem.W.mg_of X G a56
    b_law_met := b56
    a_law_no_world := f57
    fd_law_no_world := _
    F_law_no_world := F57
    g_law_no_world := PySem.W.mg_of X G a57
    b_law_no_world := b57
    a_law_parts_right := f58
    fd_law_parts_right := _
    F_law_parts_right := F58
    g_law_parts_right := PySem.W.mg_of X G a58
    b_law_parts_right := b58
    a_law_ring_right := f59
    fd_law_ring_right := _
    F_law_ring_right := F59
    g_law_ring_right := PySem.W.mg_of X G a59
    b_law_ring_right := b59
    C_World := C_World
    cl_World := ⟨pg_World, hd_World, po_World, sa_World⟩
    g_World := PySem.W.mg_of X G aC_World
    n_World_tick := nA_World_tick
    n_World_next_id := nA_World_next_id
    n_World_luck := nA_World_luck
    n_World_things := nA_World_things
    n_World_order := nA_World_order
    n_World_table := nA_World_table
    C_Ring := C_Ring
    cl_Ring := ⟨pg_Ring, hd_Ring, po_Ring, sa_Ring⟩
    g_Ring := PySem.W.mg_of X G aC_Ring
    n_Ring_first := nA_Ring_first
    n_Ring_last := nA_Ring_last
    n_Ring_spacing := nA_Ring_spacing
    n_Ring_kept := nA_Ring_kept
    n_Ring_wholes := nA_Ring_wholes
    z_abs := PySem.W.mg_none_of X G z_abs
    z_max := PySem.W.mg_none_of X G z_max
    z_min := PySem.W.mg_none_of X G z_min
    z_int := PySem.W.mg_none_of X G z_int
    z_len := PySem.W.mg_none_of X G z_len
    z_range := PySem.W.mg_none_of X G z_range
    z_repr := PySem.W.mg_none_of X G z_repr
    z_isinstance := PySem.W.mg_none_of X G z_isinstance
    z_sorted := PySem.W.mg_none_of X G z_sorted
    z_str := PySem.W.mg_none_of X G z_str
    z_bool := PySem.W.mg_none_of X G z_bool
    z_sum := PySem.W.mg_none_of X G z_sum
    z_tuple := PySem.W.mg_none_of X G z_tuple
    z_list := PySem.W.mg_none_of X G z_list
    z_set := PySem.W.mg_none_of X G z_set
    z_all := PySem.W.mg_none_of X G z_all
    z_enumerate := PySem.W.mg_none_of X G z_enumerate
    z_zip := PySem.W.mg_none_of X G z_zip
    z_iter := PySem.W.mg_none_of X G z_iter
    t_MODULUS := t_MODULUS
    g_MODULUS := PySem.W.mg_of X G v_MODULUS
    t_MOST := t_MOST
    g_MOST := PySem.W.mg_of X G v_MOST
    t_MAX_THINGS := t_MAX_THINGS
    g_MAX_THINGS := PySem.W.mg_of X G v_MAX_THINGS
    t_MAX_FIELDS := t_MAX_FIELDS
    g_MAX_FIELDS := PySem.W.mg_of X G v_MAX_FIELDS
    t_LEAST_SIZE := t_LEAST_SIZE
    g_LEAST_SIZE := PySem.W.mg_of X G v_LEAST_SIZE
    t_MOST_SPACING := t_MOST_SPACING
    g_MOST_SPACING := PySem.W.mg_of X G v_MOST_SPACING
    ha_World := vha_World
    hn_World := vhn_World
    ht_World := vht_World
    hm_World := vhm_World
    hc_World := (by obtain ⟨cd, hc, _⟩ := PySem.W.any_some hd_World; rw [hc]; rfl)
    hy_World := vhy_World
    hs_World_tuple := vhs_World_tuple
    hs_World_NoneType := vhs_World_NoneType
    hs_World_str := vhs_World_str
    ne_World := vne_World
    ob_World := vob_World
    C_WE := aWE
    g_InvalidWorld := PySem.W.mg_of X G wg_WE
    x_WE := wx_WE
    k_WE := wk_WE
    e_WE := we_WE
    y_WE := wy_WE
    C_OE := aOE
    g_InvalidOperation := PySem.W.mg_of X G wg_OE
    x_OE := wx_OE
    k_OE := wk_OE
    e_OE := we_OE
    y_OE := wy_OE
    C_IN := aIN
    g_InvalidNumber := PySem.W.mg_of X G wg_IN
    o_IN := ⟨oxB_ok wo_IN, ws_IN, we_IN, wy_IN, wk_IN⟩
    a_InvalidNumber___init__ := fIN
    fd_InvalidNumber___init__ := _
    F_InvalidNumber___init__ := (fun_mk (st := s_InvalidNumber___init__) wl_IN wc_IN wq_IN)
    b_InvalidNumber___init__ := (fun_mk (st := s_InvalidNumber___init__) wl_IN wc_IN wq_IN).binds (ps := ["self", "given"]) fun _ _ _ _ _ _ us hl => match us, hl with | [_, _], _ => rfl
    i_IN := wi_IN
    t_IN := wt_IN
    f_IN := wf_IN
    x_IN := xfB_ok wxf_IN
    C_UN := aUN
    g_UnknownName := PySem.W.mg_of X G wg_UN
    o_UN := ⟨oxB_ok wo_UN, ws_UN, we_UN, wy_UN, wk_UN⟩
    a_UnknownName___init__ := fUN
    fd_UnknownName___init__ := _
    F_UnknownName___init__ := (fun_mk (st := s_UnknownName___init__) wl_UN wc_UN wq_UN)
    b_UnknownName___init__ := (fun_mk (st := s_UnknownName___init__) wl_UN wc_UN wq_UN).binds (ps := ["self", "wanted"]) fun _ _ _ _ _ _ us hl => match us, hl with | [_, _], _ => rfl
    i_UN := wi_UN
    t_UN := wt_UN
    f_UN := wf_UN
    x_UN := xfB_ok wxf_UN
    C_RE := aRE
    g_Refused := PySem.W.mg_of X G wg_RE
    o_RE := ⟨oxB_ok wo_RE, ws_RE, we_RE, wy_RE, wk_RE⟩
    a_Refused___init__ := fRE
    fd_Refused___init__ := _
    F_Refused___init__ := (fun_mk (st := s_Refused___init__) wl_RE wc_RE wq_RE)
    b_Refused___init__ := (fun_mk (st := s_Refused___init__) wl_RE wc_RE wq_RE).binds (ps := ["self", "reason"]) fun _ _ _ _ _ _ us hl => match us, hl with | [_, _], _ => rfl
    i_RE := wi_RE
    t_RE := wt_RE
    f_RE := wf_RE
    x_RE := xfB_ok wxf_RE
    m_WE_WE := wm_WE_WE
    m_OE_WE := wm_OE_WE
    m_OE_OE := wm_OE_OE
    m_IN_WE := wm_IN_WE
    m_IN_OE := wm_IN_OE
    m_IN_IN := wm_IN_IN
    m_RE_WE := wm_RE_WE
    m_RE_OE := wm_RE_OE
    m_RE_IN := wm_RE_IN
    m_RE_RE := wm_RE_RE
    hs_World_list := vhs_World_list
    hs_World_int := vhs_World_int
    hs_World_dict := vhs_World_dict
    hs_World_bool := vhs_World_bool
  }
  have L58 : FunL K "_law_parts_right" "_law_parts_right" s_law_parts_right cc58 _ _ := ⟨⟨_, _, _, _, _, _, _, _, rfl, l58, c58⟩, k58⟩
  have L59 : FunL K "_law_ring_right" "_law_ring_right" s_law_ring_right cc59 _ _ := ⟨⟨_, _, _, _, _, _, _, _, rfl, l59, c59⟩, k59⟩
  have L60 : FunL K "law" "law" s_law cc60 _ _ := ⟨⟨_, _, _, _, _, _, _, _, rfl, l60, c60⟩, k60⟩
  refine ⟨_, [(cc58, pt58), (cc59, pt59), (cc60, pt60)], spLaw K pt58 pt59 pt60, (List.forall_mem_cons.mpr ⟨r58, (List.forall_mem_cons.mpr ⟨r59, (List.forall_mem_cons.mpr ⟨r60, fun _ h => nomatch h⟩)⟩)⟩), (List.forall_mem_cons.mpr ⟨fr58, (List.forall_mem_cons.mpr ⟨fr59, (List.forall_mem_cons.mpr ⟨fr60, fun _ h => nomatch h⟩)⟩)⟩), (List.forall_mem_cons.mpr ⟨PySem.W.codeHd_of_K X y58, (List.forall_mem_cons.mpr ⟨PySem.W.codeHd_of_K X y59, (List.forall_mem_cons.mpr ⟨PySem.W.codeHd_of_K X y60, fun _ h => nomatch h⟩)⟩)⟩), fun s v => .of_eq rfl, fun H a ns hl hq hS => ⟨a, ns, rfl, hS, hl, fun p hp => ?_, fun _ => rfl⟩, fun base _ _ TB => ok_law T (TB _ (List.mem_cons_self ..)) (TB _ (List.mem_cons_of_mem _ (List.mem_cons_self ..))) (TB _ (List.mem_cons_of_mem _ (List.mem_cons_of_mem _ (List.mem_cons_self ..)))) ⟨hne58_59, hne58_60, hne59_60⟩ L58 L59 L60⟩
  rcases List.mem_cons.mp hp with rfl | hp
  · exact LamX.TabS.nil (hq _ (List.mem_cons_self ..))
  rcases List.mem_cons.mp hp with rfl | hp
  · exact LamX.TabS.nil (hq _ (List.mem_cons_of_mem _ (List.mem_cons_self ..)))
  rw [List.mem_singleton.mp hp]; exact LamX.TabS.nil (hq _ (List.mem_cons_of_mem _ (List.mem_cons_of_mem _ (List.mem_cons_self ..))))
end Kz
open PySem PySem.W PyProof.Rows
set_option maxHeartbeats 0 in
theorem PySem.Challenge.cw_settledplay_k33_errors_of_differences_an_holds : PySem.Challenge.rw_settledplay_k33_errors_of_differences_an.Holds := by
  w_on; o_law; k_head; (case hw => w_witness2)
  k_fill
  refine L2.walk_ofG (l := PySem.Challenge.rw_settledplay_k33_errors_of_differences_an) (n := 63) (k := 16) (x := "script") (CX := fun _ => L2.CX0) rfl (by decide) rfl ⟨rfl, by decide, by decide⟩ (fun w h Y => PySem.W.km_in_of Y) ?F (fun _ _ _ _ _ h => h)
  case F =>
    intro w mg fa h Y KX G hmg
    have hT8 := PySem.W.km_tabs_of Y
    refine' Kz.all_mk KX G hmg ?aC_World ?pg_World ?hd_World ?po_World ?sa_World ?mi_World ?kc_World ?nA_World_tick ?nA_World_next_id ?nA_World_luck ?nA_World_things ?nA_World_order ?nA_World_table ?aC_Ring ?pg_Ring ?hd_Ring ?po_Ring ?sa_Ring ?mi_Ring ?kc_Ring ?nA_Ring_first ?nA_Ring_last ?nA_Ring_spacing ?nA_Ring_kept ?nA_Ring_wholes ?a0 ?l0 ?c0 ?k0 ?a1 ?l1 ?c1 ?k1 ?a2 ?l2 ?c2 ?k2 ?a3 ?l3 ?c3 ?k3 ?a4 ?l4 ?c4 ?k4 ?a5 ?l5 ?c5 ?k5 ?a6 ?l6 ?c6 ?k6 ?a7 ?i7 ?l7 ?c7 ?k7 ?a8 ?i8 ?l8 ?c8 ?k8 ?a9 ?i9 ?l9 ?c9 ?k9 ?a10 ?i10 ?l10 ?c10 ?k10 ?a11 ?i11 ?l11 ?c11 ?k11 ?a12 ?i12 ?l12 ?c12 ?k12 ?a13 ?i13 ?l13 ?c13 ?k13 ?a14 ?i14 ?l14 ?c14 ?k14 ?a15 ?i15 ?l15 ?c15 ?k15 ?a16 ?i16 ?l16 ?c16 ?k16 ?a17 ?l17 ?c17 ?k17 ?a18 ?l18 ?c18 ?k18 ?a19 ?l19 ?c19 ?k19 ?a20 ?l20 ?c20 ?k20 ?a21 ?l21 ?c21 ?k21 ?a22 ?l22 ?c22 ?k22 ?a23 ?l23 ?c23 ?k23 ?a24 ?l24 ?c24 ?k24 ?a25 ?l25 ?c25 ?k25 ?a26 ?l26 ?c26 ?k26 ?a27 ?l27 ?c27 ?k27 ?a28 ?l28 ?c28 ?k28 ?a29 ?l29 ?c29 ?k29 ?a30 ?l30 ?c30 ?k30 ?a31 ?l31 ?c31 ?k31 ?a32 ?l32 ?c32 ?k32 ?a33 ?l33 ?c33 ?k33 ?a34 ?l34 ?c34 ?k34 ?a35 ?l35 ?c35 ?k35 ?a36 ?l36 ?c36 ?k36 ?a37 ?l37 ?c37 ?k37 ?a38 ?l38 ?c38 ?k38 ?a39 ?i39 ?l39 ?c39 ?k39 ?n39 ?a40 ?i40 ?l40 ?c40 ?k40 ?a41 ?i41 ?l41 ?c41 ?k41 ?a42 ?i42 ?l42 ?c42 ?k42 ?a43 ?i43 ?l43 ?c43 ?k43 ?a44 ?i44 ?l44 ?c44 ?k44 ?a45 ?i45 ?l45 ?c45 ?k45 ?a46 ?i46 ?l46 ?c46 ?k46 ?a47 ?i47 ?l47 ?c47 ?k47 ?a48 ?i48 ?l48 ?c48 ?k48 ?a49 ?i49 ?l49 ?c49 ?k49 ?a50 ?i50 ?l50 ?c50 ?k50 ?a51 ?l51 ?c51 ?k51 ?a52 ?l52 ?c52 ?k52 ?a53 ?l53 ?c53 ?k53 ?a54 ?l54 ?c54 ?k54 ?a55 ?l55 ?c55 ?k55 ?a56 ?l56 ?c56 ?k56 ?a57 ?l57 ?c57 ?k57 ?a58 ?l58 ?c58 ?k58 ?u58 ?w58 ?y58 ?r58 ?fr58 ?a59 ?l59 ?c59 ?k59 ?u59 ?w59 ?y59 ?r59 ?fr59 ?a60 ?l60 ?c60 ?k60 ?u60 ?w60 ?y60 ?r60 ?fr60 ?z_abs ?z_max ?z_min ?z_int ?z_len ?z_range ?z_repr ?z_isinstance ?z_sorted ?z_str ?z_bool ?z_sum ?z_tuple ?z_list ?z_set ?z_all ?z_enumerate ?z_zip ?z_iter ?v_MODULUS ?v_MOST ?v_MAX_THINGS ?v_MAX_FIELDS ?v_LEAST_SIZE ?v_MOST_SPACING ?vha_World ?vhn_World ?vht_World ?vhm_World ?vhy_World ?vhs_World_tuple ?vhs_World_NoneType ?vhs_World_str ?vne_World ?vob_World ?wg_WE ?wx_WE ?wk_WE ?we_WE ?wy_WE ?wg_OE ?wx_OE ?wk_OE ?we_OE ?wy_OE ?wg_IN ?wo_IN ?ws_IN ?wk_IN ?we_IN ?wy_IN ?wi_IN ?wt_IN ?wl_IN ?wc_IN ?wq_IN ?wf_IN ?wxf_IN ?wg_UN ?wo_UN ?ws_UN ?wk_UN ?we_UN ?wy_UN ?wi_UN ?wt_UN ?wl_UN ?wc_UN ?wq_UN ?wf_UN ?wxf_UN ?wg_RE ?wo_RE ?ws_RE ?wk_RE ?we_RE ?wy_RE ?wi_RE ?wt_RE ?wl_RE ?wc_RE ?wq_RE ?wf_RE ?wxf_RE ?wm_WE_WE ?wm_OE_WE ?wm_OE_OE ?wm_IN_WE ?wm_IN_OE ?wm_IN_IN ?wm_RE_WE ?wm_RE_OE ?wm_RE_IN ?wm_RE_RE ?vhs_World_list ?vhs_World_int ?vhs_World_dict ?vhs_World_bool ?hne58_59 ?hne58_60 ?hne59_60
    (case aC_World => k_is)
    (case pg_World => k_is)
    (case hd_World => k_is)
    (case po_World => k_is)
    (case sa_World => k_is)
    (case mi_World => k_is)
    (case kc_World => k_is)
    (case nA_World_tick => k_is)
    (case nA_World_next_id => k_is)
    (case nA_World_luck => k_is)
    (case nA_World_things => k_is)
    (case nA_World_order => k_is)
    (case nA_World_table => k_is)
    (case aC_Ring => k_is)
    (case pg_Ring => k_is)
    (case hd_Ring => k_is)
    (case po_Ring => k_is)
    (case sa_Ring => k_is)
    (case mi_Ring => k_is)
    (case kc_Ring => k_is)
    (case nA_Ring_first => k_is)
    (case nA_Ring_last => k_is)
    (case nA_Ring_spacing => k_is)
    (case nA_Ring_kept => k_is)
    (case nA_Ring_wholes => k_is)
    (case a0 => k_is)
    (case l0 => k_is)
    (case c0 => k_is)
    (case k0 => k_is)
    (case a1 => k_is)
    (case l1 => k_is)
    (case c1 => k_is)
    (case k1 => k_is)
    (case a2 => k_is)
    (case l2 => k_is)
    (case c2 => k_is)
    (case k2 => k_is)
    (case a3 => k_is)
    (case l3 => k_is)
    (case c3 => k_is)
    (case k3 => k_is)
    (case a4 => k_is)
    (case l4 => k_is)
    (case c4 => k_is)
    (case k4 => k_is)
    (case a5 => k_is)
    (case l5 => k_is)
    (case c5 => k_is)
    (case k5 => k_is)
    (case a6 => k_is)
    (case l6 => k_is)
    (case c6 => k_is)
    (case k6 => k_is)
    (case a7 => k_is)
    (case i7 => k_is)
    (case l7 => k_is)
    (case c7 => k_is)
    (case k7 => k_is)
    (case a8 => k_is)
    (case i8 => k_is)
    (case l8 => k_is)
    (case c8 => k_is)
    (case k8 => k_is)
    (case a9 => k_is)
    (case i9 => k_is)
    (case l9 => k_is)
    (case c9 => k_is)
    (case k9 => k_is)
    (case a10 => k_is)
    (case i10 => k_is)
    (case l10 => k_is)
    (case c10 => k_is)
    (case k10 => k_is)
    (case a11 => k_is)
    (case i11 => k_is)
    (case l11 => k_is)
    (case c11 => k_is)
    (case k11 => k_is)
    (case a12 => k_is)
    (case i12 => k_is)
    (case l12 => k_is)
    (case c12 => k_is)
    (case k12 => k_is)
    (case a13 => k_is)
    (case i13 => k_is)
    (case l13 => k_is)
    (case c13 => k_is)
    (case k13 => k_is)
    (case a14 => k_is)
    (case i14 => k_is)
    (case l14 => k_is)
    (case c14 => k_is)
    (case k14 => k_is)
    (case a15 => k_is)
    (case i15 => k_is)
    (case l15 => k_is)
    (case c15 => k_is)
    (case k15 => k_is)
    (case a16 => k_is)
    (case i16 => k_is)
    (case l16 => k_is)
    (case c16 => k_is)
    (case k16 => k_is)
    (case a17 => k_is)
    (case l17 => k_is)
    (case c17 => k_is)
    (case k17 => k_is)
    (case a18 => k_is)
    (case l18 => k_is)
    (case c18 => k_is)
    (case k18 => k_is)
    (case a19 => k_is)
    (case l19 => k_is)
    (case c19 => k_is)
    (case k19 => k_is)
    (case a20 => k_is)
    (case l20 => k_is)
    (case c20 => k_is)
    (case k20 => k_is)
    (case a21 => k_is)
    (case l21 => k_is)
    (case c21 => k_is)
    (case k21 => k_is)
    (case a22 => k_is)
    (case l22 => k_is)
    (case c22 => k_is)
    (case k22 => k_is)
    (case a23 => k_is)
    (case l23 => k_is)
    (case c23 => k_is)
    (case k23 => k_is)
    (case a24 => k_is)
    (case l24 => k_is)
    (case c24 => k_is)
    (case k24 => k_is)
    (case a25 => k_is)
    (case l25 => k_is)
    (case c25 => k_is)
    (case k25 => k_is)
    (case a26 => k_is)
    (case l26 => k_is)
    (case c26 => k_is)
    (case k26 => k_is)
    (case a27 => k_is)
    (case l27 => k_is)
    (case c27 => k_is)
    (case k27 => k_is)
    (case a28 => k_is)
    (case l28 => k_is)
    (case c28 => k_is)
    (case k28 => k_is)
    (case a29 => k_is)
    (case l29 => k_is)
    (case c29 => k_is)
    (case k29 => k_is)
    (case a30 => k_is)
    (case l30 => k_is)
    (case c30 => k_is)
    (case k30 => k_is)
    (case a31 => k_is)
    (case l31 => k_is)
    (case c31 => k_is)
    (case k31 => k_is)
    (case a32 => k_is)
    (case l32 => k_is)
    (case c32 => k_is)
    (case k32 => k_is)
    (case a33 => k_is)
    (case l33 => k_is)
    (case c33 => k_is)
    (case k33 => k_is)
    (case a34 => k_is)
    (case l34 => k_is)
    (case c34 => k_is)
    (case k34 => k_is)
    (case a35 => k_is)
    (case l35 => k_is)
    (case c35 => k_is)
    (case k35 => k_is)
    (case a36 => k_is)
    (case l36 => k_is)
    (case c36 => k_is)
    (case k36 => k_is)
    (case a37 => k_is)
    (case l37 => k_is)
    (case c37 => k_is)
    (case k37 => k_is)
    (case a38 => k_is)
    (case l38 => k_is)
    (case c38 => k_is)
    (case k38 => k_is)
    (case a39 => k_is)
    (case i39 => k_is)
    (case l39 => k_is)
    (case c39 => k_is)
    (case k39 => k_is)
    (case n39 => k_is)
    (case a40 => k_is)
    (case i40 => k_is)
    (case l40 => k_is)
    (case c40 => k_is)
    (case k40 => k_is)
    (case a41 => k_is)
    (case i41 => k_is)
    (case l41 => k_is)
    (case c41 => k_is)
    (case k41 => k_is)
    (case a42 => k_is)
    (case i42 => k_is)
    (case l42 => k_is)
    (case c42 => k_is)
    (case k42 => k_is)
    (case a43 => k_is)
    (case i43 => k_is)
    (case l43 => k_is)
    (case c43 => k_is)
    (case k43 => k_is)
    (case a44 => k_is)
    (case i44 => k_is)
    (case l44 => k_is)
    (case c44 => k_is)
    (case k44 => k_is)
    (case a45 => k_is)
    (case i45 => k_is)
    (case l45 => k_is)
    (case c45 => k_is)
    (case k45 => k_is)
    (case a46 => k_is)
    (case i46 => k_is)
    (case l46 => k_is)
    (case c46 => k_is)
    (case k46 => k_is)
    (case a47 => k_is)
    (case i47 => k_is)
    (case l47 => k_is)
    (case c47 => k_is)
    (case k47 => k_is)
    (case a48 => k_is)
    (case i48 => k_is)
    (case l48 => k_is)
    (case c48 => k_is)
    (case k48 => k_is)
    (case a49 => k_is)
    (case i49 => k_is)
    (case l49 => k_is)
    (case c49 => k_is)
    (case k49 => k_is)
    (case a50 => k_is)
    (case i50 => k_is)
    (case l50 => k_is)
    (case c50 => k_is)
    (case k50 => k_is)
    (case a51 => k_is)
    (case l51 => k_is)
    (case c51 => k_is)
    (case k51 => k_is)
    (case a52 => k_is)
    (case l52 => k_is)
    (case c52 => k_is)
    (case k52 => k_is)
    (case a53 => k_is)
    (case l53 => k_is)
    (case c53 => k_is)
    (case k53 => k_is)
    (case a54 => k_is)
    (case l54 => k_is)
    (case c54 => k_is)
    (case k54 => k_is)
    (case a55 => k_is)
    (case l55 => k_is)
    (case c55 => k_is)
    (case k55 => k_is)
    (case a56 => k_is)
    (case l56 => k_is)
    (case c56 => k_is)
    (case k56 => k_is)
    (case a57 => k_is)
    (case l57 => k_is)
    (case c57 => k_is)
    (case k57 => k_is)
    (case a58 => k_is)
    (case l58 => k_is)
    (case c58 => k_is)
    (case k58 => k_is)
    (case u58 => k_is)
    (case w58 => first | rfl | kernel_rfl)
    (case y58 => kernel_rfl)
    (case r58 => exact hT8 _ (by decide))
    (case fr58 => kernel_rfl)
    (case a59 => k_is)
    (case l59 => k_is)
    (case c59 => k_is)
    (case k59 => k_is)
    (case u59 => k_is)
    (case w59 => first | rfl | kernel_rfl)
    (case y59 => kernel_rfl)
    (case r59 => exact hT8 _ (by decide))
    (case fr59 => kernel_rfl)
    (case a60 => k_is)
    (case l60 => k_is)
    (case c60 => k_is)
    (case k60 => k_is)
    (case u60 => k_is)
    (case w60 => first | rfl | kernel_rfl)
    (case y60 => kernel_rfl)
    (case r60 => exact hT8 _ (by decide))
    (case fr60 => kernel_rfl)
    (case z_abs => k_is)
    (case z_max => k_is)
    (case z_min => k_is)
    (case z_int => k_is)
    (case z_len => k_is)
    (case z_range => k_is)
    (case z_repr => k_is)
    (case z_isinstance => k_is)
    (case z_sorted => k_is)
    (case z_str => k_is)
    (case z_bool => k_is)
    (case z_sum => k_is)
    (case z_tuple => k_is)
    (case z_list => k_is)
    (case z_set => k_is)
    (case z_all => k_is)
    (case z_enumerate => k_is)
    (case z_zip => k_is)
    (case z_iter => k_is)
    (case v_MODULUS => k_is)
    (case v_MOST => k_is)
    (case v_MAX_THINGS => k_is)
    (case v_MAX_FIELDS => k_is)
    (case v_LEAST_SIZE => k_is)
    (case v_MOST_SPACING => k_is)
    (case vha_World => k_is)
    (case vhn_World => k_is)
    (case vht_World => k_is)
    (case vhm_World => k_is)
    (case vhy_World => k_is)
    (case vhs_World_tuple => k_is)
    (case vhs_World_NoneType => k_is)
    (case vhs_World_str => k_is)
    (case vne_World => k_is)
    (case vob_World => k_is)
    (case wg_WE => k_is)
    (case wx_WE => k_exc)
    (case wk_WE => k_is)
    (case we_WE => k_is)
    (case wy_WE => k_is)
    (case wg_OE => k_is)
    (case wx_OE => k_exc)
    (case wk_OE => k_is)
    (case we_OE => k_is)
    (case wy_OE => k_is)
    (case wg_IN => k_is)
    (case wo_IN => kernel_rfl)
    (case ws_IN => first | rfl | k_is)
    (case wk_IN => k_is)
    (case we_IN => k_is)
    (case wy_IN => k_is)
    (case wi_IN => k_is)
    (case wt_IN => k_is)
    (case wl_IN => k_is)
    (case wc_IN => k_is)
    (case wq_IN => k_is)
    (case wf_IN => k_is)
    (case wxf_IN => kernel_rfl)
    (case wg_UN => k_is)
    (case wo_UN => kernel_rfl)
    (case ws_UN => first | rfl | k_is)
    (case wk_UN => k_is)
    (case we_UN => k_is)
    (case wy_UN => k_is)
    (case wi_UN => k_is)
    (case wt_UN => k_is)
    (case wl_UN => k_is)
    (case wc_UN => k_is)
    (case wq_UN => k_is)
    (case wf_UN => k_is)
    (case wxf_UN => kernel_rfl)
    (case wg_RE => k_is)
    (case wo_RE => kernel_rfl)
    (case ws_RE => first | rfl | k_is)
    (case wk_RE => k_is)
    (case we_RE => k_is)
    (case wy_RE => k_is)
    (case wi_RE => k_is)
    (case wt_RE => k_is)
    (case wl_RE => k_is)
    (case wc_RE => k_is)
    (case wq_RE => k_is)
    (case wf_RE => k_is)
    (case wxf_RE => kernel_rfl)
    (case wm_WE_WE => kernel_rfl)
    (case wm_OE_WE => kernel_rfl)
    (case wm_OE_OE => kernel_rfl)
    (case wm_IN_WE => kernel_rfl)
    (case wm_IN_OE => kernel_rfl)
    (case wm_IN_IN => kernel_rfl)
    (case wm_RE_WE => kernel_rfl)
    (case wm_RE_OE => kernel_rfl)
    (case wm_RE_IN => kernel_rfl)
    (case wm_RE_RE => kernel_rfl)
    (case vhs_World_list => k_is)
    (case vhs_World_int => k_is)
    (case vhs_World_dict => k_is)
    (case vhs_World_bool => k_is)
    (case hne58_59 => decide)
    (case hne58_60 => decide)
    (case hne59_60 => decide)
